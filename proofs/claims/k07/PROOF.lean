import PyProof.Rows.All
import Wide.All
import OpenK.AllK
import Wide.FinOn
import HandS.ForMost
import HandS.ForExc
import HandS.IsInst
import HandS.Evl
import HandS.Zip
import HandS.Star
import KE.KStar
import PyProof.MeetsSeq2
import HandS.TupLe
import HandS.HotCalls
import HandS.Deep
import HandS.ExcIs
import HandS.SortRule
import HandS.SortInts
import KE.KSortTupAny
import PyProof.Rows.StrMeet
import PyProof.Rows.SortKeyStr
import PyProof.TupleOfSeq
import KE.KMathGC
import HandS.Conv
import KE.DatumOrd
import KE.DataMinMax
import HandS.Hot
import HandS.ExcCtx
import PyProof.StrLawsIn
import PySem.Challenge.RW_boxheap_k07_texts_that_are_lanes
set_option Elab.async false
set_option linter.all false
set_option maxRecDepth 100000
set_option maxHeartbeats 4000000
/-! Data, owned trees, environments: a layer over HandS. -/
namespace DL
open PySem PySem.Spec PyProof.Rows L2
open Evl (Ex)

/-- plain data; scr: the script -/
inductive D where
  | non | bl (b : Bool) | int (i : Int) | str (x : Str) | lst (xs : List D) | tup (xs : List D) | scr (ns : List Int) | ktp (ns : List Int)
instance : Inhabited D := ⟨.non⟩

section
variable (K : PySem.W.Frag) (H : Hp)
mutual
inductive Dt : V → D → Prop
  | non : Dt .non .non
  | bl (b : Bool) : Dt (.bl b) (.bl b)
  | int (i : Int) : Dt (.int i) (.int i)
  | str (x : Str) : Dt (.str x) (.str x)
  | lst {a : Addr} {xs : List V} {ds : List D} : H a = some (.lst xs) → DtL xs ds → Dt (.ref a) (.lst ds)
  | tup {a : Addr} {xs : List V} {ds : List D} : H a = some (.tup xs) → DtL xs ds → Dt (.ref a) (.tup ds)
  | ktp {a : Addr} {ns : List Int} : SqT K H a (ns.map V.int) → Dt (.ref a) (.ktp ns)
  | scr {a : Addr} {ns : List Int} : SqL K H a (ns.map V.int) → ns.length ≤ 63 → Dt (.ref a) (.scr ns)
inductive DtL : List V → List D → Prop
  | nil : DtL [] []
  | cons {v : V} {vs : List V} {d : D} {ds : List D} : Dt v d → DtL vs ds → DtL (v :: vs) (d :: ds)
end
end
section
variable {K : PySem.W.Frag} {H H' : Hp}
mutual
theorem Dt.mono (e : Ex H H') : ∀ {v : V} {d : D}, Dt K H v d → Dt K H' v d
  | _, _, .non => .non
  | _, _, .bl b => .bl b
  | _, _, .int i => .int i
  | _, _, .str x => .str x
  | _, _, .lst h t => .lst (e _ _ h) (DtL.mono e t)
  | _, _, .tup h t => .tup (e _ _ h) (DtL.mono e t)
  | _, _, .ktp h => .ktp (Evl.ex_t e h)
  | _, _, .scr h z => .scr (Evl.ex_l e h) z
theorem DtL.mono (e : Ex H H') : ∀ {vs : List V} {ds : List D}, DtL K H vs ds → DtL K H' vs ds
  | _, _, .nil => .nil
  | _, _, .cons h t => .cons (Dt.mono e h) (DtL.mono e t)
end
theorem DtL.len : ∀ {vs : List V} {ds : List D}, DtL K H vs ds → vs.length = ds.length
  | _, _, .nil => rfl
  | _, _, .cons _ t => congrArg (· + 1) (DtL.len t)
theorem DtL.get : ∀ {vs : List V} {ds : List D} {i : Nat} {d : D}, DtL K H vs ds → ds[i]? = some d → ∃ v, vs[i]? = some v ∧ Dt K H v d
  | _, _, _, _, .nil, e => by simp at e
  | _, _, 0, _, .cons r _, e => by simp at e; subst e; exact ⟨_, rfl, r⟩
  | _, _, i + 1, x, .cons _ t, e => by
    obtain ⟨u, h1, h2⟩ := DtL.get (i := i) (d := x) t (by simpa using e)
    exact ⟨u, by simpa using h1, h2⟩
theorem DtL.getV : ∀ {vs : List V} {ds : List D} {i : Nat} {v : V}, DtL K H vs ds → vs[i]? = some v → ∃ d, ds[i]? = some d ∧ Dt K H v d
  | _, _, _, _, .nil, e => by simp at e
  | _, _, 0, _, .cons r _, e => by simp at e; subst e; exact ⟨_, rfl, r⟩
  | _, _, i + 1, x, .cons _ t, e => by
    obtain ⟨u, h1, h2⟩ := DtL.getV (i := i) (v := x) t (by simpa using e)
    exact ⟨u, by simpa using h1, h2⟩
theorem DtL.append : ∀ {vs ws : List V} {ds es : List D}, DtL K H vs ds → DtL K H ws es → DtL K H (vs ++ ws) (ds ++ es)
  | _, _, _, _, .nil, s => s
  | _, _, _, _, .cons r t, s => .cons r (DtL.append t s)
theorem DtL.take : ∀ {vs : List V} {ds : List D} (n : Nat), DtL K H vs ds → DtL K H (vs.take n) (ds.take n)
  | _, _, 0, _ => .nil
  | _, _, _ + 1, .nil => .nil
  | _, _, n + 1, .cons r t => .cons r (DtL.take n t)
theorem DtL.drop : ∀ {vs : List V} {ds : List D} (n : Nat), DtL K H vs ds → DtL K H (vs.drop n) (ds.drop n)
  | _, _, 0, r => r
  | _, _, _ + 1, .nil => .nil
  | _, _, n + 1, .cons _ t => DtL.drop n t
theorem DtL.rep : ∀ (n : Nat) {vs : List V} {ds : List D}, DtL K H vs ds → DtL K H (List.replicate n vs).flatten (List.replicate n ds).flatten
  | 0, _, _, _ => .nil
  | n + 1, _, _, r => by
    rw [List.replicate_succ, List.replicate_succ, List.flatten_cons, List.flatten_cons]
    exact r.append (DtL.rep n r)
theorem DtL.ints : ∀ ns : List Int, DtL K H (ns.map V.int) (ns.map D.int)
  | [] => .nil
  | n :: r => .cons (.int n) (DtL.ints r)
theorem DtL.ints_inv : ∀ {vs : List V} {ns : List Int}, DtL K H vs (ns.map D.int) → vs = ns.map V.int
  | _, [], h => by cases h; rfl
  | _, n :: r, h => by
    cases h with
    | cons h1 h2 => cases h1; rw [DtL.ints_inv h2]; rfl
theorem DtL.bls_inv : ∀ {vs : List V} {ns : List Bool}, DtL K H vs (ns.map D.bl) → vs = ns.map V.bl
  | _, [], h => by cases h; rfl
  | _, n :: r, h => by
    cases h with
    | cons h1 h2 => cases h1; rw [DtL.bls_inv h2]; rfl
end

/-! ### what cannot change -/
mutual
def imm : D → Bool
  | .lst _ => false
  | .scr _ => false
  | .ktp _ => true
  | .tup xs => immL xs
  | .non => true
  | .bl _ => true
  | .int _ => true
  | .str _ => true
def immL : List D → Bool
  | [] => true
  | x :: xs => imm x && immL xs
end
def stb (H : Hp) : Hp := fun a => match H a with
  | some (.tup xs) => some (.tup xs)
  | some (.frz o u) => some (.frz o u)
  | _ => none
theorem stb_ex {H : Hp} : Ex (stb H) H := fun a o e => by
  unfold stb at e
  split at e
  · rename_i xs h; rw [h]; exact e
  · rename_i ob u h; rw [h]; exact e
  · cases e
theorem stb_tup {H : Hp} {a : Addr} {xs : List V} (h : H a = some (.tup xs)) : stb H a = some (.tup xs) := by unfold stb; rw [h]
theorem stb_frz {H : Hp} {a : Addr} {o : Obj} {u : HO} (h : H a = some (.frz o u)) : stb H a = some (.frz o u) := by unfold stb; rw [h]
theorem stb_mono {H H' : Hp} (e : Ex H H') : Ex (stb H) (stb H') := fun a o h => by
  have h1 := stb_ex a o h
  have h2 := e a o h1
  unfold stb at h ⊢
  rw [h2]
  rw [h1] at h
  exact h
theorem stb_sqT {K : PySem.W.Frag} {H : Hp} {a : Addr} {xs : List V} (h : SqT K H a xs) : SqT K (stb H) a xs := by
  rcases h with (h | ⟨o, h⟩) | h
  · exact .inl (.inl (stb_tup h))
  · exact .inl (.inr ⟨o, stb_frz h⟩)
  · exact .inr h
section
variable {K : PySem.W.Frag} {H H' : Hp}
mutual
theorem Dt.stb : ∀ {v : V} {d : D}, Dt K H v d → imm d = true → Dt K (stb H) v d
  | _, _, .non, _ => .non
  | _, _, .bl b, _ => .bl b
  | _, _, .int i, _ => .int i
  | _, _, .str x, _ => .str x
  | _, _, .tup h t, i => .tup (stb_tup h) (DtL.stb t (by simpa [imm] using i))
  | _, _, .ktp h, _ => .ktp (stb_sqT h)
  | _, _, .lst _ _, i => by simp [imm] at i
  | _, _, .scr _ _, i => by simp [imm] at i
theorem DtL.stb : ∀ {vs : List V} {ds : List D}, DtL K H vs ds → immL ds = true → DtL K (stb H) vs ds
  | _, _, .nil, _ => .nil
  | _, d :: ds, .cons h t, i => by
    have i' : imm d = true ∧ immL ds = true := by simpa [immL] using i
    exact .cons (Dt.stb h i'.1) (DtL.stb t i'.2)
end
end
theorem immL_iff : ∀ {ds : List D}, immL ds = true ↔ ∀ d ∈ ds, imm d = true
  | [] => by simp [immL]
  | d :: ds => by simp [immL, immL_iff (ds := ds)]

/-- what may change: a list, a dict of flat keys, a dict of tuple keys -/
inductive Mu where
  | l (xs : List V)
  | k (kvs : List (Key × V))
  | t (kvs : List (List Key × V))
def mo : Mu → HO
  | .l xs => .lst xs
  | .k kvs => .dK kvs
  | .t kvs => .dT kvs
theorem mo_l {H : Hp} {a : Addr} {xs : List V} (h : H a = some (.lst xs)) : ∃ xs, H a = some (mo xs) := ⟨.l xs, h⟩
/-! ### owned trees -/
inductive S where
  | d (x : D)
  | own (xs : List S)
  | tp (xs : List S)
mutual
def S.data : S → D
  | .d x => x
  | .own xs => .lst (S.dataL xs)
  | .tp xs => .tup (S.dataL xs)
def S.dataL : List S → List D
  | [] => []
  | x :: xs => x.data :: S.dataL xs
end
theorem S.dataL_map : ∀ xs : List S, S.dataL xs = xs.map S.data
  | [] => by simp [S.dataL]
  | x :: xs => by simp [S.dataL, S.dataL_map xs]
theorem S.dataL_len (xs : List S) : (S.dataL xs).length = xs.length := by rw [S.dataL_map, List.length_map]

section
variable (K : PySem.W.Frag) (H : Hp)
mutual
inductive Rep : S → V → List Addr → Prop
  | d {v : V} {x : D} : Dt K (stb H) v x → Rep (.d x) v []
  | own {a : Addr} {vs : List V} {ss : List S} {F : List Addr} : H a = some (.lst vs) → RepL ss vs F → a ∉ F → Rep (.own ss) (.ref a) (a :: F)
  | tp {a : Addr} {vs : List V} {ss : List S} {F : List Addr} : H a = some (.tup vs) → RepL ss vs F → Rep (.tp ss) (.ref a) F
inductive RepL : List S → List V → List Addr → Prop
  | nil : RepL [] [] []
  | cons {s : S} {v : V} {ss : List S} {vs : List V} {F1 F2 : List Addr} : Rep s v F1 → RepL ss vs F2 → (∀ a, a ∈ F1 → a ∉ F2) → RepL (s :: ss) (v :: vs) (F1 ++ F2)
end
end
section
variable {K : PySem.W.Frag} {H H' : Hp}
mutual
theorem Rep.mono (e : Ex H H') : ∀ {s : S} {v : V} {F : List Addr}, Rep K H s v F → Rep K H' s v F
  | _, _, _, .d h => .d (h.mono (stb_mono e))
  | _, _, _, .own h t n => .own (e _ _ h) (RepL.mono e t) n
  | _, _, _, .tp h t => .tp (e _ _ h) (RepL.mono e t)
theorem RepL.mono (e : Ex H H') : ∀ {s : List S} {v : List V} {F : List Addr}, RepL K H s v F → RepL K H' s v F
  | _, _, _, .nil => .nil
  | _, _, _, .cons h t n => .cons (Rep.mono e h) (RepL.mono e t) n
end
mutual
theorem Rep.data : ∀ {s : S} {v : V} {F : List Addr}, Rep K H s v F → Dt K H v s.data
  | _, _, _, .d h => h.mono stb_ex
  | _, _, _, .own h t n => .lst h (RepL.data t)
  | _, _, _, .tp h t => .tup h (RepL.data t)
theorem RepL.data : ∀ {s : List S} {v : List V} {F : List Addr}, RepL K H s v F → DtL K H v (S.dataL s)
  | _, _, _, .nil => .nil
  | _, _, _, .cons h t n => .cons (Rep.data h) (RepL.data t)
end
mutual
theorem Rep.ls : ∀ {s : S} {v : V} {F : List Addr}, Rep K H s v F → ∀ a ∈ F, ∃ xs, H a = some (mo xs)
  | _, _, _, .d h, _, m => by cases m
  | _, _, _, .own h t n, a, m => by
    rcases List.mem_cons.mp m with e | m
    · subst e; exact mo_l h
    · exact RepL.ls t a m
  | _, _, _, .tp h t, a, m => RepL.ls t a m
theorem RepL.ls : ∀ {s : List S} {v : List V} {F : List Addr}, RepL K H s v F → ∀ a ∈ F, ∃ xs, H a = some (mo xs)
  | _, _, _, .nil, _, m => by cases m
  | _, _, _, .cons h t n, a, m => by
    rcases List.mem_append.mp m with m | m
    · exact Rep.ls h a m
    · exact RepL.ls t a m
end
theorem RepL.len : ∀ {s : List S} {v : List V} {F : List Addr}, RepL K H s v F → s.length = v.length
  | _, _, _, .nil => rfl
  | _, _, _, .cons _ t _ => congrArg (· + 1) (RepL.len t)
/-- changes elsewhere: lists of F and all that is stable stay -/
def Keeps (F : List Addr) (H H' : Hp) : Prop := Ex (stb H) (stb H') ∧ ∀ a ∈ F, ∀ o, H a = some o → H' a = some o
mutual
theorem Rep.keep : ∀ {s : S} {v : V} {F : List Addr}, Rep K H s v F → Keeps F H H' → Rep K H' s v F
  | _, _, _, .d h, k => .d (h.mono k.1)
  | _, _, _, .own h t n, k => .own (k.2 _ (List.mem_cons_self) _ h) (RepL.keep t ⟨k.1, fun a m => k.2 a (List.mem_cons_of_mem _ m)⟩) n
  | _, _, _, .tp h t, k => .tp (stb_ex _ _ (k.1 _ _ (stb_tup h))) (RepL.keep t k)
theorem RepL.keep : ∀ {s : List S} {v : List V} {F : List Addr}, RepL K H s v F → Keeps F H H' → RepL K H' s v F
  | _, _, _, .nil, _ => .nil
  | _, _, _, .cons h t n, k => .cons (Rep.keep h ⟨k.1, fun a m => k.2 a (List.mem_append_left _ m)⟩) (RepL.keep t ⟨k.1, fun a m => k.2 a (List.mem_append_right _ m)⟩) n
end
theorem RepL.append : ∀ {ss ts : List S} {vs ws : List V} {F G : List Addr}, RepL K H ss vs F → RepL K H ts ws G → (∀ a, a ∈ F → a ∉ G) → RepL K H (ss ++ ts) (vs ++ ws) (F ++ G)
  | _, _, _, _, _, _, .nil, h, _ => h
  | _, _, _, _, _, G, .cons (F1 := F1) (F2 := F2) h t n, h2, dj => by
    have e : F1 ++ F2 ++ G = F1 ++ (F2 ++ G) := List.append_assoc _ _ _
    rw [e]
    refine .cons h (RepL.append t h2 fun a m => dj a (List.mem_append_right _ m)) fun a m z => ?_
    rcases List.mem_append.mp z with z | z
    · exact n a m z
    · exact dj a (List.mem_append_left _ m) z
theorem RepL.leaves : ∀ {ds : List D} {vs : List V}, DtL K (stb H) vs ds → RepL K H (ds.map S.d) vs []
  | _, _, .nil => .nil
  | _, _, .cons h t => .cons (F1 := []) (F2 := []) (.d h) (RepL.leaves t) (fun _ m => by cases m)
end

/-! ### environments -/
inductive Sl where
  | dead
  | dc (m : Mu)
  | ad (a : Addr)
  | fz (v : V) (ds : List D)
  | sh (x : D)
  | vw (x : D)
  | tr (s : S)
  | ow (a : Addr) (s : S)
abbrev Env := List Sl
open Classical in
noncomputable def hid (H : Hp) (fp : Nat → List Addr) : Hp := fun a => if ∃ i, a ∈ fp i then none else H a
section
variable {H H' : Hp} {fp fp' : Nat → List Addr}
theorem hid_ex : Ex (hid H fp) H := fun a o e => by
  unfold hid at e; split at e
  · cases e
  · exact e
theorem hid_at {a : Addr} (h : ∀ i, a ∉ fp i) : hid H fp a = H a := by
  unfold hid; rw [if_neg]; rintro ⟨i, m⟩; exact h i m
theorem hid_some {a : Addr} {o : HO} (e : hid H fp a = some o) : (∀ i, a ∉ fp i) ∧ H a = some o := by
  unfold hid at e
  split at e
  · cases e
  · rename_i h; exact ⟨fun i m => h ⟨i, m⟩, e⟩
theorem hid_mono (e : Ex H H') : Ex (hid H fp) (hid H' fp) := fun a o h => by
  obtain ⟨n, h⟩ := hid_some h
  rw [hid_at n]; exact e a o h
theorem stb_hid (ls : ∀ i a, a ∈ fp i → ∃ xs, H a = some (mo xs)) : Ex (stb H) (hid H fp) := fun a o h => by
  have h1 := stb_ex a o h
  rw [hid_at]
  · exact h1
  · intro i m
    obtain ⟨xs, e⟩ := ls i a m
    unfold stb at h; rw [e] at h; cases xs <;> cases h
end
def SlOk (K : PySem.W.Frag) (Hh H : Hp) (σi : Option (Option V)) (F : List Addr) : Sl → Prop
  | .dead => F = []
  | .ad a => F = [] ∧ σi = some (some (.ref a))
  | .dc m => ∃ a, σi = some (some (.ref a)) ∧ F = [a] ∧ H a = some (mo m)
  | .fz v ds => F = [] ∧ σi = some (some v) ∧ Dt K Hh v (.lst ds)
  | .sh x => F = [] ∧ ∃ v, σi = some (some v) ∧ Dt K Hh v x
  | .vw x => F = [] ∧ ∃ v, σi = some (some v) ∧ Dt K H v x
  | .tr s => ∃ v, σi = some (some v) ∧ Rep K H s v F
  | .ow a s => σi = some (some (.ref a)) ∧ Rep K H s (.ref a) F
structure RelF (K : PySem.W.Frag) (G H : Hp) (σ : L2.St) (ρ : Env) (fp : Nat → List Addr) : Prop where
  len : σ.length = ρ.length
  ex : Ex G H
  dj : ∀ i j a, a ∈ fp i → a ∈ fp j → i = j
  new : ∀ i a, a ∈ fp i → G a = none
  ls : ∀ i a, a ∈ fp i → ∃ xs, H a = some (mo xs)
  sl : ∀ i s, ρ[i]? = some s → SlOk K (hid H fp) H σ[i]? (fp i) s
section
variable {K : PySem.W.Frag} {G H H' : Hp} {σ : L2.St} {ρ : Env} {fp : Nat → List Addr}
theorem RelF.grow (r : RelF K G H σ ρ fp) (e : Ex H H') : RelF K G H' σ ρ fp where
  len := r.len
  ex := r.ex.trans e
  dj := r.dj
  new := r.new
  ls := fun i a m => let ⟨xs, h⟩ := r.ls i a m; ⟨xs, e _ _ h⟩
  sl := fun i s h => by
    have q := r.sl i s h
    cases s with
    | dead => exact q
    | ad a => exact q
    | dc m => obtain ⟨a, q1, q2, q3⟩ := q; exact ⟨a, q1, q2, e _ _ q3⟩
    | sh x => obtain ⟨q0, v, q1, q2⟩ := q; exact ⟨q0, v, q1, q2.mono (hid_mono e)⟩
    | fz w x => obtain ⟨q0, q1, q2⟩ := q; exact ⟨q0, q1, q2.mono (hid_mono e)⟩
    | vw x => obtain ⟨q0, v, q1, q2⟩ := q; exact ⟨q0, v, q1, q2.mono e⟩
    | tr s => obtain ⟨v, q1, q2⟩ := q; exact ⟨v, q1, q2.mono e⟩
    | ow a s => exact ⟨q.1, q.2.mono e⟩
end

/-! ### results of expressions -/
inductive R where
  | sh (x : D)
  | vw (x : D)
  | tr (s : S)
def R.data : R → D
  | .sh x => x
  | .vw x => x
  | .tr s => s.data
def R.slot : R → Sl
  | .sh x => .sh x
  | .vw x => if imm x then .sh x else .vw x
  | .tr s => .tr s
def R.tree : R → Option S
  | .sh x => if imm x then some (.d x) else none
  | .vw x => if imm x then some (.d x) else none
  | .tr s => some s
def ROk (K : PySem.W.Frag) (H H' : Hp) (fp : Nat → List Addr) (v : V) (F : List Addr) : R → Prop
  | .sh x => F = [] ∧ Dt K (hid H' fp) v x
  | .vw x => F = [] ∧ Dt K H' v x
  | .tr s => Rep K H' s v F ∧ ∀ a ∈ F, H a = none
section
variable {K : PySem.W.Frag} {H H1 H2 : Hp} {fp : Nat → List Addr} {v : V} {F : List Addr} {r : R}
theorem ROk.data (h : ROk K H H1 fp v F r) : Dt K H1 v r.data := by
  cases r with
  | sh x => exact h.2.mono hid_ex
  | vw x => exact h.2
  | tr s => exact h.1.data
theorem ROk.mono (h : ROk K H H1 fp v F r) (e : Ex H1 H2) : ROk K H H2 fp v F r := by
  cases r with
  | sh x => exact ⟨h.1, h.2.mono (hid_mono e)⟩
  | vw x => exact ⟨h.1, h.2.mono e⟩
  | tr s => exact ⟨h.1.mono e, h.2⟩
theorem ROk.back (h : ROk K H1 H2 fp v F r) (e : Ex H H1) : ROk K H H2 fp v F r := by
  cases r with
  | sh x => exact h
  | vw x => exact h
  | tr s => exact ⟨h.1, fun a m => Evl.fresh_back e (h.2 a m)⟩
theorem ROk.fresh (h : ROk K H H1 fp v F r) : ∀ a ∈ F, H a = none := by
  cases r with
  | sh x => intro a m; rw [h.1] at m; cases m
  | vw x => intro a m; rw [h.1] at m; cases m
  | tr s => exact h.2
theorem ROk.ls (h : ROk K H H1 fp v F r) : ∀ a ∈ F, ∃ xs, H1 a = some (mo xs) := by
  cases r with
  | sh x => intro a m; rw [h.1] at m; cases m
  | vw x => intro a m; rw [h.1] at m; cases m
  | tr s => exact h.1.ls
theorem ROk.tree {s : S} (h : ROk K H H1 fp v F r) (e : r.tree = some s) : Rep K H1 s v F := by
  cases r with
  | sh x =>
    have e : (if imm x = true then some (S.d x) else none) = some s := e
    by_cases i : imm x = true
    · rw [if_pos i] at e; cases e; obtain ⟨rfl, h⟩ := h; exact .d ((h.mono hid_ex).stb i)
    · rw [if_neg i] at e; cases e
  | vw x =>
    have e : (if imm x = true then some (S.d x) else none) = some s := e
    by_cases i : imm x = true
    · rw [if_pos i] at e; cases e; obtain ⟨rfl, h⟩ := h; exact .d (h.stb i)
    · rw [if_neg i] at e; cases e
  | tr t => cases e; exact h.1
end
theorem R.tree_data {r : R} {s : S} (e : r.tree = some s) : s.data = r.data := by
  cases r with
  | sh x =>
    have e : (if imm x = true then some (S.d x) else none) = some s := e
    by_cases i : imm x = true
    · rw [if_pos i] at e; cases e; simp [S.data, R.data]
    · rw [if_neg i] at e; cases e
  | vw x =>
    have e : (if imm x = true then some (S.d x) else none) = some s := e
    by_cases i : imm x = true
    · rw [if_pos i] at e; cases e; simp [S.data, R.data]
    · rw [if_neg i] at e; cases e
  | tr t => cases e; rfl

/-- an argument list's results -/
inductive AOk (K : PySem.W.Frag) (H H' : Hp) (fp : Nat → List Addr) : List R → List V → List Addr → Prop
  | nil : AOk K H H' fp [] [] []
  | cons {r : R} {v : V} {rs : List R} {vs : List V} {F1 F2 : List Addr} : ROk K H H' fp v F1 r → AOk K H H' fp rs vs F2 → (∀ a, a ∈ F1 → a ∉ F2) → AOk K H H' fp (r :: rs) (v :: vs) (F1 ++ F2)
section
variable {K : PySem.W.Frag} {H H1 H2 : Hp} {fp : Nat → List Addr}
theorem AOk.data : ∀ {rs : List R} {vs : List V} {F : List Addr}, AOk K H H1 fp rs vs F → DtL K H1 vs (rs.map R.data)
  | _, _, _, .nil => .nil
  | _, _, _, .cons h t _ => .cons h.data t.data
theorem AOk.mono : ∀ {rs : List R} {vs : List V} {F : List Addr}, AOk K H H1 fp rs vs F → Ex H1 H2 → AOk K H H2 fp rs vs F
  | _, _, _, .nil, _ => .nil
  | _, _, _, .cons h t n, e => .cons (h.mono e) (t.mono e) n
theorem AOk.back : ∀ {rs : List R} {vs : List V} {F : List Addr}, AOk K H1 H2 fp rs vs F → Ex H H1 → AOk K H H2 fp rs vs F
  | _, _, _, .nil, _ => .nil
  | _, _, _, .cons h t n, e => .cons (h.back e) (t.back e) n
theorem AOk.fresh : ∀ {rs : List R} {vs : List V} {F : List Addr}, AOk K H H1 fp rs vs F → ∀ a ∈ F, H a = none
  | _, _, _, .nil, _, m => by cases m
  | _, _, _, .cons h t n, a, m => by
    rcases List.mem_append.mp m with m | m
    · exact h.fresh a m
    · exact t.fresh a m
theorem AOk.ls : ∀ {rs : List R} {vs : List V} {F : List Addr}, AOk K H H1 fp rs vs F → ∀ a ∈ F, ∃ xs, H1 a = some (mo xs)
  | _, _, _, .nil, _, m => by cases m
  | _, _, _, .cons h t n, a, m => by
    rcases List.mem_append.mp m with m | m
    · exact h.ls a m
    · exact t.ls a m
theorem AOk.len : ∀ {rs : List R} {vs : List V} {F : List Addr}, AOk K H H1 fp rs vs F → rs.length = vs.length
  | _, _, _, .nil => rfl
  | _, _, _, .cons _ t _ => congrArg (· + 1) t.len
end
def trees : List R → Option (List S)
  | [] => some []
  | r :: rs => match r.tree, trees rs with
    | some s, some ss => some (s :: ss)
    | _, _ => none
theorem AOk.trees {K : PySem.W.Frag} {H H1 : Hp} {fp : Nat → List Addr} : ∀ {rs : List R} {vs : List V} {F : List Addr} {ss : List S}, AOk K H H1 fp rs vs F → trees rs = some ss → RepL K H1 ss vs F
  | _, _, _, _, .nil, e => by cases e; exact .nil
  | _, _, _, _, .cons (r := r) (rs := rs) h t n, e => by
    unfold DL.trees at e
    split at e
    · rename_i s ss e1 e2; cases e; exact .cons (h.tree e1) (t.trees e2) n
    · cases e

/-! ### the fused judgements -/
abbrev ME := Env → Option R
abbrev MT := Env → Option Bool
abbrev MA := Env → Option (List R)
def SimE (K : PySem.W.Frag) (t : TE) (m : ME) : Prop := ∀ G H σ ρ fp r (Q : VK), RelF K G H σ ρ fp → m ρ = some r → (∀ v F H', Ex H H' → ROk K H H' fp v F r → Q v H') → t σ H Q
def SimT (K : PySem.W.Frag) (t : TT) (m : MT) : Prop := ∀ G H σ ρ fp b (Q : Bool → Hp → Prop), RelF K G H σ ρ fp → m ρ = some b → (∀ H', Ex H H' → Q b H') → t σ H Q
def SimA (K : PySem.W.Frag) (t : TA) (m : MA) : Prop := ∀ G H σ ρ fp rs (Q : List V → Hp → Prop), RelF K G H σ ρ fp → m ρ = some rs → (∀ vs F H', Ex H H' → AOk K H H' fp rs vs F → Q vs H') → t σ H Q
structure XE (X : Cx) (e : Expr) (m : ME) : Prop where
  sim : ∃ t, PE X e t ∧ SimE X.K t m
structure XT (X : Cx) (e : Expr) (m : MT) : Prop where
  sim : ∃ t, PT X e t ∧ SimT X.K t m
structure XW (X : Cx) (e : Expr) (m : MT) : Prop where
  sim : ∃ t, PW X e t ∧ SimT X.K t m
structure XA (X : Cx) (es : List Expr) (m : MA) : Prop where
  sim : ∃ t, PA X es t ∧ SimA X.K t m
end DL

set_option Elab.async false
set_option linter.all false
set_option maxRecDepth 100000
set_option maxHeartbeats 4000000
/-! Expressions. -/
namespace DL
open PySem PySem.Spec PyProof.Rows L2
open Evl (Ex)
section
variable {X : Cx} {e a b : Expr} {es : List Expr} {ma mb mc : ME} {pos : Pos}

/-! names, constants -/
def mVar (i : Nat) : ME := fun ρ => match ρ[i]? with
  | some (.sh x) => some (.sh x)
  | some (.vw x) => some (.vw x)
  | some (.tr s) => some (.vw s.data)
  | some (.fz _ ds) => some (.sh (.lst ds))
  | some (.ow _ s) => some (.vw s.data)
  | _ => none
theorem sim_var {K : PySem.W.Frag} (i : Nat) : SimE K (tVar i) (mVar i) := by
  intro G H σ ρ fp r Q R hm q
  unfold mVar at hm
  split at hm
  · rename_i x hx; cases hm
    obtain ⟨_, v, h1, h2⟩ := R.sl i _ hx
    exact ⟨v, h1, q v [] H (Evl.Ex.refl H) ⟨rfl, h2⟩⟩
  · rename_i x hx; cases hm
    obtain ⟨_, v, h1, h2⟩ := R.sl i _ hx
    exact ⟨v, h1, q v [] H (Evl.Ex.refl H) ⟨rfl, h2⟩⟩
  · rename_i s hx; cases hm
    obtain ⟨v, h1, h2⟩ := R.sl i _ hx
    exact ⟨v, h1, q v [] H (Evl.Ex.refl H) ⟨rfl, h2.data⟩⟩
  · rename_i w ds hx; cases hm
    obtain ⟨_, h1, h2⟩ := R.sl i _ hx
    exact ⟨w, h1, q w [] H (Evl.Ex.refl H) ⟨rfl, h2⟩⟩
  · rename_i b s hx; cases hm
    obtain ⟨h1, h2⟩ := R.sl i _ hx
    exact ⟨_, h1, q _ [] H (Evl.Ex.refl H) ⟨rfl, h2.data⟩⟩
  · cases hm
theorem xv (i : Nat) {x : Str} {pos : Pos} (hN : X.N[i]? = some x := by rfl) (hv : Vis X.env.scope x := by first | exact Or.inl rfl | exact Or.inr (Or.inl rfl) | exact Or.inr (Or.inr rfl)) (hd : (x == ("__debug__" : Str)) = false := by decide)
    (hcd : (x == ("__classdict__" : Str)) = false := by decide) : XE X (.Name x pos) (mVar i) := ⟨_, pe_var hN hv hd hcd, sim_var i⟩
def mC (d : D) : ME := fun _ => some (.sh d)
inductive Fl : V → D → Prop
  | non : Fl .non .non
  | bl (b : Bool) : Fl (.bl b) (.bl b)
  | int (i : Int) : Fl (.int i) (.int i)
  | str (x : Str) : Fl (.str x) (.str x)
theorem Fl.dt {K : PySem.W.Frag} {H : Hp} {v : V} {d : D} (h : Fl v d) : Dt K H v d := by
  cases h
  · exact .non
  · exact .bl _
  · exact .int _
  · exact .str _
theorem Fl.rok {K : PySem.W.Frag} {H H1 : Hp} {fp : Nat → List Addr} {v : V} {d : D} (h : Fl v d) : ROk K H H1 fp v [] (.sh d) := ⟨rfl, h.dt⟩
theorem sim_c {K : PySem.W.Frag} {v : V} {d : D} (h : Fl v d) : SimE K (tC v) (mC d) := by
  intro G H σ ρ fp r Q R hm q
  cases hm
  exact q v [] H (Evl.Ex.refl H) h.rok
theorem xint {i j pos} : XE X (.Constant (.int i) j pos) (mC (.int i)) := ⟨_, pe_int, sim_c (.int i)⟩
theorem xbl {i j pos} : XE X (.Constant (.bool i) j pos) (mC (.bl i)) := ⟨_, pe_bl, sim_c (.bl i)⟩
theorem xnon {j pos} : XE X (.Constant .none j pos) (mC .non) := ⟨_, pe_non, sim_c .non⟩
theorem xstr {i j pos} : XE X (.Constant (.str i) j pos) (mC (.str i)) := ⟨_, pe_str, sim_c (.str i)⟩
/-- a module's constant: a tuple of ints of the written part -/
theorem xglobT {x : Str} {t : Addr} {ns : List Int} {pos : Pos} (hg : Gl X x) (hm : X.mg x = some (.ref t)) (hs : ∀ H, SqT X.K H t (ns.map V.int)) (hd : (x == ("__debug__" : Str)) = false := by decide) : XE X (.Name x pos) (mC (.ktp ns)) := by
  refine ⟨_, pe_glob (v := .ref t) hg hm rfl hd, ?_⟩
  intro G H σ ρ fp r Q R hm q
  cases hm
  exact q _ [] H (Evl.Ex.refl H) ⟨rfl, .ktp (hs _)⟩

/-! arguments -/
def mNil : MA := fun _ => some []
def mCons (m : ME) (ms : MA) : MA := fun ρ => match m ρ, ms ρ with
  | some r, some rs => some (r :: rs)
  | _, _ => none
theorem xa_nil : XA X [] mNil := ⟨_, pa_nil, fun G H σ ρ fp r Q R hm q => by cases hm; exact q [] [] H (Evl.Ex.refl H) .nil⟩
theorem sim_cons {K : PySem.W.Frag} {te : TE} {t : TA} {m : ME} {ms : MA} (h : SimE K te m) (hs : SimA K t ms) : SimA K (tCons te t) (mCons m ms) := by
  intro G H σ ρ fp rs Q R hm q
  unfold mCons at hm
  split at hm
  · rename_i r rs' e1 e2; cases hm
    refine h G H σ ρ fp r _ R e1 fun v F1 H1 x1 o1 => ?_
    refine hs G H1 σ ρ fp rs' _ (R.grow x1) e2 fun vs F2 H2 x2 o2 => ?_
    refine q (v :: vs) (F1 ++ F2) H2 (x1.trans x2) (.cons (o1.mono x2) (o2.back x1) fun a m1 m2 => ?_)
    obtain ⟨xs, z⟩ := o1.ls a m1
    rw [o2.fresh a m2] at z; cases z
  · cases hm
theorem xa {m : ME} {ms : MA} (h : XE X e m) (hs : XA X es ms) (hst : starEach (e :: es) X.env = (false, eval e X.env) :: starEach es X.env := by rfl) : XA X (e :: es) (mCons m ms) := by
  obtain ⟨te, p, s⟩ := h
  obtain ⟨t, p', s'⟩ := hs
  exact ⟨_, pa_cons p p' hst, sim_cons s s'⟩

/-! two-place operations -/
def mOp (f : R → R → Option R) (ma mb : ME) : ME := fun ρ => match ma ρ, mb ρ with
  | some x, some y => f x y
  | _, _ => none
def Op2 (K : PySem.W.Frag) (r : R2) (f : R → R → Option R) : Prop := ∀ H H1 fp x Fx rx y Fy ry z (Q : VK), ROk K H H1 fp x Fx rx → ROk K H H1 fp y Fy ry → (∀ a, a ∈ Fx → a ∉ Fy) → (∀ i a, a ∈ fp i → ∃ xs, H1 a = some (mo xs)) → Ex H H1 → f rx ry = some z →
  (∀ v F H', Ex H1 H' → ROk K H H' fp v F z → Q v H') → r x y H1 Q
theorem sim_op {K : PySem.W.Frag} {r : R2} {f : R → R → Option R} {ta tb : TE} (hr : Op2 K r f) (ha : SimE K ta ma) (hb : SimE K tb mb) : SimE K (tOp r ta tb) (mOp f ma mb) := by
  intro G H σ ρ fp z Q R hm q
  unfold mOp at hm
  split at hm
  · rename_i x y e1 e2
    refine ha G H σ ρ fp x _ R e1 fun v F1 H1 x1 o1 => ?_
    refine hb G H1 σ ρ fp y _ (R.grow x1) e2 fun w F2 H2 x2 o2 => ?_
    refine hr H H2 fp v F1 x w F2 y z Q (o1.mono x2) (o2.back x1) (fun a m1 m2 => ?_) ((R.grow x1).grow x2).ls (x1.trans x2) hm fun u F H' x3 o3 => q u F H' ((x1.trans x2).trans x3) o3
    obtain ⟨xs, z⟩ := o1.ls a m1
    rw [o2.fresh a m2] at z; cases z
  · cases hm
theorem xop {op : Operator} {r : R2} {f : R → R → Option R} (ho : OpR X (binaryOp op) r) (hr : Op2 X.K r f) (ha : XE X a ma) (hb : XE X b mb) : XE X (.BinOp a op b pos) (mOp f ma mb) := by
  obtain ⟨ta, p, s⟩ := ha
  obtain ⟨tb, p', s'⟩ := hb
  exact ⟨_, pe_op ho p p', sim_op hr s s'⟩
/-- a flat answer -/
def flat2 (g : D → D → Option D) : R → R → Option R := fun x y => (g x.data y.data).map .sh
theorem Op2.flat {K : PySem.W.Frag} {r : R2} {g : D → D → Option D} (h : ∀ H x dx y dy z (Q : VK), Dt K H x dx → Dt K H y dy → g dx dy = some z → (∀ v, Fl v z → Q v H) → r x y H Q) : Op2 K r (flat2 g) := by
  intro H H1 fp x Fx rx y Fy ry z Q ox oy _ _ _ hz q
  unfold flat2 at hz
  rw [Option.map_eq_some_iff] at hz
  obtain ⟨d, h1, rfl⟩ := hz
  exact h H1 x _ y _ d Q ox.data oy.data h1 fun v f => q v [] H1 (Evl.Ex.refl H1) f.rok
def gI (f : Int → Int → D) : D → D → Option D
  | .int i, .int j => some (f i j)
  | _, _ => none
def gIC (C : Int → Int → Prop) [∀ i j, Decidable (C i j)] (f : Int → Int → D) : D → D → Option D
  | .int i, .int j => if C i j then some (f i j) else none
  | _, _ => none
theorem op2_I0 {K : PySem.W.Frag} {f : Int → Int → V} {g : Int → Int → D} (h : ∀ i j, Fl (f i j) (g i j)) : Op2 K (rI0 f) (flat2 (gI g)) := .flat fun H x dx y dy z Q hx hy hz q => by
  unfold gI at hz
  split at hz
  · cases hz; cases hx; cases hy; exact ⟨_, _, rfl, rfl, q _ (h _ _)⟩
  · cases hz
theorem op2_I {K : PySem.W.Frag} {C : Int → Int → Prop} [∀ i j, Decidable (C i j)] {f : Int → Int → V} {g : Int → Int → D} (h : ∀ i j, Fl (f i j) (g i j)) : Op2 K (rI C f) (flat2 (gIC C g)) := .flat fun H x dx y dy z Q hx hy hz q => by
  unfold gIC at hz
  split at hz
  · split at hz
    · rename_i hc; cases hz; cases hx; cases hy; exact ⟨_, _, rfl, rfl, hc, q _ (h _ _)⟩
    · cases hz
  · cases hz
instance (i j : Int) : Decidable (CMul i j) := by unfold CMul; infer_instance
instance (i j : Int) : Decidable (CDiv i j) := by unfold CDiv; infer_instance
instance (i j : Int) : Decidable (CPow i j) := by unfold CPow; infer_instance
def fSub := flat2 (gI fun i j => .int (i - j))
def fDiv := flat2 (gIC CDiv fun i j => .int (i / j))
def fMod := flat2 (gIC (fun _ j => 0 < j) fun i j => .int (i % j))
def fPow := flat2 (gIC CPow fun i j => .int (i ^ j.toNat))
theorem xsub (ha : XE X a ma) (hb : XE X b mb) : XE X (.BinOp a .Sub b pos) (mOp fSub ma mb) := xop op_sub (op2_I0 fun _ _ => .int _) ha hb
theorem xdiv (ha : XE X a ma) (hb : XE X b mb) : XE X (.BinOp a .FloorDiv b pos) (mOp fDiv ma mb) := xop op_fdiv (op2_I fun _ _ => .int _) ha hb
theorem xmod (ha : XE X a ma) (hb : XE X b mb) : XE X (.BinOp a .Mod b pos) (mOp fMod ma mb) := xop op_mod (op2_I fun _ _ => .int _) ha hb
theorem xpow (ha : XE X a ma) (hb : XE X b mb) : XE X (.BinOp a .Pow b pos) (mOp fPow ma mb) := xop op_pow (op2_I fun _ _ => .int _) ha hb

/-- a new list of what is at hand -/
def newL (ds : List D) : R := if immL ds = true then .tr (.own (ds.map .d)) else .vw (.lst ds)
theorem dataL_d (ds : List D) : S.dataL (ds.map S.d) = ds := by
  induction ds with
  | nil => rfl
  | cons d ds ih => show S.data (S.d d) :: S.dataL (ds.map S.d) = d :: ds; rw [ih]; rfl
theorem newL_data (ds : List D) : (newL ds).data = .lst ds := by
  unfold newL; split
  · show D.lst (S.dataL (ds.map S.d)) = _; rw [dataL_d]
  · rfl
theorem newL_ok {K : PySem.W.Frag} {H H1 : Hp} {fp : Nat → List Addr} {p : Addr} {vs : List V} {ds : List D} (hp : H1 p = none) (e : Ex H H1) (h : DtL K H1 vs ds) : ∃ F, ROk K H (upd H1 p (.lst vs)) fp (.ref p) F (newL ds) := by
  have e2 : Ex H1 (upd H1 p (.lst vs)) := Evl.Ex.new hp
  unfold newL
  split
  · rename_i i
    refine ⟨[p], .own upd_same (RepL.leaves ?_) (fun z => by cases z), fun a m => ?_⟩
    · exact (h.mono e2).stb i
    · have : a = p := by simpa using m
      subst this; exact Evl.fresh_back e hp
  · exact ⟨[], rfl, .lst upd_same (h.mono e2)⟩
def fAdd : R → R → Option R := fun x y => match x.data, y.data with
  | .int i, .int j => some (.sh (.int (i + j)))
  | .str i, .str j => if i.length + j.length ≤ 100000 then some (.sh (.str (i ++ j))) else none
  | .lst xs, .lst ys => if xs.length + ys.length ≤ 100000 then some (newL (xs ++ ys)) else none
  | _, _ => none
theorem xadd (ha : XE X a ma) (hb : XE X b mb) : XE X (.BinOp a .Add b pos) (mOp fAdd ma mb) := by
  refine xop (op_add.or (op_add_str.or op_cat)) ?_ ha hb
  intro H H1 fp x Fx rx y Fy ry z Q ox oy _ _ ex hz q
  have hx := ox.data
  have hy := oy.data
  unfold fAdd at hz
  split at hz
  · rename_i i j e1 e2; rw [e1] at hx; rw [e2] at hy; cases hx; cases hy; cases hz
    exact .inl ⟨i, j, rfl, rfl, q _ [] H1 (Evl.Ex.refl H1) (Fl.int _).rok⟩
  · rename_i i j e1 e2; rw [e1] at hx; rw [e2] at hy; cases hx; cases hy
    split at hz
    · rename_i hl; cases hz
      exact .inr (.inl ⟨i, j, rfl, rfl, Evl.sz_of hl, q _ [] H1 (Evl.Ex.refl H1) (Fl.str _).rok⟩)
    · cases hz
  · rename_i xs ys e1 e2; rw [e1] at hx; rw [e2] at hy
    cases hx with
    | lst h1 t1 =>
      cases hy with
      | lst h2 t2 =>
        split at hz
        · rename_i hl; cases hz
          refine .inr (.inr ⟨_, _, _, _, rfl, rfl, h1, h2, ?_, fun p hp => ?_⟩)
          · rw [t1.len, t2.len]; exact Evl.sz_of hl
          · obtain ⟨F, o⟩ := newL_ok (fp := fp) hp ex (t1.append t2)
            exact q _ F _ (Evl.Ex.new hp) o
        · cases hz
  · cases hz
theorem op_mul_txt {X : Cx} : OpR X (binaryOp .Mult) (fun x y H Q => ∃ i k, x = .str i ∧ y = .int k ∧ MulOk i k ∧ Q (.str (Txt.mul i k)) H) := by
  intro pins s σ H x y v u Q I rx ry h
  obtain ⟨i, j, rfl, rfl, hz, q⟩ := h
  obtain ⟨t, rfl⟩ := rx
  obtain ⟨t', rfl⟩ := ry
  exact SB.mul hz fun t' k => ⟨.str (Txt.mul i j), H, I.tok _, ⟨_, rfl⟩, q⟩
def fMul : R → R → Option R := fun x y => match x.data, y.data with
  | .int i, .int j => if CMul i j then some (.sh (.int (i * j))) else none
  | .lst xs, .int k => if 0 ≤ k ∧ k ≤ 100000 ∧ xs.length * k.toNat ≤ 100000 then some (newL (List.replicate k.toNat xs).flatten) else none
  | .str x, .int k => if 0 ≤ k ∧ k ≤ 100000 ∧ x.length ≤ 100 then some (.sh (.str (Txt.mul x k))) else none
  | _, _ => none
theorem xmul (ha : XE X a ma) (hb : XE X b mb) : XE X (.BinOp a .Mult b pos) (mOp fMul ma mb) := by
  refine xop (op_mul.or (op_rep.or op_mul_txt)) ?_ ha hb
  intro H H1 fp x Fx rx y Fy ry z Q ox oy _ _ ex hz q
  have hx := ox.data
  have hy := oy.data
  unfold fMul at hz
  split at hz
  · rename_i i j e1 e2; rw [e1] at hx; rw [e2] at hy; cases hx; cases hy
    split at hz
    · rename_i hc; cases hz
      exact .inl ⟨i, j, rfl, rfl, hc, q _ [] H1 (Evl.Ex.refl H1) (Fl.int _).rok⟩
    · cases hz
  · rename_i xs k e1 e2; rw [e1] at hx; rw [e2] at hy
    cases hx with
    | lst h1 t1 =>
      cases hy
      split at hz
      · rename_i hl; cases hz
        refine .inr (.inl ⟨_, k, _, rfl, rfl, h1, by omega, by omega, ?_, fun p hp => ?_⟩)
        · rw [t1.len]; exact Evl.sz_of hl.2.2
        · obtain ⟨F, o⟩ := newL_ok (fp := fp) hp ex (t1.rep k.toNat)
          exact q _ F _ (Evl.Ex.new hp) o
      · cases hz
  · rename_i w k e1 e2; rw [e1] at hx; rw [e2] at hy; cases hx; cases hy
    split at hz
    · rename_i hl; cases hz
      exact .inr (.inr ⟨w, k, rfl, rfl, PyProof.Rows.mulOk_of 100 100000 hl.2.2 (by omega) (by omega) (by decide) (by decide), q _ [] H1 (Evl.Ex.refl H1) (Fl.str _).rok⟩)
    · cases hz
  · cases hz

/-! comparisons -/
theorem xcmp {op : CmpOp} {r : R2} {f : R → R → Option R} (ho : OpR X (compareOp op) r) (hr : Op2 X.K r f) (hm : behindInMarks op b = false) (ha : XE X a ma) (hb : XE X b mb) : XE X (.Compare a [op] [b] pos) (mOp f ma mb) := by
  obtain ⟨ta, p, s⟩ := ha
  obtain ⟨tb, p', s'⟩ := hb
  exact ⟨_, pe_cmpR ho p p' hm, sim_op hr s s'⟩
def mTst (m : ME) : MT := fun ρ => match m ρ with
  | some r => match r.data with
    | .bl b => some b
    | _ => none
  | none => none
theorem sim_tst {K : PySem.W.Frag} {te : TE} {m : ME} (h : SimE K te m) : SimT K (tTest te) (mTst m) := by
  intro G H σ ρ fp b Q R hm q
  unfold mTst at hm
  split at hm
  · rename_i r e1
    split at hm
    · rename_i c e2; cases hm
      refine h G H σ ρ fp r _ R e1 fun v F H1 x1 o1 => ?_
      have z := o1.data
      rw [e2] at z; cases z
      exact ⟨_, rfl, q H1 x1⟩
    · cases hm
  · cases hm
theorem xtcmp {op : CmpOp} {r : R2} {f : R → R → Option R} (ho : OpR X (compareOp op) r) (hr : Op2 X.K r f) (hm : behindInMarks op b = false) (ha : XE X a ma) (hb : XE X b mb) : XT X (.Compare a [op] [b] pos) (mTst (mOp f ma mb)) := by
  obtain ⟨ta, p, s⟩ := ha
  obtain ⟨tb, p', s'⟩ := hb
  exact ⟨_, pt_cmpR ho p p' hm, sim_tst (sim_op hr s s')⟩
def fLt := flat2 (gI fun i j => .bl (decide (i < j)))
def fLe := flat2 (gI fun i j => .bl (decide (i ≤ j)))
def fGt := flat2 (gI fun i j => .bl (decide (j < i)))
def fGe := flat2 (gI fun i j => .bl (decide (j ≤ i)))
theorem op2_lt {K : PySem.W.Frag} : Op2 K (rI0 fun i j => .bl (decide (i < j))) fLt := op2_I0 fun _ _ => .bl _
theorem op2_le {K : PySem.W.Frag} : Op2 K (rI0 fun i j => .bl (decide (i ≤ j))) fLe := op2_I0 fun _ _ => .bl _
theorem op2_gt {K : PySem.W.Frag} : Op2 K (rI0 fun i j => .bl (decide (j < i))) fGt := op2_I0 fun _ _ => .bl _
theorem op2_ge {K : PySem.W.Frag} : Op2 K (rI0 fun i j => .bl (decide (j ≤ i))) fGe := op2_I0 fun _ _ => .bl _
/-! data as the model has it -/
mutual
def D.py : D → PyData
  | .non => .none
  | .bl b => .bool b
  | .int i => .int i
  | .str x => .str x
  | .lst xs => .list (D.pyL xs)
  | .tup xs => .tuple (D.pyL xs)
  | .scr ns => .list (ns.map .int)
  | .ktp ns => .tuple (ns.map .int)
def D.pyL : List D → List PyData
  | [] => []
  | x :: xs => x.py :: D.pyL xs
end
theorem dp_ints {K : PySem.W.Frag} {H : Hp} : ∀ ns : List Int, DpAll K H (ns.map V.int) (ns.map PyData.int)
  | [] => .nil
  | n :: r => .cons (.int n) (dp_ints r)
mutual
theorem Dt.dp {K : PySem.W.Frag} {H : Hp} : ∀ {v : V} {d : D}, Dt K H v d → Dp K H v d.py
  | _, _, .non => .non
  | _, _, .bl b => .bl b
  | _, _, .int i => .int i
  | _, _, .str x => .str x
  | _, _, .lst h t => .lst (SqL.of h) (DtL.dp t)
  | _, _, .tup h t => .tup (.inl (.inl h)) (DtL.dp t)
  | _, _, .ktp h => .tup h (dp_ints _)
  | _, _, .scr h _ => .lst h (dp_ints _)
theorem DtL.dp {K : PySem.W.Frag} {H : Hp} : ∀ {vs : List V} {ds : List D}, DtL K H vs ds → DpAll K H vs (D.pyL ds)
  | _, _, .nil => .nil
  | _, _, .cons h t => .cons (Dt.dp h) (DtL.dp t)
end
def D.eqv (a b : D) : Bool := PyData.eqv a.py b.py
def D.ok (a : D) : Bool := SeqAt.shaped a.py
def gEq (neg : Bool) : D → D → Option D := fun a b => if a.ok && b.ok then some (.bl (if neg then !D.eqv a b else D.eqv a b)) else none
def fEq := flat2 (gEq false)
def fNe := flat2 (gEq true)
theorem op2_eq {K : PySem.W.Frag} : Op2 K (rEqD K) fEq := .flat fun H x dx y dy z Q hx hy hz q => by
  unfold gEq at hz
  split at hz
  · rename_i h; rw [Bool.and_eq_true] at h; cases hz
    exact ⟨_, _, hx.dp, hy.dp, h.1, h.2, q _ (.bl _)⟩
  · cases hz
theorem op2_ne {K : PySem.W.Frag} : Op2 K (rNeD K) fNe := .flat fun H x dx y dy z Q hx hy hz q => by
  unfold gEq at hz
  split at hz
  · rename_i h; rw [Bool.and_eq_true] at h; cases hz
    exact ⟨_, _, hx.dp, hy.dp, h.1, h.2, q _ (.bl _)⟩
  · cases hz
/-- is None -/
def isNon : D → Bool
  | .non => true
  | _ => false
theorem Dt.isNon {K : PySem.W.Frag} {H : Hp} {v : V} {d : D} (h : Dt K H v d) : decide (v = .non) = isNon d := by
  cases h <;> first | rfl | (apply decide_eq_false; intro z; cases z)
def fIs := flat2 (fun a b => if isNon b then some (.bl (isNon a)) else none)
def fIsNot := flat2 (fun a b => if isNon b then some (.bl (!isNon a)) else none)
theorem op2_is {K : PySem.W.Frag} : Op2 K (fun x y H Q => y = .non ∧ Q (.bl (decide (x = .non))) H) fIs := .flat fun H x dx y dy z Q hx hy hz q => by
  split at hz
  · rename_i h; cases hz
    have z := hy.isNon
    rw [h] at z
    rw [hx.isNon]
    exact ⟨of_decide_eq_true z, q _ (.bl _)⟩
  · cases hz
theorem op2_isnot {K : PySem.W.Frag} : Op2 K (fun x y H Q => y = .non ∧ Q (.bl (!decide (x = .non))) H) fIsNot := .flat fun H x dx y dy z Q hx hy hz q => by
  split at hz
  · rename_i h; cases hz
    have z := hy.isNon
    rw [h] at z
    rw [hx.isNon]
    exact ⟨of_decide_eq_true z, q _ (.bl _)⟩
  · cases hz

/-! tests -/
theorem sim_B {K : PySem.W.Frag} {te : TE} {m : ME} (h : SimE K te m) : SimT K (tB te) (mTst m) := sim_tst h
theorem xt_val (h : XE X e ma) (he : ∀ whole, isTrue e X.env whole = (do let v ← whole; standAt e.pos; holding [v] (truthy v)) := by intro _; rfl) : XT X e (mTst ma) := by
  obtain ⟨t, p, s⟩ := h
  exact ⟨_, pt_val p he, sim_B s⟩
def mAnd (a b : MT) : MT := fun ρ => match a ρ with
  | some true => b ρ
  | o => o
def mOr (a b : MT) : MT := fun ρ => match a ρ with
  | some false => b ρ
  | o => o
def mNot (a : MT) : MT := fun ρ => (a ρ).map (!·)
variable {t u : MT} {rest : List Expr} {c : Expr}
theorem xw_and1 (ha : XT X a t) : XW X (.BoolOp .And [a] pos) t := by
  obtain ⟨t, p, s⟩ := ha
  exact ⟨_, pw_and1 p, s⟩
theorem xw_or1 (ha : XT X a t) : XW X (.BoolOp .Or [a] pos) t := by
  obtain ⟨t, p, s⟩ := ha
  exact ⟨_, pw_or1 p, s⟩
theorem xw_and (ha : XT X a t) (hb : XW X (.BoolOp .And (b :: rest) pos) u) : XW X (.BoolOp .And (a :: b :: rest) pos) (mAnd t u) := by
  obtain ⟨ta, p, s⟩ := ha
  obtain ⟨tb, p', s'⟩ := hb
  refine ⟨_, pw_and p p', fun G H σ ρ fp k Q R hm q => ?_⟩
  unfold mAnd at hm
  split at hm
  · rename_i e1
    refine s G H σ ρ fp true _ R e1 fun H1 x1 => ?_
    rw [if_pos rfl]
    exact s' G H1 σ ρ fp k Q (R.grow x1) hm fun H2 x2 => q H2 (x1.trans x2)
  · rename_i hne
    refine s G H σ ρ fp k _ R hm fun H1 x1 => ?_
    cases k with
    | true => exact (hne hm).elim
    | false => rw [if_neg Bool.false_ne_true]; exact q H1 x1
theorem xw_or (ha : XT X a t) (hb : XW X (.BoolOp .Or (b :: rest) pos) u) : XW X (.BoolOp .Or (a :: b :: rest) pos) (mOr t u) := by
  obtain ⟨ta, p, s⟩ := ha
  obtain ⟨tb, p', s'⟩ := hb
  refine ⟨_, pw_or p p', fun G H σ ρ fp k Q R hm q => ?_⟩
  unfold mOr at hm
  split at hm
  · rename_i e1
    refine s G H σ ρ fp false _ R e1 fun H1 x1 => ?_
    rw [if_neg Bool.false_ne_true]
    exact s' G H1 σ ρ fp k Q (R.grow x1) hm fun H2 x2 => q H2 (x1.trans x2)
  · rename_i hne
    refine s G H σ ρ fp k _ R hm fun H1 x1 => ?_
    cases k with
    | false => exact (hne hm).elim
    | true => rw [if_pos rfl]; exact q H1 x1
theorem xw_pt (h : XW X e t) : XT X e t := by
  obtain ⟨t, p, s⟩ := h
  exact ⟨_, p.pt, s⟩
theorem xt_not (ha : XT X a t) : XT X (.UnaryOp .Not a pos) (mNot t) := by
  obtain ⟨ta, p, s⟩ := ha
  refine ⟨_, pt_not p, fun G H σ ρ fp k Q R hm q => ?_⟩
  unfold mNot at hm
  rw [Option.map_eq_some_iff] at hm
  obtain ⟨c, h1, rfl⟩ := hm
  exact s G H σ ρ fp c _ R h1 fun H1 x1 => q H1 x1
/-- as values -/
def mAndV (a b : ME) : ME := fun ρ => match mTst a ρ with
  | some true => b ρ
  | some false => some (.sh (.bl false))
  | none => none
def mOrV (a b : ME) : ME := fun ρ => match mTst a ρ with
  | some false => b ρ
  | some true => some (.sh (.bl true))
  | none => none
theorem mTst_inv {m : ME} {ρ : Env} {b : Bool} (h : mTst m ρ = some b) : ∃ r, m ρ = some r ∧ r.data = .bl b := by
  unfold mTst at h
  split at h
  · rename_i r e1
    split at h
    · rename_i c e2; cases h; exact ⟨r, e1, e2⟩
    · cases h
  · cases h
theorem x_one {op} (h : XE X a ma) : XE X (.BoolOp op [a] pos) ma := by
  obtain ⟨t, p, s⟩ := h
  exact ⟨_, pe_one p, s⟩
theorem x_and (ha : XE X a ma) (hb : XE X (.BoolOp .And (b :: rest) pos) mb) : XE X (.BoolOp .And (a :: b :: rest) pos) (mAndV ma mb) := by
  obtain ⟨ta, p, s⟩ := ha
  obtain ⟨tb, p', s'⟩ := hb
  refine ⟨_, pe_and p p', fun G H σ ρ fp k Q R hm q => ?_⟩
  unfold mAndV at hm
  split at hm
  · rename_i e1
    obtain ⟨r, e2, e3⟩ := mTst_inv e1
    refine s G H σ ρ fp r _ R e2 fun v F H1 x1 o1 => ?_
    have z := o1.data
    rw [e3] at z; cases z
    refine ⟨true, rfl, ?_⟩
    rw [if_pos rfl]
    exact s' G H1 σ ρ fp k Q (R.grow x1) hm fun v F H2 x2 o2 => q v F H2 (x1.trans x2) (o2.back x1)
  · rename_i e1
    obtain ⟨r, e2, e3⟩ := mTst_inv e1
    refine s G H σ ρ fp r _ R e2 fun v F H1 x1 o1 => ?_
    have z := o1.data
    rw [e3] at z; cases z
    refine ⟨false, rfl, ?_⟩
    rw [if_neg Bool.false_ne_true]
    cases hm
    exact q _ [] H1 x1 (Fl.bl _).rok
  · cases hm
theorem x_or (ha : XE X a ma) (hb : XE X (.BoolOp .Or (b :: rest) pos) mb) : XE X (.BoolOp .Or (a :: b :: rest) pos) (mOrV ma mb) := by
  obtain ⟨ta, p, s⟩ := ha
  obtain ⟨tb, p', s'⟩ := hb
  refine ⟨_, pe_or p p', fun G H σ ρ fp k Q R hm q => ?_⟩
  unfold mOrV at hm
  split at hm
  · rename_i e1
    obtain ⟨r, e2, e3⟩ := mTst_inv e1
    refine s G H σ ρ fp r _ R e2 fun v F H1 x1 o1 => ?_
    have z := o1.data
    rw [e3] at z; cases z
    refine ⟨false, rfl, ?_⟩
    rw [if_neg Bool.false_ne_true]
    exact s' G H1 σ ρ fp k Q (R.grow x1) hm fun v F H2 x2 o2 => q v F H2 (x1.trans x2) (o2.back x1)
  · rename_i e1
    obtain ⟨r, e2, e3⟩ := mTst_inv e1
    refine s G H σ ρ fp r _ R e2 fun v F H1 x1 o1 => ?_
    have z := o1.data
    rw [e3] at z; cases z
    refine ⟨true, rfl, ?_⟩
    rw [if_pos rfl]
    cases hm
    exact q _ [] H1 x1 (Fl.bl _).rok
  · cases hm
def mNotV (a : ME) : ME := fun ρ => (mTst a ρ).map fun b => .sh (.bl (!b))
theorem x_not (ha : XE X a ma) : XE X (.UnaryOp .Not a pos) (mNotV ma) := by
  obtain ⟨ta, p, s⟩ := ha
  refine ⟨_, pe_not p, fun G H σ ρ fp k Q R hm q => ?_⟩
  unfold mNotV at hm
  rw [Option.map_eq_some_iff] at hm
  obtain ⟨c, h1, rfl⟩ := hm
  obtain ⟨r, e2, e3⟩ := mTst_inv h1
  refine s G H σ ρ fp r _ R e2 fun v F H1 x1 o1 => ?_
  have z := o1.data
  rw [e3] at z; cases z
  exact ⟨c, rfl, q _ [] H1 x1 (Fl.bl _).rok⟩
def mIf (t : MT) (a b : ME) : ME := fun ρ => match t ρ with
  | some true => a ρ
  | some false => b ρ
  | none => none
theorem x_if (hc : XT X c t) (ha : XE X a ma) (hb : XE X b mb) : XE X (.IfExp c a b pos) (mIf t ma mb) := by
  obtain ⟨tc, p0, s0⟩ := hc
  obtain ⟨ta, p, s⟩ := ha
  obtain ⟨tb, p', s'⟩ := hb
  refine ⟨_, pe_ifExp p0 p p', fun G H σ ρ fp k Q R hm q => ?_⟩
  unfold mIf at hm
  split at hm
  · rename_i e1
    refine s0 G H σ ρ fp true _ R e1 fun H1 x1 => ?_
    rw [if_pos rfl]
    exact s G H1 σ ρ fp k Q (R.grow x1) hm fun v F H2 x2 o2 => q v F H2 (x1.trans x2) (o2.back x1)
  · rename_i e1
    refine s0 G H σ ρ fp false _ R e1 fun H1 x1 => ?_
    rw [if_neg Bool.false_ne_true]
    exact s' G H1 σ ρ fp k Q (R.grow x1) hm fun v F H2 x2 o2 => q v F H2 (x1.trans x2) (o2.back x1)
  · cases hm
/-- -a -/
def mNeg (a : ME) : ME := fun ρ => match a ρ with
  | some r => match r.data with
    | .int i => some (.sh (.int (-i)))
    | _ => none
  | none => none
theorem x_neg (ha : XE X a ma) : XE X (.UnaryOp .USub a pos) (mNeg ma) := by
  obtain ⟨ta, p, s⟩ := ha
  refine ⟨_, pe_un un_neg p, fun G H σ ρ fp k Q R hm q => ?_⟩
  unfold mNeg at hm
  split at hm
  · rename_i r e1
    split at hm
    · rename_i i e2; cases hm
      refine s G H σ ρ fp r _ R e1 fun v F H1 x1 o1 => ?_
      have z := o1.data
      rw [e2] at z; cases z
      exact ⟨i, rfl, q _ [] H1 x1 (Fl.int _).rok⟩
    · cases hm
  · cases hm
/-- a < b < c -/
def mChain (f g : R → R → Option R) (ma mb mc : ME) : ME := fun ρ => match ma ρ, mb ρ with
  | some x, some y => match f x y with
    | some z => match z.data with
      | .bl true => mOp g (fun _ => some y) mc ρ
      | .bl false => some (.sh (.bl false))
      | _ => none
    | none => none
  | _, _ => none

/-! subscripts -/
def fIx : R → R → Option R := fun x y => match x, y.data with
  | .sh (.lst ds), .int i => (atI ds i).map .sh
  | .sh (.tup ds), .int i => (atI ds i).map .sh
  | .vw (.lst ds), .int i => (atI ds i).map .vw
  | .vw (.tup ds), .int i => (atI ds i).map .vw
  | .tr s, .int i => match s.data with
    | .lst ds => (atI ds i).map .vw
    | .tup ds => (atI ds i).map .vw
    | _ => none
  | .sh (.scr ns), .int i => (atI ns i).map fun n => .sh (.int n)
  | .sh (.str z), .int i => if z.length ≤ 100000 then (atI z.cps.toList i).map fun c => .sh (.str ⟨#[c]⟩) else none
  | .vw (.str z), .int i => if z.length ≤ 100000 then (atI z.cps.toList i).map fun c => .sh (.str ⟨#[c]⟩) else none
  | _, _ => none
theorem atI_dt {K : PySem.W.Frag} {H : Hp} {vs : List V} {ds : List D} {i : Int} {d : D} (h : DtL K H vs ds) (e : atI ds i = some d) : ∃ v, atI vs i = some v ∧ Dt K H v d := by
  unfold atI at e ⊢
  rw [h.len]
  cases q : ixN ds.length i with
  | none => rw [q] at e; simp at e
  | some j => rw [q] at e; simpa using h.get (i := j) (by simpa using e)
theorem atI_int {ns : List Int} {i n : Int} (e : atI ns i = some n) : atI (ns.map V.int) i = some (V.int n) := by
  unfold atI at e ⊢
  rw [List.length_map]
  cases q : ixN ns.length i with
  | none => rw [q] at e; simp at e
  | some j => rw [q] at e; simp at e; simp [e]
theorem op2_ix {K : PySem.W.Frag} : Op2 K (rIx K) fIx := by
  intro H H1 fp x Fx rx y Fy ry z Q ox oy _ _ ex hz q
  have hy := oy.data
  unfold fIx at hz
  split at hz
  · rename_i ds i e2; rw [e2] at hy; cases hy
    rw [Option.map_eq_some_iff] at hz; obtain ⟨d, h1, rfl⟩ := hz
    obtain ⟨_, hx⟩ := ox
    cases hx with
    | lst h t =>
      obtain ⟨v, h2, h3⟩ := atI_dt t h1
      exact .inl ⟨_, _, _, v, rfl, rfl, SqL.of (hid_ex _ _ h), h2, q v [] H1 (Evl.Ex.refl H1) ⟨rfl, h3⟩⟩
  · rename_i ds i e2; rw [e2] at hy; cases hy
    rw [Option.map_eq_some_iff] at hz; obtain ⟨d, h1, rfl⟩ := hz
    obtain ⟨_, hx⟩ := ox
    cases hx with
    | tup h t =>
      obtain ⟨v, h2, h3⟩ := atI_dt t h1
      exact .inr (.inl ⟨_, _, _, v, rfl, rfl, Evl.ex_t hid_ex (.inl (.inl h)), h2, q v [] H1 (Evl.Ex.refl H1) ⟨rfl, h3⟩⟩)
  · rename_i ds i e2; rw [e2] at hy; cases hy
    rw [Option.map_eq_some_iff] at hz; obtain ⟨d, h1, rfl⟩ := hz
    obtain ⟨_, hx⟩ := ox
    cases hx with
    | lst h t =>
      obtain ⟨v, h2, h3⟩ := atI_dt t h1
      exact .inl ⟨_, _, _, v, rfl, rfl, SqL.of h, h2, q v [] H1 (Evl.Ex.refl H1) ⟨rfl, h3⟩⟩
  · rename_i ds i e2; rw [e2] at hy; cases hy
    rw [Option.map_eq_some_iff] at hz; obtain ⟨d, h1, rfl⟩ := hz
    obtain ⟨_, hx⟩ := ox
    cases hx with
    | tup h t =>
      obtain ⟨v, h2, h3⟩ := atI_dt t h1
      exact .inr (.inl ⟨_, _, _, v, rfl, rfl, .inl (.inl h), h2, q v [] H1 (Evl.Ex.refl H1) ⟨rfl, h3⟩⟩)
  · rename_i s i e2; rw [e2] at hy; cases hy
    have hx : Dt K H1 x s.data := ROk.data (r := .tr s) ox
    split at hz
    · rename_i ds e3; rw [e3] at hx
      rw [Option.map_eq_some_iff] at hz; obtain ⟨d, h1, rfl⟩ := hz
      cases hx with
      | lst h t =>
        obtain ⟨v, h2, h3⟩ := atI_dt t h1
        exact .inl ⟨_, _, _, v, rfl, rfl, SqL.of h, h2, q v [] H1 (Evl.Ex.refl H1) ⟨rfl, h3⟩⟩
    · rename_i ds e3; rw [e3] at hx
      rw [Option.map_eq_some_iff] at hz; obtain ⟨d, h1, rfl⟩ := hz
      cases hx with
      | tup h t =>
        obtain ⟨v, h2, h3⟩ := atI_dt t h1
        exact .inr (.inl ⟨_, _, _, v, rfl, rfl, .inl (.inl h), h2, q v [] H1 (Evl.Ex.refl H1) ⟨rfl, h3⟩⟩)
    · cases hz
  · rename_i ns i e2; rw [e2] at hy; cases hy
    rw [Option.map_eq_some_iff] at hz; obtain ⟨n, h1, rfl⟩ := hz
    obtain ⟨_, hx⟩ := ox
    cases hx with
    | scr h _ => exact .inl ⟨_, _, _, _, rfl, rfl, Evl.ex_l hid_ex h, atI_int h1, q _ [] H1 (Evl.Ex.refl H1) (Fl.int _).rok⟩
  · rename_i w i e2; rw [e2] at hy; cases hy
    obtain ⟨_, hx⟩ := ox
    cases hx
    split at hz
    · rename_i hl
      rw [Option.map_eq_some_iff] at hz; obtain ⟨c, h1, rfl⟩ := hz
      exact .inr (.inr ⟨w, i, c, rfl, rfl, Evl.sz_of hl, h1, q _ [] H1 (Evl.Ex.refl H1) (Fl.str _).rok⟩)
    · cases hz
  · rename_i w i e2; rw [e2] at hy; cases hy
    obtain ⟨_, hx⟩ := ox
    cases hx
    split at hz
    · rename_i hl
      rw [Option.map_eq_some_iff] at hz; obtain ⟨c, h1, rfl⟩ := hz
      exact .inr (.inr ⟨w, i, c, rfl, rfl, Evl.sz_of hl, h1, q _ [] H1 (Evl.Ex.refl H1) (Fl.str _).rok⟩)
    · cases hz
  · cases hz
theorem xix (ha : XE X a ma) (hb : XE X b mb) (hs : PlainIx b := by exact fun _ _ => rfl) : XE X (.Subscript a b pos) (mOp fIx ma mb) := by
  obtain ⟨ta, p, s⟩ := ha
  obtain ⟨tb, p', s'⟩ := hb
  exact ⟨_, pe_ix ix_seq p p' hs, sim_op op2_ix s s'⟩
end
end DL

set_option Elab.async false
set_option linter.all false
set_option maxRecDepth 100000
set_option maxHeartbeats 4000000
/-! Displays, calls, comprehensions. -/
namespace DL
open PySem PySem.Spec PyProof.Rows L2
open Evl (Ex)

theorem ls_mono {H H' : Hp} {fp : Nat → List Addr} (ls : ∀ i a, a ∈ fp i → ∃ xs, H a = some (mo xs)) (e : Ex H H') : ∀ i a, a ∈ fp i → ∃ xs, H' a = some (mo xs) := fun i a m => let ⟨xs, h⟩ := ls i a m; ⟨xs, e _ _ h⟩
/-- an address that holds no list yet is in no footprint -/
theorem not_fp {H : Hp} {fp : Nat → List Addr} (ls : ∀ i a, a ∈ fp i → ∃ xs, H a = some (mo xs)) {p : Addr} (hp : H p = none) : ∀ i, p ∉ fp i := fun i m => by
  obtain ⟨xs, e⟩ := ls i p m; rw [hp] at e; cases e
theorem imm_hid {K : PySem.W.Frag} {H : Hp} {fp : Nat → List Addr} (ls : ∀ i a, a ∈ fp i → ∃ xs, H a = some (mo xs)) {v : V} {d : D} (h : Dt K H v d) (i : imm d = true) : Dt K (hid H fp) v d := (h.stb i).mono (stb_hid ls)
theorem stb_stb {H : Hp} : stb (stb H) = stb H := by
  funext a
  simp only [stb]
  cases H a with
  | none => rfl
  | some o => cases o <;> rfl
/-- what is fresh is hidden nowhere -/
theorem Rep.hid {K : PySem.W.Frag} {H H1 : Hp} {fp : Nat → List Addr} (ls : ∀ i a, a ∈ fp i → ∃ xs, H a = some (mo xs)) (ls1 : ∀ i a, a ∈ fp i → ∃ xs, H1 a = some (mo xs)) : ∀ {s : S} {v : V} {F : List Addr}, Rep K H1 s v F → (∀ a ∈ F, H a = none) → Dt K (hid H1 fp) v s.data := by
  intro s v F h f
  have := (h.keep (H' := DL.hid H1 fp) ⟨?_, fun a m o e => by rw [hid_at (not_fp ls (f a m))]; exact e⟩).data
  · exact this
  · have h1 := stb_mono (stb_hid ls1)
    rw [stb_stb] at h1
    exact h1
section
variable {X : Cx} {e a b c : Expr} {es : List Expr} {ma mb mc : ME} {ms : MA} {pos : Pos}

/-! displays -/
def mLst (ms : MA) : ME := fun ρ => match ms ρ with
  | some rs => if rs.length ≤ 100000 then (match trees rs with
    | some ss => some (.tr (.own ss))
    | none => some (.vw (.lst (rs.map DL.R.data)))) else none
  | none => none
theorem x_lst (h : XA X es ms) : XE X (.List es pos) (mLst ms) := by
  obtain ⟨t, p, s⟩ := h
  refine ⟨_, pe_lst p, fun G H σ ρ fp r Q R hm q => ?_⟩
  unfold mLst at hm
  split at hm
  · rename_i rs e1
    split at hm
    · rename_i hl
      refine s G H σ ρ fp rs _ R e1 fun vs F H1 x1 o1 => ⟨?_, fun p hp => ?_⟩
      · rw [← o1.len]; exact Evl.sz_of hl
      · have x2 : Ex H1 (upd H1 p (.lst vs)) := Evl.Ex.new hp
        split at hm
        · rename_i ss e2; cases hm
          refine q _ (p :: F) _ (x1.trans x2) ⟨.own upd_same ((o1.trees e2).mono x2) fun m => ?_, fun a m => ?_⟩
          · obtain ⟨xs, z⟩ := o1.ls p m; rw [hp] at z; cases z
          · rcases List.mem_cons.mp m with e | m
            · subst e; exact Evl.fresh_back x1 hp
            · exact o1.fresh a m
        · cases hm
          exact q _ [] _ (x1.trans x2) ⟨rfl, .lst upd_same ((o1.mono x2).data)⟩
    · cases hm
  · cases hm
def mTup (ms : MA) : ME := fun ρ => match ms ρ with
  | some rs => if rs.length ≤ 100000 then (if immL (rs.map DL.R.data) = true then some (.sh (.tup (rs.map DL.R.data))) else (match trees rs with
    | some ss => some (.tr (.tp ss))
    | none => some (.vw (.tup (rs.map DL.R.data))))) else none
  | none => none
theorem x_tup {x1} (h : XA X es ms) : XE X (.Tuple es x1 pos) (mTup ms) := by
  obtain ⟨t, p, s⟩ := h
  refine ⟨_, pe_tup p, fun G H σ ρ fp r Q R hm q => ?_⟩
  unfold mTup at hm
  split at hm
  · rename_i rs e1
    split at hm
    · rename_i hl
      refine s G H σ ρ fp rs _ R e1 fun vs F H1 x1 o1 => ⟨?_, fun p hp => ?_⟩
      · rw [← o1.len]; exact Evl.sz_of hl
      · have x2 : Ex H1 (upd H1 p (.tup vs)) := Evl.Ex.new hp
        have d2 : Dt X.K (upd H1 p (.tup vs)) (.ref p) (.tup (rs.map DL.R.data)) := .tup upd_same ((o1.mono x2).data)
        split at hm
        · rename_i im; cases hm
          exact q _ [] _ (x1.trans x2) ⟨rfl, imm_hid (ls_mono R.ls (x1.trans x2)) d2 (by simpa [imm] using im)⟩
        · split at hm
          · rename_i ss e2; cases hm
            exact q _ F _ (x1.trans x2) ⟨.tp upd_same ((o1.trees e2).mono x2), fun a m => o1.fresh a m⟩
          · cases hm
            exact q _ [] _ (x1.trans x2) ⟨rfl, d2⟩
    · cases hm
  · cases hm

/-! built-ins by values -/
def CallOk (K : PySem.W.Frag) (r : List V → Hp → VK → Prop) (f : List D → Option R) : Prop := ∀ H H1 fp vs ds z (Q : VK), DtL K H1 vs ds → (∀ i a, a ∈ fp i → ∃ xs, H1 a = some (mo xs)) → Ex H H1 → f ds = some z →
  (∀ v F H', Ex H1 H' → ROk K H H' fp v F z → Q v H') → r vs H1 Q
def mCB (f : List D → Option R) (ms : MA) : ME := fun ρ => match ms ρ with
  | some rs => f (rs.map DL.R.data)
  | none => none
theorem sim_CB {K : PySem.W.Frag} {r : List V → Hp → VK → Prop} {f : List D → Option R} {t : TA} (hr : CallOk K r f) (hs : SimA K t ms) : SimE K (tCB r t) (mCB f ms) := by
  intro G H σ ρ fp z Q R hm q
  unfold mCB at hm
  split at hm
  · rename_i rs e1
    refine hs G H σ ρ fp rs _ R e1 fun vs F H1 x1 o1 => ?_
    exact hr H H1 fp vs _ z Q o1.data (ls_mono R.ls x1) x1 hm fun v F H' x2 o2 => q v F H' (x1.trans x2) o2
  · cases hm
theorem xcallB {id : String} {r : List V → Hp → VK → Prop} {f : List D → Option R} {x : Str} {p : Pos} (hc : CallR X (.builtin id) r) (hr : CallOk X.K r f) (hg : Gl X x) (hm : X.mg x = none) (hv : bootBuiltins x = some (.builtin id)) (ha : XA X (e :: es) ms) (hn : x ≠ "__name__" := by decide) (hdb : (x == ("__debug__" : Str)) = false := by decide)
    (he : starEach (e :: es) X.env = (false, eval e X.env) :: starEach es X.env := by rfl) (hpl : (backTo pos (starEach es X.env)).any (·.1) = false := by rfl) : XE X (.Call (.Name x p) (e :: es) [] pos) (mCB f ms) := by
  obtain ⟨t, p, s⟩ := ha
  exact ⟨_, pe_callB hc hg hm hv p hn hdb he hpl, sim_CB hr s⟩
theorem xcallTy {T : String} {r : List V → Hp → VK → Prop} {f : List D → Option R} {x : Str} {p : Pos} (hc : CallR X (.type T) r) (hr : CallOk X.K r f) (hg : Gl X x) (hm : X.mg x = none) (hv : bootBuiltins x = some (.type T)) (ha : XA X (e :: es) ms) (hn : x ≠ "__name__" := by decide) (hdb : (x == ("__debug__" : Str)) = false := by decide)
    (he : starEach (e :: es) X.env = (false, eval e X.env) :: starEach es X.env := by rfl) (hpl : (backTo pos (starEach es X.env)).any (·.1) = false := by rfl) : XE X (.Call (.Name x p) (e :: es) [] pos) (mCB f ms) := by
  obtain ⟨t, p, s⟩ := ha
  exact ⟨_, pe_callTy hc hg hm hv p hn hdb he hpl, sim_CB hr s⟩
def gLen : List D → Option R
  | [.lst xs] => some (.sh (.int xs.length))
  | [.tup xs] => some (.sh (.int xs.length))
  | [.ktp xs] => some (.sh (.int xs.length))
  | [.scr xs] => some (.sh (.int xs.length))
  | [.str z] => if z.length ≤ 100000 then some (.sh (.int z.length)) else none
  | _ => none
theorem ok_len {K : PySem.W.Frag} : CallOk K (fun xs H Q => ∃ x n, xs = [x] ∧ LenV K x H n ∧ Q (.int n) H) gLen := by
  intro H H1 fp vs ds z Q h ls ex hz q
  unfold gLen at hz
  split at hz
  · rename_i xs; cases hz
    cases h with
    | cons h1 t =>
      cases t
      cases h1 with
      | lst h2 t2 => exact ⟨_, xs.length, rfl, .inl ⟨_, SqL.of h2, t2.len.symm⟩, q _ [] H1 (Evl.Ex.refl H1) (Fl.int _).rok⟩
  · rename_i xs; cases hz
    cases h with
    | cons h1 t =>
      cases t
      cases h1 with
      | tup h2 t2 => exact ⟨_, xs.length, rfl, .inr ⟨_, .inl (.inl h2), t2.len.symm⟩, q _ [] H1 (Evl.Ex.refl H1) (Fl.int _).rok⟩
  · rename_i xs; cases hz
    cases h with
    | cons h1 t =>
      cases t
      cases h1 with
      | ktp h2 => exact ⟨_, xs.length, rfl, .inr ⟨_, h2, (List.length_map _).symm⟩, q _ [] H1 (Evl.Ex.refl H1) (Fl.int _).rok⟩
  · rename_i xs; cases hz
    cases h with
    | cons h1 t =>
      cases t
      cases h1 with
      | scr h2 _ => exact ⟨_, xs.length, rfl, .inl ⟨_, h2, (List.length_map _).symm⟩, q _ [] H1 (Evl.Ex.refl H1) (Fl.int _).rok⟩
  · rename_i w
    split at hz
    · rename_i hl; cases hz
      cases h with
      | cons h1 t =>
        cases t
        cases h1
        exact ⟨_, w.length, rfl, ⟨Evl.sz_of hl, rfl⟩, q _ [] H1 (Evl.Ex.refl H1) (Fl.int _).rok⟩
    · cases hz
  · cases hz
def gMin : List D → Option R
  | [.int i, .int j] => some (.sh (.int (if j < i then j else i)))
  | _ => none
def gMax : List D → Option R
  | [.int i, .int j] => some (.sh (.int (if j > i then j else i)))
  | _ => none
theorem dt_int {K : PySem.W.Frag} {H : Hp} {v : V} {i : Int} (h : Dt K H v (.int i)) : v = .int i := by cases h; rfl
theorem ok_min {K : PySem.W.Frag} : CallOk K (fun xs H Q => ∃ i j, xs = [.int i, .int j] ∧ Q (.int (if j < i then j else i)) H) gMin := by
  intro H H1 fp vs ds z Q h ls ex hz q
  unfold gMin at hz
  split at hz
  · rename_i i j; cases hz
    cases h with
    | cons h1 t =>
      cases t with
      | cons h2 t =>
        cases t
        cases dt_int h1; cases dt_int h2
        exact ⟨i, j, rfl, q _ [] H1 (Evl.Ex.refl H1) (Fl.int _).rok⟩
  · cases hz
theorem ok_max {K : PySem.W.Frag} : CallOk K (fun xs H Q => ∃ i j, xs = [.int i, .int j] ∧ Q (.int (if j > i then j else i)) H) gMax := by
  intro H H1 fp vs ds z Q h ls ex hz q
  unfold gMax at hz
  split at hz
  · rename_i i j; cases hz
    cases h with
    | cons h1 t =>
      cases t with
      | cons h2 t =>
        cases t
        cases dt_int h1; cases dt_int h2
        exact ⟨i, j, rfl, q _ [] H1 (Evl.Ex.refl H1) (Fl.int _).rok⟩
  · cases hz
def gList : List D → Option R
  | [.lst xs] => some (newL xs)
  | [.tup xs] => some (newL xs)
  | [.scr xs] => some (newL (xs.map .int))
  | _ => none
theorem ok_list {K : PySem.W.Frag} : CallOk K (fun xs H Q => ∃ p ys, xs = [.ref p] ∧ (SqL K H p ys ∨ SqT K H p ys) ∧ ∀ l, H l = none → Q (.ref l) (upd H l (.lst ys))) gList := by
  intro H H1 fp vs ds z Q h ls ex hz q
  unfold gList at hz
  split at hz
  · rename_i xs; cases hz
    cases h with
    | cons h1 t =>
      cases t
      cases h1 with
      | lst h2 t2 =>
        refine ⟨_, _, rfl, .inl (SqL.of h2), fun l hl => ?_⟩
        obtain ⟨F, o⟩ := newL_ok (fp := fp) hl ex t2
        exact q _ F _ (Evl.Ex.new hl) o
  · rename_i xs; cases hz
    cases h with
    | cons h1 t =>
      cases t
      cases h1 with
      | tup h2 t2 =>
        refine ⟨_, _, rfl, .inr (.inl (.inl h2)), fun l hl => ?_⟩
        obtain ⟨F, o⟩ := newL_ok (fp := fp) hl ex t2
        exact q _ F _ (Evl.Ex.new hl) o
  · rename_i xs; cases hz
    cases h with
    | cons h1 t =>
      cases t
      cases h1 with
      | scr h2 t2 =>
        refine ⟨_, _, rfl, .inl h2, fun l hl => ?_⟩
        obtain ⟨F, o⟩ := newL_ok (fp := fp) hl ex (DtL.ints xs)
        exact q _ F _ (Evl.Ex.new hl) o
  · cases hz
def ints? : List D → Option (List Int)
  | [] => some []
  | .int i :: r => (ints? r).map (i :: ·)
  | _ => none
theorem ints?_some : ∀ {ds : List D} {ns : List Int}, ints? ds = some ns → ds = ns.map D.int
  | [], _, h => by cases h; rfl
  | .int i :: r, ns, h => by
    unfold ints? at h
    rw [Option.map_eq_some_iff] at h
    obtain ⟨m, h1, rfl⟩ := h
    rw [ints?_some h1]; rfl
  | .non :: _, _, h => by simp [ints?] at h
  | .bl _ :: _, _, h => by simp [ints?] at h
  | .str _ :: _, _, h => by simp [ints?] at h
  | .lst _ :: _, _, h => by simp [ints?] at h
  | .tup _ :: _, _, h => by simp [ints?] at h
  | .scr _ :: _, _, h => by simp [ints?] at h
@[simp] theorem ints?_map (ns : List Int) : ints? (ns.map D.int) = some ns := by
  induction ns with
  | nil => rfl
  | cons n r ih => simp [ints?, ih]
def bls? : List D → Option (List Bool)
  | [] => some []
  | .bl i :: r => (bls? r).map (i :: ·)
  | _ => none
theorem bls?_some : ∀ {ds : List D} {ns : List Bool}, bls? ds = some ns → ds = ns.map D.bl
  | [], _, h => by cases h; rfl
  | .bl i :: r, ns, h => by
    unfold bls? at h
    rw [Option.map_eq_some_iff] at h
    obtain ⟨m, h1, rfl⟩ := h
    rw [bls?_some h1]; rfl
  | .non :: _, _, h => by simp [bls?] at h
  | .int _ :: _, _, h => by simp [bls?] at h
  | .str _ :: _, _, h => by simp [bls?] at h
  | .lst _ :: _, _, h => by simp [bls?] at h
  | .tup _ :: _, _, h => by simp [bls?] at h
  | .scr _ :: _, _, h => by simp [bls?] at h
@[simp] theorem bls?_map (ns : List Bool) : bls? (ns.map D.bl) = some ns := by
  induction ns with
  | nil => rfl
  | cons n r ih => simp [bls?, ih]
def gSum : List D → Option R
  | [.lst xs] => (ints? xs).map fun ns => .sh (.int ns.sum)
  | _ => none
theorem ok_sum {K : PySem.W.Frag} : CallOk K (rSum K) gSum := by
  intro H H1 fp vs ds z Q h ls ex hz q
  unfold gSum at hz
  split at hz
  · rename_i xs
    rw [Option.map_eq_some_iff] at hz
    obtain ⟨ns, h1, rfl⟩ := hz
    have := ints?_some h1; subst this
    cases h with
    | cons h1 t =>
      cases t
      cases h1 with
      | lst h2 t2 =>
        have := t2.ints_inv; subst this
        exact ⟨_, ns, rfl, SqL.of h2, q _ [] H1 (Evl.Ex.refl H1) (Fl.int _).rok⟩
  · cases hz
def gAll : List D → Option R
  | [.lst xs] => (bls? xs).map fun ns => .sh (.bl (ns.all id))
  | _ => none
def gAny : List D → Option R
  | [.lst xs] => (bls? xs).map fun ns => .sh (.bl (ns.any id))
  | _ => none
theorem ok_all {K : PySem.W.Frag} : CallOk K (rAll K) gAll := by
  intro H H1 fp vs ds z Q h ls ex hz q
  unfold gAll at hz
  split at hz
  · rename_i xs
    rw [Option.map_eq_some_iff] at hz
    obtain ⟨ns, h1, rfl⟩ := hz
    have := bls?_some h1; subst this
    cases h with
    | cons h1 t =>
      cases t
      cases h1 with
      | lst h2 t2 =>
        have := t2.bls_inv; subst this
        exact ⟨_, ns, rfl, SqL.of h2, q _ [] H1 (Evl.Ex.refl H1) (Fl.bl _).rok⟩
  · cases hz
theorem ok_any {K : PySem.W.Frag} : CallOk K (rAny K) gAny := by
  intro H H1 fp vs ds z Q h ls ex hz q
  unfold gAny at hz
  split at hz
  · rename_i xs
    rw [Option.map_eq_some_iff] at hz
    obtain ⟨ns, h1, rfl⟩ := hz
    have := bls?_some h1; subst this
    cases h with
    | cons h1 t =>
      cases t
      cases h1 with
      | lst h2 t2 =>
        have := t2.bls_inv; subst this
        exact ⟨_, ns, rfl, SqL.of h2, q _ [] H1 (Evl.Ex.refl H1) (Fl.bl _).rok⟩
  · cases hz
def gInt : List D → Option R
  | [.int i] => some (.sh (.int i))
  | [.bl b] => some (.sh (.int (if b then 1 else 0)))
  | _ => none
theorem ok_int {K : PySem.W.Frag} : CallOk K (fun xs H Q => (∃ i, xs = [.int i] ∧ Q (.int i) H) ∨ ∃ k, xs = [.bl k] ∧ Q (.int (if k then 1 else 0)) H) gInt := by
  intro H H1 fp vs ds z Q h ls ex hz q
  unfold gInt at hz
  split at hz
  · rename_i i; cases hz
    cases h with
    | cons h1 t => cases t; cases h1; exact .inl ⟨_, rfl, q _ [] H1 (Evl.Ex.refl H1) (Fl.int _).rok⟩
  · rename_i i; cases hz
    cases h with
    | cons h1 t => cases t; cases h1; exact .inr ⟨_, rfl, q _ [] H1 (Evl.Ex.refl H1) (Fl.int _).rok⟩
  · cases hz

/-! isinstance of built-in types -/
def D.ty : D → String
  | .non => "NoneType"
  | .bl _ => "bool"
  | .int _ => "int"
  | .str _ => "str"
  | .lst _ => "list"
  | .tup _ => "tuple"
  | .ktp _ => "tuple"
  | .scr _ => "list"
theorem Dt.tyX {K : PySem.W.Frag} {H : Hp} {v : V} {d : D} (h : Dt K H v d) : TyX K H v (.type d.ty) := by
  cases h with
  | non => exact .base .non
  | bl b => exact .base (.bl b)
  | int i => exact .base (.int i)
  | str x => exact .base (.str x)
  | lst h t => exact .base (.lst h)
  | tup h t => exact .base (.tup h)
  | ktp h =>
    rcases h with (h | ⟨o, h⟩) | ⟨o, its, n, h, hc, _⟩
    · exact .base (.tup h)
    · exact .fTuple h
    · exact .kTuple h hc
  | scr h _ =>
    rcases h with (h | ⟨o, h⟩) | ⟨o, its, n, h, hc, _⟩
    · exact .base (.lst h)
    · exact .base (.frz h)
    · exact .kList h hc
/-- is T among the classes of what is of the type t -/
def isTy (t T : String) : Bool := t == T || (t == "bool" && T == "int")
theorem kit_isTy {K : PySem.W.Frag} {d : D} {T : String} (hT : T ∈ ["int", "bool", "str", "list", "tuple"]) : PySem.W.kitOne K (.type d.ty) (.type T) = some (isTy d.ty T) := by
  simp only [List.mem_cons, List.not_mem_nil, or_false] at hT
  rcases hT with rfl | rfl | rfl | rfl | rfl <;> cases d <;> simp only [D.ty] <;> exact kit_ty (by decide +kernel)
def mIsi (T : String) (ma : ME) : ME := fun ρ => (ma ρ).map fun r => .sh (.bl (isTy r.data.ty T))
theorem x_isi {T : String} {Tx : Str} {p p2 pos : Pos} (hT : T ∈ ["int", "bool", "str", "list", "tuple"]) (hg : Gl X "isinstance") (hm : X.mg "isinstance" = none) (hg2 : Gl X Tx) (hm2 : X.mg Tx = none) (hv2 : bootBuiltins Tx = some (.type T)) (ha : XE X a ma)
    (hn2 : Tx ≠ "__name__" := by decide) (hdb2 : (Tx == ("__debug__" : Str)) = false := by decide)
    (he : starEach [a, .Name Tx p2] X.env = (false, eval a X.env) :: starEach [.Name Tx p2] X.env := by rfl) (he2 : starEach [.Name Tx p2] X.env = (false, eval (.Name Tx p2) X.env) :: starEach [] X.env := by rfl)
    (hpl : (backTo pos (starEach [.Name Tx p2] X.env)).any (·.1) = false := by rfl) : XE X (.Call (.Name "isinstance" p) [a, .Name Tx p2] [] pos) (mIsi T ma) := by
  obtain ⟨t, pa, s⟩ := ha
  refine ⟨_, pe_callB call_isi hg hm PyProof.Rows.boot_isinstance (pa_cons pa (pa_cons (pe_bltn (v := .ty T) hg2 hm2 hv2 rfl hn2 hdb2) pa_nil he2) he) (by decide) (by decide) he hpl, fun G H σ ρ fp r Q R hm q => ?_⟩
  unfold mIsi at hm
  rw [Option.map_eq_some_iff] at hm
  obtain ⟨c, h1, rfl⟩ := hm
  refine s G H σ ρ fp c _ R h1 fun v F H1 x1 o1 => ?_
  exact ⟨v, .ty T, _, _, _, rfl, .ty T, o1.data.tyX, kit_isTy hT, q _ [] H1 x1 (Fl.bl _).rok⟩

/-! slices -/
abbrev MO := Env → Option (Option Int)
def SimO (K : PySem.W.Frag) (t : TO) (m : MO) : Prop := ∀ G H σ ρ fp o (Q : Option Int → Hp → Prop), RelF K G H σ ρ fp → m ρ = some o → (∀ H', Ex H H' → Q o H') → t σ H Q
structure XO (X : Cx) (e : Option Expr) (m : MO) : Prop where
  sim : ∃ t, PO X e t ∧ SimO X.K t m
def mNoPart : MO := fun _ => some none
def mPart (m : ME) : MO := fun ρ => match m ρ with
  | some r => match r.data with
    | .int i => some (some i)
    | _ => none
  | none => none
theorem xo_none : XO X none mNoPart := ⟨_, po_none, fun G H σ ρ fp o Q R hm q => by cases hm; exact q H (Evl.Ex.refl H)⟩
theorem xo_some (h : XE X e ma) : XO X (some e) (mPart ma) := by
  obtain ⟨t, p, s⟩ := h
  refine ⟨_, po_some p, fun G H σ ρ fp o Q R hm q => ?_⟩
  unfold mPart at hm
  split at hm
  · rename_i r e1
    split at hm
    · rename_i i e2; cases hm
      refine s G H σ ρ fp r _ R e1 fun v F H1 x1 o1 => ?_
      have z := o1.data
      rw [e2] at z; cases z
      exact ⟨i, rfl, q H1 x1⟩
    · cases hm
  · cases hm
def cut {α : Type} (xs : List α) (lo hi : Option Int) : List α := (xs.drop (HT.sIx xs.length 0 lo)).take (HT.sIx xs.length xs.length hi - HT.sIx xs.length 0 lo)
theorem cut_dt {K : PySem.W.Frag} {H : Hp} {vs : List V} {ds : List D} {lo hi : Option Int} (h : DtL K H vs ds) : DtL K H (cutV vs lo hi) (cut ds lo hi) := by
  unfold cutV cut
  rw [h.len]
  exact (h.drop _).take _
def fSl : D → Option Int → Option Int → Option R
  | .lst ds, lo, hi => some (newL (cut ds lo hi))
  | .scr ns, lo, hi => some (newL ((cut ns lo hi).map .int))
  | .tup ds, lo, hi => if HT.sIx ds.length 0 lo = 0 ∧ HT.sIx ds.length ds.length hi = ds.length then none else (if immL (cut ds lo hi) = true then some (.sh (.tup (cut ds lo hi))) else none)
  | .str z, lo, hi => if z.length ≤ 100000 then some (.sh (.str (cutS z lo hi))) else none
  | _, _, _ => none
def mSl (m : ME) (l h : MO) : ME := fun ρ => match m ρ, l ρ, h ρ with
  | some r, some lo, some hi => fSl r.data lo hi
  | _, _, _ => none
theorem fSl_ok {K : PySem.W.Frag} {H H1 : Hp} {fp : Nat → List Addr} {v : V} {d : D} {lo hi : Option Int} {z : R} {Q : VK} (hd : Dt K H1 v d) (ls : ∀ i a, a ∈ fp i → ∃ xs, H1 a = some (mo xs)) (ex : Ex H H1) (hz : fSl d lo hi = some z)
    (q : ∀ v F H', Ex H1 H' → ROk K H H' fp v F z → Q v H') : rSlL K v lo hi H1 Q ∨ rSlT K v lo hi H1 Q ∨ rSlS v lo hi H1 Q := by
  cases hd with
  | non => cases hz
  | bl => cases hz
  | int => cases hz
  | lst h t =>
    rename_i a xs ds
    have hz : some (newL (cut ds lo hi)) = some z := hz
    cases hz
    refine .inl ⟨_, _, rfl, SqL.of h, fun l hl => ?_⟩
    obtain ⟨F', o⟩ := newL_ok (fp := fp) hl ex (cut_dt (lo := lo) (hi := hi) t)
    exact q _ F' _ (Evl.Ex.new hl) o
  | scr h t =>
    rename_i a ns
    have hz : some (newL ((cut ns lo hi).map .int)) = some z := hz
    cases hz
    refine .inl ⟨_, _, rfl, h, fun l hl => ?_⟩
    have e5 : cutV (ns.map V.int) lo hi = (cut ns lo hi).map V.int := by
      unfold cutV cut; rw [List.length_map, List.map_take, List.map_drop]
    rw [e5]
    obtain ⟨F', o⟩ := newL_ok (fp := fp) hl ex (DtL.ints (cut ns lo hi))
    exact q _ F' _ (Evl.Ex.new hl) o
  | ktp h => cases hz
  | tup h t =>
    rename_i a xs ds
    have hz : (if HT.sIx ds.length 0 lo = 0 ∧ HT.sIx ds.length ds.length hi = ds.length then none else (if immL (cut ds lo hi) = true then some (R.sh (.tup (cut ds lo hi))) else none)) = some z := hz
    by_cases hw : HT.sIx ds.length 0 lo = 0 ∧ HT.sIx ds.length ds.length hi = ds.length
    · rw [if_pos hw] at hz; cases hz
    · rw [if_neg hw] at hz
      by_cases im : immL (cut ds lo hi) = true
      · rw [if_pos im] at hz; cases hz
        refine .inr (.inl ⟨_, _, rfl, .inl (.inl h), ?_, fun l hl => ?_⟩)
        · rw [t.len]; exact hw
        · have d2 : Dt K (upd H1 l (.tup (cutV xs lo hi))) (.ref l) (.tup (cut ds lo hi)) := .tup upd_same ((cut_dt t).mono (Evl.Ex.new hl))
          exact q _ [] _ (Evl.Ex.new hl) ⟨rfl, imm_hid (ls_mono ls (Evl.Ex.new hl)) d2 (by simpa [imm] using im)⟩
      · rw [if_neg im] at hz; cases hz
  | str x =>
    have hz : (if x.length ≤ 100000 then some (R.sh (.str (cutS x lo hi))) else none) = some z := hz
    by_cases hl : x.length ≤ 100000
    · rw [if_pos hl] at hz; cases hz
      exact .inr (.inr ⟨_, rfl, Evl.sz_of hl, q _ [] _ (Evl.Ex.refl H1) (Fl.str _).rok⟩)
    · rw [if_neg hl] at hz; cases hz
variable {ml mh : MO} {loE hiE : Option Expr} {p2 : Pos}
theorem x_sl (he : XE X e ma) (hl : XO X loE ml) (hu : XO X hiE mh) : XE X (.Subscript e (.Slice loE hiE none p2) pos) (mSl ma ml mh) := by
  obtain ⟨t, p, s⟩ := he
  obtain ⟨tl, pl, sl⟩ := hl
  obtain ⟨th, ph, sh⟩ := hu
  refine ⟨_, pe_slice (sl_list.or (sl_tup.or sl_str)) p pl ph, fun G H σ ρ fp r Q R hm q => ?_⟩
  unfold mSl at hm
  split at hm
  · rename_i c o1 o2 e1 e2 e3
    refine s G H σ ρ fp c _ R e1 fun v F H1 x1 o1 => ?_
    refine sl G H1 σ ρ fp _ _ (R.grow x1) e2 fun H2 x2 => ?_
    refine sh G H2 σ ρ fp _ _ ((R.grow x1).grow x2) e3 fun H3 x3 => ?_
    have x4 := (x1.trans x2).trans x3
    exact fSl_ok ((o1.data.mono x2).mono x3) (ls_mono R.ls x4) x4 hm fun v F H' x5 o => q v F H' (x4.trans x5) o
  · cases hm

/-! calls of the program's own defs -/
inductive FO where
  | ret (s : S)
  | exc (C : Addr)
def FOk (K : PySem.W.Frag) (H : Hp) (Q : VK) (E : XK) : FO → Prop
  | .ret s => ∀ v F H', Ex H H' → Rep K H' s v F → (∀ a ∈ F, H a = none) → Q v H'
  | .exc C => ∀ H', Ex H H' → E (.ref C) none H'
def spD (K : PySem.W.Frag) (n : Nat) (g : List D → Option FO) : Sp := fun vs H Q E => vs.length = n ∧ ∃ ds o, DtL K H vs ds ∧ g ds = some o ∧ FOk K H Q E o
def retR : S → R
  | .d x => .sh x
  | .own ss => .tr (.own ss)
  | .tp ss => .tr (.tp ss)
theorem retR_ok {K : PySem.W.Frag} {H H1 : Hp} {fp : Nat → List Addr} {v : V} {F : List Addr} {s : S} (ls : ∀ i a, a ∈ fp i → ∃ xs, H1 a = some (mo xs)) (h : Rep K H1 s v F) (f : ∀ a ∈ F, H a = none) : ROk K H H1 fp v F (retR s) := by
  cases s with
  | d x => cases h with
    | d h => exact ⟨rfl, h.mono (stb_hid ls)⟩
  | own ss => exact ⟨h, f⟩
  | tp ss => exact ⟨h, f⟩
def mCall (n : Nat) (g : List D → Option FO) (ms : MA) : ME := fun ρ => match ms ρ with
  | some rs => if rs.length = n then (match g (rs.map DL.R.data) with
    | some (.ret s) => some (retR s)
    | _ => none) else none
  | none => none
theorem xcall {CX : CXT} {k n : Nat} {f : Addr} {fd : FuncData} {ps : List Str} {g : List D → Option FO} {x : Str} {p : Pos} (F : FnOk X.prog X.w X.K X.mg X.base CX k f fd ps (spD X.K n g)) (hr : Room k X.A) (hg : Gl X x) (hm : X.mg x = some (.ref f)) (hk : PySem.W.keepIn X.K (.ref f) = true) (hb : Binds X.K fd ps []) (hx : Passes CX X E0)
    (ha : XA X (e :: es) ms) (hdb : (x == ("__debug__" : Str)) = false := by decide) (he : starEach (e :: es) X.env = (false, eval e X.env) :: starEach es X.env := by rfl) (hpl : (backTo pos (starEach es X.env)).any (·.1) = false := by rfl) :
    XE X (.Call (.Name x p) (e :: es) [] pos) (mCall n g ms) := by
  obtain ⟨t, pa, s⟩ := ha
  refine ⟨_, pe_call F hr hg hm hk hb .nil hx pa hdb he hpl, fun G H σ ρ fp r Q R hm q => ?_⟩
  unfold mCall at hm
  split at hm
  · rename_i rs e1
    split at hm
    · rename_i hn
      split at hm
      · rename_i s' e2; cases hm
        refine s G H σ ρ fp rs _ R e1 fun vs F H1 x1 o1 => ?_
        rw [List.append_nil]
        refine ⟨o1.len.symm.trans hn, _, _, o1.data, e2, fun v F' H' x2 o2 f2 => ?_⟩
        have x3 := x1.trans x2
        exact q v F' H' x3 (ROk.back (retR_ok (ls_mono R.ls x3) o2 f2) x1)
      · cases hm
    · cases hm
  · cases hm
end
end DL

set_option Elab.async false
set_option linter.all false
set_option maxRecDepth 100000
set_option maxHeartbeats 4000000
/-! What is walked; comprehensions; statements. -/
namespace DL
open PySem PySem.Spec PyProof.Rows L2
open Evl (Ex)
open RZ (ItzT turn_zipT iZipA pi_zipA)

/-! ### changes of the environment -/
def fset (fp : Nat → List Addr) (i : Nat) (F : List Addr) : Nat → List Addr := fun j => if j = i then F else fp j
theorem fset_self {fp : Nat → List Addr} {i : Nat} {F : List Addr} : fset fp i F i = F := by unfold fset; rw [if_pos rfl]
theorem fset_ne {fp : Nat → List Addr} {i j : Nat} {F : List Addr} (h : j ≠ i) : fset fp i F j = fp j := by unfold fset; rw [if_neg h]
section
variable {K : PySem.W.Frag} {G H H1 : Hp} {σ : L2.St} {ρ : Env} {fp : Nat → List Addr} {v : V} {F : List Addr} {r : R}
theorem hid_fset (f : ∀ a ∈ F, H a = none) (e : Ex H H1) (i : Nat) : Ex (hid H fp) (hid H1 (fset fp i F)) := fun a o h => by
  obtain ⟨n, h⟩ := hid_some h
  rw [hid_at]
  · exact e a o h
  · intro j m
    by_cases hj : j = i
    · subst hj; rw [fset_self] at m; rw [f a m] at h; cases h
    · rw [fset_ne hj] at m; exact n j m
theorem hid_less (i : Nat) : Ex (hid H fp) (hid H (fset fp i [])) := hid_fset (H1 := H) (fun a m => by cases m) (Evl.Ex.refl H) i
theorem SlOk.set (e : Ex (hid H fp) (hid H1 (fset fp i F))) (e1 : Ex H H1) {x : Option (Option V)} {G' : List Addr} {s : Sl} (h : SlOk K (hid H fp) H x G' s) : SlOk K (hid H1 (fset fp i F)) H1 x G' s := by
  cases s with
  | dead => exact h
  | ad a => exact h
  | dc m => obtain ⟨a, q1, q2, q3⟩ := h; exact ⟨a, q1, q2, e1 _ _ q3⟩
  | sh x => obtain ⟨q0, v, q1, q2⟩ := h; exact ⟨q0, v, q1, q2.mono e⟩
  | fz w x => obtain ⟨q0, q1, q2⟩ := h; exact ⟨q0, q1, q2.mono e⟩
  | vw x => obtain ⟨q0, v, q1, q2⟩ := h; exact ⟨q0, v, q1, q2.mono e1⟩
  | tr s => obtain ⟨v, q1, q2⟩ := h; exact ⟨v, q1, q2.mono e1⟩
  | ow a s => exact ⟨h.1, h.2.mono e1⟩
theorem RelF.set {i : Nat} (R : RelF K G H σ ρ fp) (e : Ex H H1) (o : ROk K H H1 fp v F r) : RelF K G H1 (σ.set i (some v)) (ρ.set i r.slot) (fset fp i F) where
  len := by simpa using R.len
  ex := R.ex.trans e
  dj := fun j k a m1 m2 => by
    by_cases hj : j = i
    · by_cases hk : k = i
      · rw [hj, hk]
      · subst hj; rw [fset_self] at m1; rw [fset_ne hk] at m2
        obtain ⟨xs, z⟩ := R.ls k a m2
        rw [o.fresh a m1] at z; cases z
    · rw [fset_ne hj] at m1
      by_cases hk : k = i
      · subst hk; rw [fset_self] at m2
        obtain ⟨xs, z⟩ := R.ls j a m1
        rw [o.fresh a m2] at z; cases z
      · rw [fset_ne hk] at m2; exact R.dj j k a m1 m2
  new := fun j a m => by
    by_cases hj : j = i
    · subst hj; rw [fset_self] at m; exact Evl.fresh_back R.ex (o.fresh a m)
    · rw [fset_ne hj] at m; exact R.new j a m
  ls := fun j a m => by
    by_cases hj : j = i
    · subst hj; rw [fset_self] at m; exact o.ls a m
    · rw [fset_ne hj] at m; exact (R.grow e).ls j a m
  sl := fun j s h => by
    have hx : Ex (hid H fp) (hid H1 (fset fp i F)) := hid_fset o.fresh e i
    by_cases hj : j = i
    · subst hj
      have hl : j < ρ.length := by
        have := (List.getElem?_eq_some_iff.mp h).1
        simpa using this
      have hl2 : j < σ.length := by rw [R.len]; exact hl
      rw [List.getElem?_set_self hl] at h
      cases h
      rw [fset_self, List.getElem?_set_self hl2]
      cases r with
      | sh x =>
        obtain ⟨rfl, h⟩ := o
        exact ⟨rfl, v, rfl, h.mono (hid_less j)⟩
      | vw x =>
        obtain ⟨rfl, h⟩ := o
        show SlOk _ _ _ _ _ (if imm x = true then .sh x else .vw x)
        by_cases im : imm x = true
        · rw [if_pos im]
          refine ⟨rfl, v, rfl, (imm_hid (fp := fp) (ls_mono R.ls e) h im).mono (hid_less j)⟩
        · rw [if_neg im]; exact ⟨rfl, v, rfl, h⟩
      | tr s => exact ⟨v, rfl, o.1⟩
    · rw [List.getElem?_set_ne (Ne.symm hj)] at h
      rw [fset_ne hj, List.getElem?_set_ne (Ne.symm hj)]
      exact SlOk.set hx e (R.sl j s h)
theorem RelF.kill1 (R : RelF K G H σ ρ fp) (i : Nat) : RelF K G H σ (ρ.set i .dead) (fset fp i []) where
  len := by simpa using R.len
  ex := R.ex
  dj := fun j k a m1 m2 => by
    by_cases hj : j = i
    · subst hj; rw [fset_self] at m1; cases m1
    · rw [fset_ne hj] at m1
      by_cases hk : k = i
      · subst hk; rw [fset_self] at m2; cases m2
      · rw [fset_ne hk] at m2; exact R.dj j k a m1 m2
  new := fun j a m => by
    by_cases hj : j = i
    · subst hj; rw [fset_self] at m; cases m
    · rw [fset_ne hj] at m; exact R.new j a m
  ls := fun j a m => by
    by_cases hj : j = i
    · subst hj; rw [fset_self] at m; cases m
    · rw [fset_ne hj] at m; exact R.ls j a m
  sl := fun j s h => by
    by_cases hj : j = i
    · subst hj
      have hl : j < ρ.length := by
        have := (List.getElem?_eq_some_iff.mp h).1
        simpa using this
      rw [List.getElem?_set_self hl] at h
      cases h
      rw [fset_self]; rfl
    · rw [List.getElem?_set_ne (Ne.symm hj)] at h
      rw [fset_ne hj]
      exact SlOk.set (hid_less i) (Evl.Ex.refl H) (R.sl j s h)
/-- the values of dead slots may be forgotten -/
theorem RelF.wipe1 (R : RelF K G H σ ρ fp) (i : Nat) : RelF K G H (σ.set i none) (ρ.set i .dead) (fset fp i []) where
  len := by simpa using R.len
  ex := R.ex
  dj := (R.kill1 i).dj
  new := (R.kill1 i).new
  ls := (R.kill1 i).ls
  sl := fun j s h => by
    have q := (R.kill1 i).sl j s h
    by_cases hj : j = i
    · subst hj
      have hl : j < ρ.length := by
        have := (List.getElem?_eq_some_iff.mp h).1
        simpa using this
      rw [List.getElem?_set_self hl] at h
      cases h
      exact q
    · rw [List.getElem?_set_ne (Ne.symm hj)]; exact q
end
def killE : List Nat → Env → Env
  | [], ρ => ρ
  | k :: ks, ρ => (killE ks ρ).set k .dead
theorem RelF.kill {K : PySem.W.Frag} {G H : Hp} {σ : L2.St} {ρ : Env} {fp : Nat → List Addr} (R : RelF K G H σ ρ fp) : ∀ ks : List Nat, ∃ fp', RelF K G H σ (killE ks ρ) fp'
  | [] => ⟨fp, R⟩
  | k :: ks => let ⟨_, R'⟩ := R.kill ks; ⟨_, R'.kill1 k⟩
theorem RelF.wipe {K : PySem.W.Frag} {G H : Hp} {σ : L2.St} {ρ : Env} {fp : Nat → List Addr} (R : RelF K G H σ ρ fp) : ∀ ks : List Nat, ∃ fp', RelF K G H (L2.wipe σ ks) (killE ks ρ) fp' ∧ ∀ i a, a ∈ fp' i → a ∈ fp i
  | [] => ⟨fp, R, fun _ _ m => m⟩
  | k :: ks => by
    obtain ⟨fp', R', h⟩ := R.wipe ks
    refine ⟨_, R'.wipe1 k, fun i a m => ?_⟩
    by_cases hj : i = k
    · subst hj; rw [fset_self] at m; cases m
    · rw [fset_ne hj] at m; exact h i a m
theorem hid_sub {H : Hp} {fp fp' : Nat → List Addr} (h : ∀ i a, a ∈ fp' i → a ∈ fp i) : Ex (hid H fp) (hid H fp') := fun a o e => by
  obtain ⟨n, e⟩ := hid_some e
  rw [hid_at fun i m => n i (h i a m)]; exact e

/-! ### what is walked -/
def ItOk (K : PySem.W.Frag) (B : Hp) (J : It) (items : List D) : Prop := ∀ i H', Ex B H' → (∀ d, items[i]? = some d → J.go i H' ∧ ∀ x H'', J.yld i H' x H'' → Ex H' H'' ∧ ∀ B2, Ex B B2 → Ex (stb H'') B2 → Dt K B2 x d) ∧ (items.length ≤ i → J.stop i H')
open Classical in
noncomputable def wallOf (s : Bool) (H : Hp) (fp : Nat → List Addr) : Hp := if s = true then hid H fp else H
abbrev MI := Env → Option (Bool × List D)
def SimI (K : PySem.W.Frag) (wi : TI) (mi : MI) : Prop := ∀ G H σ ρ fp s items (Q : It → Hp → Prop), RelF K G H σ ρ fp → mi ρ = some (s, items) → (∀ J H1, Ex H H1 → ItOk K (wallOf s H1 fp) J items → Q J H1) → wi σ H Q
structure XI (X : Cx) (tg iter : Expr) (mi : MI) : Prop where
  sim : ∃ wi, PI X tg iter wi ∧ SimI X.K wi mi
section
variable {K : PySem.W.Frag} {B : Hp} {a b : Addr} {ds es : List D}
theorem itl_ok (h : Dt K B (.ref a) (.lst ds)) : ItOk K B (Itl K a) ds := by
  cases h with
  | lst h t =>
    rename_i xs
    refine fun i H' e => ⟨fun d hd => ?_, fun hl => ⟨xs, SqL.of (e _ _ h), by rw [t.len]; exact hl⟩⟩
    obtain ⟨v, h1, h2⟩ := t.get hd
    refine ⟨⟨xs, v, SqL.of (e _ _ h), h1⟩, fun x H'' y => ?_⟩
    obtain ⟨rfl, y⟩ := y
    have := y xs (SqL.of (e _ _ h))
    rw [h1] at this; cases this
    exact ⟨Evl.Ex.refl _, fun B2 e2 _ => h2.mono e2⟩
theorem itl_scr {ns : List Int} (h : SqL K B a (ns.map V.int)) : ItOk K B (Itl K a) (ns.map D.int) := by
  refine fun i H' e => ⟨fun d hd => ?_, fun hl => ⟨_, Evl.ex_l e h, by simpa using hl⟩⟩
  have h' := Evl.ex_l e h
  rw [List.getElem?_map, Option.map_eq_some_iff] at hd
  obtain ⟨n, hn, rfl⟩ := hd
  have h1 : (ns.map V.int)[i]? = some (.int n) := by rw [List.getElem?_map, hn]; rfl
  refine ⟨⟨_, _, h', h1⟩, fun x H'' y => ?_⟩
  obtain ⟨rfl, y⟩ := y
  have := y _ h'
  rw [h1] at this; cases this
  exact ⟨Evl.Ex.refl _, fun B2 e2 _ => .int n⟩
/-- a tuple, made here or of the written part -/
def TupD (K : PySem.W.Frag) (B : Hp) (a : Addr) (ds : List D) : Prop := ∃ xs, SqT K B a xs ∧ DtL K B xs ds
theorem tupD (h : Dt K B (.ref a) (.tup ds)) : TupD K B a ds := by
  cases h with
  | tup h t => exact ⟨_, .inl (.inl h), t⟩
theorem tupK {ns : List Int} (h : Dt K B (.ref a) (.ktp ns)) : TupD K B a (ns.map .int) := by
  cases h with
  | ktp h => exact ⟨_, h, .ints ns⟩
theorem itt_ok (h : TupD K B a ds) : ItOk K B (Itt K a) ds := by
  obtain ⟨xs, h, t⟩ := h
  · skip
    refine fun i H' e => ⟨fun d hd => ?_, fun hl => ⟨xs, Evl.ex_t e h, by rw [t.len]; exact hl⟩⟩
    obtain ⟨v, h1, h2⟩ := t.get hd
    refine ⟨⟨xs, v, Evl.ex_t e h, h1⟩, fun x H'' y => ?_⟩
    obtain ⟨rfl, y⟩ := y
    have := y xs (Evl.ex_t e h)
    rw [h1] at this; cases this
    exact ⟨Evl.Ex.refl _, fun B2 e2 _ => h2.mono e2⟩
theorem itr_ok (lo : Int) (n : Nat) : ItOk K B (Itr lo n) ((List.range n).map fun (k : Nat) => D.int (lo + (k : Int))) := by
  refine fun i H' e => ⟨fun d hd => ?_, fun hl => by simpa [Itr] using hl⟩
  have hi : i < n := by
    have := (List.getElem?_eq_some_iff.mp hd).1
    simpa using this
  refine ⟨hi, fun x H'' y => ?_⟩
  obtain ⟨rfl, rfl⟩ := y
  refine ⟨Evl.Ex.refl _, fun B2 _ _ => ?_⟩
  rw [List.getElem?_map, List.getElem?_range hi] at hd
  cases hd
  exact .int _
/-- pairs of two lists (tuples) of the same length -/
def pairs (ds es : List D) : List D := (ds.zip es).map fun p => .tup [p.1, p.2]
theorem pairs_at {i : Nat} {d : D} (h : (pairs ds es)[i]? = some d) : ∃ x y, ds[i]? = some x ∧ es[i]? = some y ∧ d = .tup [x, y] := by
  unfold pairs at h
  rw [List.getElem?_map, Option.map_eq_some_iff] at h
  obtain ⟨⟨x, y⟩, h1, rfl⟩ := h
  rw [List.getElem?_zip_eq_some] at h1
  exact ⟨x, y, h1.1, h1.2, rfl⟩
theorem pair_dt {H' B2 : Hp} {T : Addr} {x y : V} {dx dy : D} {B : Hp} (hx : Dt K B x dx) (hy : Dt K B y dy) (e : Ex B B2) (e2 : Ex (stb (upd H' T (.tup [x, y]))) B2) : Dt K B2 (.ref T) (.tup [dx, dy]) :=
  .tup (e2 _ _ (stb_tup upd_same)) (.cons (hx.mono e) (.cons (hy.mono e) .nil))
theorem itz_ok (h : Dt K B (.ref a) (.lst ds)) (h' : Dt K B (.ref b) (.lst es)) : ItOk K B (Itz K a b) (pairs ds es) := by
  cases h with
  | lst h t =>
    cases h' with
    | lst h' t' =>
      rename_i xs ys
      refine fun i H' e => ⟨fun d hd => ?_, fun hl => ⟨xs, ys, SqL.of (e _ _ h), SqL.of (e _ _ h'), ?_⟩⟩
      · obtain ⟨dx, dy, g1, g2, rfl⟩ := pairs_at hd
        obtain ⟨x, h1, h2⟩ := t.get g1
        obtain ⟨y, h3, h4⟩ := t'.get g2
        refine ⟨⟨xs, ys, x, y, SqL.of (e _ _ h), SqL.of (e _ _ h'), h1, h3⟩, fun z H'' q => ?_⟩
        obtain ⟨T, x', y', rfl, nT, rfl, f1, f2⟩ := q
        have q1 := f1 xs (SqL.of (e _ _ h)); rw [h1] at q1; cases q1
        have q2 := f2 ys (SqL.of (e _ _ h')); rw [h3] at q2; cases q2
        exact ⟨Evl.Ex.new nT, fun B2 e2 e3 => pair_dt h2 h4 e2 e3⟩
      · rw [t.len, t'.len]
        unfold pairs at hl
        rw [List.length_map, List.length_zip] at hl
        omega
theorem itzT_ok (h : TupD K B a ds) (h' : TupD K B b es) : ItOk K B (ItzT K a b) (pairs ds es) := by
  obtain ⟨xs, h, t⟩ := h
  · obtain ⟨ys, h', t'⟩ := h'
    · skip
      refine fun i H' e => ⟨fun d hd => ?_, fun hl => ⟨xs, ys, Evl.ex_t e h, Evl.ex_t e h', ?_⟩⟩
      · obtain ⟨dx, dy, g1, g2, rfl⟩ := pairs_at hd
        obtain ⟨x, h1, h2⟩ := t.get g1
        obtain ⟨y, h3, h4⟩ := t'.get g2
        refine ⟨⟨xs, ys, x, y, Evl.ex_t e h, Evl.ex_t e h', h1, h3⟩, fun z H'' q => ?_⟩
        obtain ⟨T, x', y', rfl, nT, rfl, f1, f2⟩ := q
        have q1 := f1 xs (Evl.ex_t e h); rw [h1] at q1; cases q1
        have q2 := f2 ys (Evl.ex_t e h'); rw [h3] at q2; cases q2
        exact ⟨Evl.Ex.new nT, fun B2 e2 e3 => pair_dt h2 h4 e2 e3⟩
      · rw [t.len, t'.len]
        unfold pairs at hl
        rw [List.length_map, List.length_zip] at hl
        omega
end
def R.fixed : R → Bool
  | .vw _ => false
  | _ => true
theorem wall_t {H : Hp} {fp : Nat → List Addr} : wallOf true H fp = hid H fp := if_pos rfl
theorem wall_f {H : Hp} {fp : Nat → List Addr} : wallOf false H fp = H := if_neg Bool.false_ne_true
theorem ROk.wall {K : PySem.W.Frag} {H H1 : Hp} {fp : Nat → List Addr} {v : V} {F : List Addr} {r : R} (ls : ∀ i a, a ∈ fp i → ∃ xs, H a = some (mo xs)) (e : Ex H H1) (o : ROk K H H1 fp v F r) :
    Dt K (wallOf r.fixed H1 fp) v r.data := by
  cases r with
  | sh x => show Dt K (wallOf true H1 fp) v x; rw [wall_t]; exact o.2
  | vw x => show Dt K (wallOf false H1 fp) v x; rw [wall_f]; exact o.2
  | tr s => show Dt K (wallOf true H1 fp) v s.data; rw [wall_t]; exact o.1.hid ls (ls_mono ls e) o.2
section
variable {X : Cx} {tg e e2 : Expr} {ma mb : ME} {ms : MA} {p pos : Pos}
/-- a list or a tuple -/
def mISeq (m : ME) : MI := fun ρ => match m ρ with
  | some r => match r.data with
    | .lst ds => some (r.fixed, ds)
    | .tup ds => some (r.fixed, ds)
    | .scr ns => some (r.fixed, ns.map .int)
    | _ => none
  | none => none
theorem PI.or {wi wi' : TI} (h : PI X tg e wi) (h' : PI X tg e wi') : PI X tg e (fun σ H R => wi σ H R ∨ wi' σ H R) := ⟨fun pins s σ H R I w => by
  rcases w with w | w
  · exact h.run pins s σ H R I w
  · exact h'.run pins s σ H R I w⟩
theorem xi_list (h : XE X e ma) (hd : ∀ ρ r, ma ρ = some r → ∀ ds, r.data ≠ .tup ds) : XI X tg e (mISeq ma) := by
  obtain ⟨t, p, s⟩ := h
  refine ⟨_, pi_list p, fun G H σ ρ fp fx items Q R hm q => ?_⟩
  unfold mISeq at hm
  split at hm
  · rename_i r e1
    refine s G H σ ρ fp r _ R e1 fun v F H1 x1 o1 => ?_
    have w := ROk.wall R.ls x1 o1
    split at hm
    · rename_i ds e2; cases hm; rw [e2] at w
      have w' := o1.data; rw [e2] at w'
      cases w' with
      | lst h t => exact ⟨_, rfl, ⟨_, SqL.of h⟩, q _ H1 x1 (itl_ok w)⟩
    · rename_i ds e2; exact (hd ρ r e1 ds e2).elim
    · rename_i ns e2; cases hm; rw [e2] at w
      have w' := o1.data; rw [e2] at w'
      cases w' with
      | scr h t =>
        cases w with
        | scr h2 _ => exact ⟨_, rfl, ⟨_, h⟩, q _ H1 x1 (itl_scr h2)⟩
    · cases hm
  · cases hm
/-- a list alone (other kinds: none) -/
def sgn (x : Str) : List D := x.cps.toList.map fun c => .str ⟨#[c]⟩
theorem its_ok {K : PySem.W.Frag} {B : Hp} (x : Str) : ItOk K B (Its x) (sgn x) := by
  have hz : x.cps.toList.length = x.cps.size := Array.length_toList
  refine fun i H' e => ⟨fun d hd => ?_, fun hl => ?_⟩
  · unfold sgn at hd
    rw [List.getElem?_map, Option.map_eq_some_iff] at hd
    obtain ⟨c, hc, rfl⟩ := hd
    have hi : i < x.cps.size := by
      have := (List.getElem?_eq_some_iff.mp hc).1
      omega
    refine ⟨hi, fun v H'' y => ?_⟩
    obtain ⟨rfl, c', hc', rfl⟩ := y
    rw [Array.getElem?_toList] at hc
    rw [hc] at hc'; cases hc'
    exact ⟨Evl.Ex.refl _, fun B2 e2 _ => .str _⟩
  · show x.cps.size ≤ i
    unfold sgn at hl
    rw [List.length_map] at hl; omega
def mIL (m : ME) : MI := fun ρ => match m ρ with
  | some r => match r.data with
    | .lst ds => some (r.fixed, ds)
    | .scr ns => some (r.fixed, ns.map .int)
    | .str x => some (true, sgn x)
    | _ => none
  | none => none
theorem xi_l (h : XE X e ma) : XI X tg e (mIL ma) := by
  obtain ⟨t, p, s⟩ := h
  refine ⟨_, DL.PI.or (pi_list p) (pi_str p), fun G H σ ρ fp fx items Q R hm q => ?_⟩
  unfold mIL at hm
  split at hm
  · rename_i r e1
    split at hm
    · rename_i ds e2; cases hm
      refine .inl (s G H σ ρ fp r _ R e1 fun v F H1 x1 o1 => ?_)
      have w := ROk.wall R.ls x1 o1
      rw [e2] at w
      have w' := o1.data; rw [e2] at w'
      cases w' with
      | lst h t => exact ⟨_, rfl, ⟨_, SqL.of h⟩, q _ H1 x1 (itl_ok w)⟩
    · rename_i ns e2; cases hm
      refine .inl (s G H σ ρ fp r _ R e1 fun v F H1 x1 o1 => ?_)
      have w := ROk.wall R.ls x1 o1
      rw [e2] at w
      have w' := o1.data; rw [e2] at w'
      cases w' with
      | scr h t =>
        cases w with
        | scr h2 _ => exact ⟨_, rfl, ⟨_, h⟩, q _ H1 x1 (itl_scr h2)⟩
    · rename_i x e2; cases hm
      refine .inr (s G H σ ρ fp r _ R e1 fun v F H1 x1 o1 => ?_)
      have w' := o1.data; rw [e2] at w'
      cases w'
      exact ⟨x, rfl, q _ H1 x1 (its_ok x)⟩
    · cases hm
  · cases hm
def mIT (m : ME) : MI := fun ρ => match m ρ with
  | some r => match r.data with
    | .tup ds => some (r.fixed, ds)
    | _ => none
  | none => none
theorem xi_t (h : XE X e ma) : XI X tg e (mIT ma) := by
  obtain ⟨t, p, s⟩ := h
  refine ⟨_, pi_tup p, fun G H σ ρ fp fx items Q R hm q => ?_⟩
  unfold mIT at hm
  split at hm
  · rename_i r e1
    refine s G H σ ρ fp r _ R e1 fun v F H1 x1 o1 => ?_
    have w := ROk.wall R.ls x1 o1
    split at hm
    · rename_i ds e2; cases hm; rw [e2] at w
      have w' := o1.data; rw [e2] at w'
      cases w' with
      | tup h t => exact ⟨_, rfl, ⟨_, .inl (.inl h)⟩, q _ H1 x1 (itt_ok (tupD w))⟩
    · cases hm
  · cases hm
/-- range -/
def rg (lo : Int) (n : Nat) : List D := (List.range n).map fun (k : Nat) => D.int (lo + (k : Int))
def mRg1 (ms : MA) : MI := fun ρ => match ms ρ with
  | some rs => match rs.map R.data with
    | [.int j] => if -1000000 ≤ j ∧ j ≤ 1000000 then some (true, rg 0 j.toNat) else none
    | _ => none
  | none => none
def mRg2 (ms : MA) : MI := fun ρ => match ms ρ with
  | some rs => match rs.map R.data with
    | [.int i, .int j] => if (-1000000 ≤ i ∧ i ≤ 1000000) ∧ -1000000 ≤ j ∧ j ≤ 1000000 then some (true, rg i (j - i).toNat) else none
    | _ => none
  | none => none
theorem itr_wall {K : PySem.W.Frag} {s : Bool} {H : Hp} {fp : Nat → List Addr} (lo : Int) (n : Nat) : ItOk K (wallOf s H fp) (Itr lo n) (rg lo n) := itr_ok lo n
theorem xi_rg1 (hg : Gl X "range") (hm : X.mg "range" = none) (ha : XA X [e] ms) (hs : starEach [e] X.env = [(false, eval e X.env)] := by rfl) : XI X tg (.Call (.Name "range" p) [e] [] pos) (mRg1 ms) := by
  obtain ⟨t, pa, s⟩ := ha
  refine ⟨_, pi_range1 hg hm pa hs, fun G H σ ρ fp fx items Q R hm q => ?_⟩
  unfold mRg1 at hm
  split at hm
  · rename_i rs e1
    refine s G H σ ρ fp rs _ R e1 fun vs F H1 x1 o1 => ?_
    have d := o1.data
    split at hm
    · rename_i j e2; rw [e2] at d
      split at hm
      · rename_i hj; cases hm
        cases d with
        | cons h t => cases t; cases dt_int h; exact ⟨j, rfl, by omega, by omega, q _ H1 x1 (itr_wall 0 j.toNat)⟩
      · cases hm
    · cases hm
  · cases hm
theorem xi_rg2 (hg : Gl X "range") (hm : X.mg "range" = none) (ha : XA X [e, e2] ms) (hs : starEach [e, e2] X.env = [(false, eval e X.env), (false, eval e2 X.env)] := by rfl) (hs2 : starEach [e2] X.env = [(false, eval e2 X.env)] := by rfl) : XI X tg (.Call (.Name "range" p) [e, e2] [] pos) (mRg2 ms) := by
  obtain ⟨t, pa, s⟩ := ha
  refine ⟨_, pi_range2 hg hm pa hs hs2, fun G H σ ρ fp fx items Q R hm q => ?_⟩
  unfold mRg2 at hm
  split at hm
  · rename_i rs e1
    refine s G H σ ρ fp rs _ R e1 fun vs F H1 x1 o1 => ?_
    have d := o1.data
    split at hm
    · rename_i i j e2; rw [e2] at d
      split at hm
      · rename_i hj; cases hm
        cases d with
        | cons h t =>
          cases t with
          | cons h2 t =>
            cases t; cases dt_int h; cases dt_int h2
            exact ⟨i, j, rfl, by omega, q _ H1 x1 (itr_wall i (j - i).toNat)⟩
      · cases hm
    · cases hm
  · cases hm
/-- zip of two lists, of two tuples -/
def mZip (ms : MA) : MI := fun ρ => match ms ρ with
  | some rs => match rs.map R.data with
    | [.lst ds, .lst es] => some (rs.all R.fixed, pairs ds es)
    | [.tup ds, .tup es] => some (rs.all R.fixed, pairs ds es)
    | [.tup ds, .ktp ns] => some (rs.all R.fixed, pairs ds (ns.map .int))
    | _ => none
  | none => none
theorem AOk.wall {K : PySem.W.Frag} {H H1 : Hp} {fp : Nat → List Addr} (ls : ∀ i a, a ∈ fp i → ∃ xs, H a = some (mo xs)) (e : Ex H H1) : ∀ {rs : List R} {vs : List V} {F : List Addr}, AOk K H H1 fp rs vs F → DtL K (wallOf (rs.all R.fixed) H1 fp) vs (rs.map R.data)
  | _, _, _, .nil => .nil
  | _, _, _, .cons (r := r) (rs := rs) h t _ => by
    have h1 := ROk.wall ls e h
    have h2 := AOk.wall ls e t
    have d1 := h.data
    have d2 := t.data
    show DtL K (wallOf (r.fixed && rs.all R.fixed) H1 fp) _ _
    cases hf : r.fixed
    · rw [Bool.false_and, wall_f]; exact .cons d1 d2
    · cases hs : rs.all R.fixed
      · rw [Bool.and_false, wall_f]; exact .cons d1 d2
      · rw [hs] at h2
        rw [hf] at h1
        exact .cons h1 h2
theorem xi_zip {tpos : Pos} {elts : List Expr} {kk : Nat} (hg : Gl X "zip") (hm : X.mg "zip" = none) (ha : XA X [e, e2] ms)
    (hs : starEach [e, e2] X.env = (false, eval e X.env) :: starEach [e2] X.env := by rfl) (hpl : (backTo pos (starEach [e2] X.env)).any (·.1) = false := by rfl) : XI X (.Tuple elts kk tpos) (.Call (.Name "zip" p) [e, e2] [] pos) (mZip ms) := by
  obtain ⟨t, pa, s⟩ := ha
  refine ⟨_, pi_zipA hg hm pa hs hpl, fun G H σ ρ fp fx items Q R hm q => ?_⟩
  unfold mZip at hm
  split at hm
  · rename_i rs e1
    refine s G H σ ρ fp rs _ R e1 fun vs F H1 x1 o1 => ?_
    have d := o1.data
    have w := o1.wall R.ls x1
    split at hm
    · rename_i ds es e2; cases hm; rw [e2] at d w
      cases d with
      | cons h t => cases t with
        | cons h2 t =>
          cases t
          cases w with
          | cons w1 t => cases t with
            | cons w2 t =>
              cases t
              cases h with
              | lst h0 _ => cases h2 with
                | lst h0' _ => exact ⟨_, _, _, _, rfl, .inl ⟨SqL.of h0, SqL.of h0', q _ H1 x1 (itz_ok w1 w2)⟩⟩
    · rename_i ds es e2; cases hm; rw [e2] at d w
      cases d with
      | cons h t => cases t with
        | cons h2 t =>
          cases t
          cases w with
          | cons w1 t => cases t with
            | cons w2 t =>
              cases t
              cases h with
              | tup h0 _ => cases h2 with
                | tup h0' _ => exact ⟨_, _, _, _, rfl, .inr ⟨.inl (.inl h0), .inl (.inl h0'), q _ H1 x1 (itzT_ok (tupD w1) (tupD w2))⟩⟩
    · rename_i ds es e2; cases hm; rw [e2] at d w
      cases d with
      | cons h t => cases t with
        | cons h2 t =>
          cases t
          cases w with
          | cons w1 t => cases t with
            | cons w2 t =>
              cases t
              cases h with
              | tup h0 _ => cases h2 with
                | ktp h0' => exact ⟨_, _, _, _, rfl, .inr ⟨.inl (.inl h0), h0', q _ H1 x1 (itzT_ok (tupD w1) (tupK w2))⟩⟩
    · cases hm
  · cases hm
end

/-! ### targets: a name, a tuple of names -/
/-- how an item's data is kept: as it stands where the source is fixed -/
def itR (s : Bool) (d : D) : R := if s = true then .sh d else .vw d
theorem itR_ok {K : PySem.W.Frag} {H : Hp} {fp : Nat → List Addr} {s : Bool} {d : D} {v : V} (h : Dt K (wallOf s H fp) v d) : ROk K H H fp v [] (itR s d) := by
  cases s with
  | true => rw [wall_t] at h; exact ⟨rfl, h⟩
  | false => rw [wall_f] at h; exact ⟨rfl, h⟩
def setS (σ : L2.St) : List Nat → List V → L2.St
  | j :: js, v :: vs => setS (σ.set j (some v)) js vs
  | _, _ => σ
def setE (s : Bool) (ρ : Env) : List Nat → List D → Env
  | j :: js, d :: ds => setE s (ρ.set j (itR s d).slot) js ds
  | _, _ => ρ
theorem wall_sub {s : Bool} {H : Hp} {fp fp' : Nat → List Addr} (h : ∀ i a, a ∈ fp' i → a ∈ fp i) : Ex (wallOf s H fp) (wallOf s H fp') := by
  cases s with
  | true => rw [wall_t, wall_t]; exact hid_sub h
  | false => rw [wall_f, wall_f]; exact Evl.Ex.refl H
theorem RelF.setItem {K : PySem.W.Frag} {G H : Hp} {σ : L2.St} {ρ : Env} {fp : Nat → List Addr} {v : V} {d : D} {s : Bool} {i : Nat} (R : RelF K G H σ ρ fp) (h : Dt K (wallOf s H fp) v d) :
    RelF K G H (σ.set i (some v)) (ρ.set i (itR s d).slot) (fset fp i []) ∧ ∀ j a, a ∈ fset fp i [] j → a ∈ fp j := by
  refine ⟨R.set (Evl.Ex.refl H) (itR_ok h), fun j a m => ?_⟩
  by_cases hj : j = i
  · subst hj; rw [fset_self] at m; cases m
  · rw [fset_ne hj] at m; exact m
theorem RelF.setItems {K : PySem.W.Frag} {G H : Hp} {s : Bool} : ∀ {js : List Nat} {vs : List V} {ds : List D} {σ : L2.St} {ρ : Env} {fp : Nat → List Addr}, RelF K G H σ ρ fp → DtL K (wallOf s H fp) vs ds → ∃ fp', RelF K G H (setS σ js vs) (setE s ρ js ds) fp' ∧ (∀ j a, a ∈ fp' j → a ∈ fp j) ∧ ∀ j, j ∉ js → fp' j = fp j
  | [], _, _, σ, ρ, fp, R, h => by
    have e1 : setS σ [] ‹List V› = σ := by unfold setS; rfl
    have e2 : setE s ρ [] ‹List D› = ρ := by unfold setE; rfl
    rw [e1, e2]; exact ⟨fp, R, fun _ _ m => m, fun _ _ => rfl⟩
  | j :: js, _, _, σ, ρ, fp, R, .nil => ⟨fp, R, fun _ _ m => m, fun _ _ => rfl⟩
  | j :: js, _, _, σ, ρ, fp, R, .cons h t => by
    obtain ⟨R1, s1⟩ := R.setItem (i := j) h
    obtain ⟨fp', R2, s2, s3⟩ := R1.setItems (js := js) (t.mono (wall_sub s1))
    exact ⟨fp', R2, fun k a m => s1 k a (s2 k a m), fun k hk => (s3 k fun z => hk (by simp [z])).trans (fset_ne fun e => hk (by simp [e]))⟩
abbrev MG := Bool → D → Env → Option Env
/-- the target's names stand in own -/
def SimG (K : PySem.W.Frag) (own : List Nat) (g : TG) (mg : MG) : Prop := ∀ G H σ ρ fp s d v ρ' (Q : L2.St → Hp → Prop), RelF K G H σ ρ fp → Dt K (wallOf s H fp) v d → mg s d ρ = some ρ' → (∀ vs fp', RelF K G H (setS σ own vs) ρ' fp' → (∀ j, j ∉ own → fp' j = fp j) → Q (setS σ own vs) H) → g v σ H Q
structure XG (X : Cx) (tg : Expr) (own : List Nat) (mg : MG) : Prop where
  sim : ∃ g, PG X tg g ∧ SimG X.K own g mg
def mgName (i : Nat) : MG := fun s d ρ => some (ρ.set i (itR s d).slot)
theorem sim_gname {K : PySem.W.Frag} (i : Nat) : SimG K [i] (gName i) (mgName i) := by
  intro G H σ ρ fp s d v ρ' Q R h hm q
  cases hm
  exact q [v] _ (R.setItem h).1 fun j hj => fset_ne fun e => hj (by simp [e])
theorem xg_name {X : Cx} {i : Nat} {x : Str} {pos : Pos} (hN : X.N.Nodup) (hi : X.N[i]? = some x) (hx : Loc X.env.scope x) (hf : X.fn x = true ∨ X.env.scope.names.lookup x = some .local := by first | exact .inl rfl | exact .inr rfl | assumption) : XG X (.Name x pos) [i] (mgName i) := ⟨_, pg_name hN hi hx hf, sim_gname i⟩
def gNames : List Nat → TGs
  | [] => gNil
  | j :: js => gCons (gName j) (gNames js)
theorem gNames_of : ∀ {js : List Nat} {vs : List V} {σ : L2.St} {H : Hp} {Q : L2.St → Hp → Prop}, vs.length = js.length → Q (setS σ js vs) H → gNames js vs σ H Q
  | [], [], _, _, _, _, q => ⟨rfl, q⟩
  | j :: js, v :: vs, _, _, _, hl, q => ⟨v, vs, rfl, gNames_of (by simpa using hl) q⟩
  | [], _ :: _, _, _, _, hl, _ => by simp at hl
  | _ :: _, [], _, _, _, hl, _ => by simp at hl
structure XNs (X : Cx) (es : List Expr) (js : List Nat) : Prop where
  p : PGs X es (gNames js)
theorem xns_nil {X : Cx} : XNs X [] [] := ⟨pgs_nil⟩
theorem xns_cons {X : Cx} {i : Nat} {x : Str} {pos : Pos} {es : List Expr} {js : List Nat} (hN : X.N.Nodup) (hi : X.N[i]? = some x) (hx : Loc X.env.scope x) (h : XNs X es js) (hf : X.fn x = true ∨ X.env.scope.names.lookup x = some .local := by first | exact .inl rfl | exact .inr rfl | assumption)
    (hs : (assignEach (.Name x pos :: es) X.env).map (·.2) = assign (.Name x pos) X.env :: (assignEach es X.env).map (·.2) := by rfl) : XNs X (.Name x pos :: es) (i :: js) := ⟨pgs_cons (pg_name hN hi hx hf) h.p hs⟩
def mgTup (js : List Nat) : MG := fun s d ρ => match d with
  | .tup ds => if ds.length = js.length then some (setE s ρ js ds) else none
  | _ => none
theorem xg_tup {X : Cx} {es : List Expr} {js : List Nat} {k : Nat} {pos : Pos} (hc : X.calm = true) (h : XNs X es js)
    (hn : (assignEach es X.env).length = js.length := by rfl) (hst : (assignEach es X.env).findIdx? (·.1) = none := by rfl) : XG X (.Tuple es k pos) js (mgTup js) := by
  refine ⟨_, pg_tup (n := js.length) hc h.p hn hst, fun G H σ ρ fp s d v ρ' Q R h hm q => ?_⟩
  unfold mgTup at hm
  split at hm
  · rename_i ds
    split at hm
    · rename_i hl; cases hm
      have ex : Ex (wallOf s H fp) H := by
        cases s with
        | true => rw [wall_t]; exact hid_ex
        | false => rw [wall_f]; exact Evl.Ex.refl H
      cases h with
      | tup h t =>
        rename_i a xs
        refine ⟨a, xs, rfl, .inl (.inl (ex _ _ h)), t.len.trans hl, gNames_of (t.len.trans hl) ?_⟩
        obtain ⟨fp', R', _, e3⟩ := R.setItems (js := js) t
        exact q xs fp' R' e3
    · cases hm
  · cases hm

/-! ### comprehensions -/
theorem wipe_in {σ : L2.St} {i : Nat} : ∀ {vs : List Nat}, i ∈ vs → (L2.wipe σ vs)[i]? = if i < σ.length then some none else none
  | [], h => by cases h
  | w :: ws, h => by
    show ((L2.wipe σ ws).set w none)[i]? = _
    by_cases hw : w = i
    · subst hw
      by_cases hl : w < σ.length
      · rw [if_pos hl, List.getElem?_set_self (by rw [wipe_length]; exact hl)]
      · rw [if_neg hl, List.getElem?_eq_none (by rw [List.length_set, wipe_length]; omega)]
    · rw [List.getElem?_set_ne hw]
      rcases List.mem_cons.mp h with h | h
      · exact (hw h.symm).elim
      · exact wipe_in h
theorem setS_out {j : Nat} : ∀ {js : List Nat} {vs : List V} {σ : L2.St}, j ∉ js → (setS σ js vs)[j]? = σ[j]?
  | [], _, _, _ => by unfold setS; rfl
  | _ :: _, [], _, _ => rfl
  | k :: js, v :: vs, σ, h => by
    have h1 : j ≠ k := fun e => h (by simp [e])
    have h2 : j ∉ js := fun e => h (by simp [e])
    show (setS (σ.set k (some v)) js vs)[j]? = _
    rw [setS_out h2, List.getElem?_set_ne (Ne.symm h1)]
theorem setS_len : ∀ {js : List Nat} {vs : List V} {σ : L2.St}, (setS σ js vs).length = σ.length
  | [], _, _ => by unfold setS; rfl
  | _ :: _, [], _ => rfl
  | k :: js, v :: vs, σ => by
    show (setS (σ.set k (some v)) js vs).length = _
    rw [setS_len, List.length_set]
theorem wipe_setS {σ : L2.St} {js ws : List Nat} {vs : List V} (h : ∀ j ∈ js, j ∈ ws) : L2.wipe (setS (L2.wipe σ ws) js vs) ws = L2.wipe σ ws := by
  apply List.ext_getElem?
  intro i
  by_cases hi : i ∈ ws
  · rw [wipe_in hi, wipe_in hi, setS_len, wipe_length]
  · rw [wipe_out hi, setS_out (fun z => hi (h i z)), wipe_out hi]
def gather {α β : Type} (f : α → Option (List β)) : List α → Option (List β)
  | [] => some []
  | x :: xs => match f x, gather f xs with
    | some a, some b => some (a ++ b)
    | _, _ => none
theorem gather_cons {α β : Type} {f : α → Option (List β)} {x : α} {xs : List α} {rs : List β} (h : gather f (x :: xs) = some rs) : ∃ a b, f x = some a ∧ gather f xs = some b ∧ rs = a ++ b := by
  unfold gather at h
  split at h
  · rename_i a b e1 e2; cases h; exact ⟨a, b, e1, e2, rfl⟩
  · cases h
def nrm : R → R
  | .vw x => if imm x = true then .sh x else .vw x
  | r => r
def noVw : R → Bool
  | .vw _ => false
  | _ => true
/-- one turn: nothing, or one result -/
def lcTurn (s : Bool) (g : MG) (mt : MT) (me : ME) (ρ : Env) : D → Option (List R) := fun d => match g s d ρ with
  | some ρ' => match mt ρ' with
    | some true => (me ρ').map fun r => [nrm r]
    | some false => some []
    | none => none
  | none => none
def isSh : R → Bool
  | .sh _ => true
  | _ => false
/-- a list of results as one new list: of trees, or of what stays -/
def lcRes (rs : List R) : Option R := if rs.all noVw = true then (match trees rs with
  | some ss => some (.tr (.own ss))
  | none => if rs.all isSh = true then some (.sh (.lst (rs.map R.data))) else none) else none
def isDead : Option Sl → Bool
  | some .dead => true
  | _ => false
def mLc (mi : MI) (g : MG) (mt : MT) (me : ME) (vs : List Nat) : ME := fun ρ => match mi ρ with
  | some (s, items) => if items.length ≤ 100000 ∧ vs.all (fun i => isDead ρ[i]?) = true then (match gather (lcTurn s g mt me ρ) items with
    | some rs => lcRes rs
    | none => none) else none
  | none => none
def mYes : MT := fun _ => some true
structure XTs (X : Cx) (ifs : List Expr) (m : MT) : Prop where
  sim : ∃ t, PTs X ifs t ∧ SimT X.K t m
theorem xts_nil {X : Cx} : XTs X [] mYes := ⟨_, pts_nil, fun G H σ ρ fp b Q R hm q => by cases hm; exact q H (Evl.Ex.refl H)⟩
theorem xts_one {X : Cx} {c : Expr} {t : MT} (h : XT X c t) : XTs X [c] t := let ⟨_, p, s⟩ := h.sim; ⟨_, pts_one p, s⟩
theorem isDead_of {o : Option Sl} (h : isDead o = true) : o = some .dead := by
  cases o with
  | none => cases h
  | some s => cases s <;> first | rfl | cases h
theorem RelF.wipeD {K : PySem.W.Frag} {G H : Hp} {σ : L2.St} {ρ : Env} {fp : Nat → List Addr} {vs : List Nat} (R : RelF K G H σ ρ fp) (h : ∀ i ∈ vs, ρ[i]? = some .dead) : RelF K G H (L2.wipe σ vs) ρ fp where
  len := by rw [wipe_length]; exact R.len
  ex := R.ex
  dj := R.dj
  new := R.new
  ls := R.ls
  sl := fun i s e => by
    by_cases hi : i ∈ vs
    · have z := h i hi
      rw [e] at z; cases z
      exact R.sl i _ e
    · rw [wipe_out hi]; exact R.sl i s e
theorem AOk.append {K : PySem.W.Frag} {H H1 : Hp} {fp : Nat → List Addr} : ∀ {rs ts : List R} {vs ws : List V} {F G : List Addr}, AOk K H H1 fp rs vs F → AOk K H H1 fp ts ws G → (∀ a, a ∈ F → a ∉ G) → AOk K H H1 fp (rs ++ ts) (vs ++ ws) (F ++ G)
  | _, _, _, _, _, _, .nil, h, _ => h
  | _, _, _, _, _, G, .cons (F1 := F1) (F2 := F2) h t n, h2, dj => by
    have e : F1 ++ F2 ++ G = F1 ++ (F2 ++ G) := List.append_assoc _ _ _
    rw [e]
    refine .cons h (AOk.append t h2 fun a m => dj a (List.mem_append_right _ m)) fun a m z => ?_
    rcases List.mem_append.mp z with z | z
    · exact n a m z
    · exact dj a (List.mem_append_left _ m) z
theorem stb_upd {H : Hp} {D : Addr} {xs ys : List V} (h : H D = some (.lst xs)) : Ex (stb H) (stb (upd H D (.lst ys))) := fun a o e => by
  have n : a ≠ D := fun z => by
    subst z
    unfold stb at e; rw [h] at e; cases e
  unfold stb at e ⊢
  rw [upd_ne n]; exact e
theorem ROk.updD {K : PySem.W.Frag} {H0 H : Hp} {fp : Nat → List Addr} {v : V} {F : List Addr} {r : R} {D : Addr} {xs ys : List V} {n : Nat} (hn : D ∈ fp n) (h : H D = some (.lst xs)) (o : ROk K H0 H fp v F r) (nv : noVw r = true) (f : D ∉ F) : ROk K H0 (upd H D (.lst ys)) fp v F r := by
  cases r with
  | vw x => cases nv
  | sh x =>
    refine ⟨o.1, o.2.mono fun a u e => ?_⟩
    obtain ⟨n1, e⟩ := hid_some e
    rw [hid_at n1, upd_ne (by rintro rfl; exact n1 n hn)]; exact e
  | tr s => exact ⟨o.1.keep ⟨stb_upd h, fun a m u e => by rw [upd_ne (by rintro rfl; exact f m)]; exact e⟩, o.2⟩
theorem AOk.updD {K : PySem.W.Frag} {H0 H : Hp} {fp : Nat → List Addr} {D : Addr} {xs ys : List V} {n : Nat} (hn : D ∈ fp n) (h : H D = some (.lst xs)) : ∀ {rs : List R} {vs : List V} {F : List Addr}, AOk K H0 H fp rs vs F → rs.all noVw = true → D ∉ F → AOk K H0 (upd H D (.lst ys)) fp rs vs F
  | _, _, _, .nil, _, _ => .nil
  | _, _, _, .cons o t d, nv, f => by
    rw [List.all_cons, Bool.and_eq_true] at nv
    exact .cons (o.updD hn h nv.1 fun m => f (List.mem_append_left _ m)) (t.updD hn h nv.2 fun m => f (List.mem_append_right _ m)) d
theorem ROk.nrm {K : PySem.W.Frag} {H0 H : Hp} {fp : Nat → List Addr} {v : V} {F : List Addr} {r : R} (ls : ∀ i a, a ∈ fp i → ∃ xs, H a = some (mo xs)) (o : ROk K H0 H fp v F r) : ROk K H0 H fp v F (nrm r) := by
  cases r with
  | sh x => exact o
  | tr s => exact o
  | vw x =>
    show ROk K H0 H fp v F (if imm x = true then .sh x else .vw x)
    by_cases i : imm x = true
    · rw [if_pos i]; exact ⟨o.1, imm_hid ls o.2 i⟩
    · rw [if_neg i]; exact o
theorem big_ix (n : Nat) (own : List Nat) : ∃ k, n ≤ k ∧ k ∉ own := by
  refine ⟨n + own.sum + 1, by omega, fun m => ?_⟩
  have : ∀ l : List Nat, n + own.sum + 1 ∈ l → n + own.sum + 1 ≤ l.sum := by
    intro l
    induction l with
    | nil => intro h; cases h
    | cons x xs ih =>
      intro h
      rw [List.sum_cons]
      rcases List.mem_cons.mp h with h | h
      · omega
      · have := ih h; omega
  have := this own m
  omega
theorem gather_take {α β : Type} {f : α → Option (List β)} {xs : List α} {rs : List β} (h : gather f xs = some rs) : ∀ i, ∃ a, gather f (xs.take i) = some a ∧ (∃ b, rs = a ++ b) ∧ ∀ x, xs[i]? = some x → ∃ c, f x = some c ∧ gather f (xs.take (i + 1)) = some (a ++ c) := by
  induction xs generalizing rs with
  | nil => intro i; exact ⟨[], by simp [gather], ⟨rs, rfl⟩, fun x hx => by simp at hx⟩
  | cons y ys ih =>
    obtain ⟨a, b, h1, h2, rfl⟩ := gather_cons h
    intro i
    cases i with
    | zero =>
      refine ⟨[], rfl, ⟨a ++ b, rfl⟩, fun x hx => ?_⟩
      have hx : y = x := by simpa using hx
      subst hx
      exact ⟨a, h1, by simp [gather, h1]⟩
    | succ i =>
      obtain ⟨c, h3, ⟨d, hd⟩, h4⟩ := ih h2 i
      refine ⟨a ++ c, by simp [gather, h1, h3], ⟨d, by rw [hd, List.append_assoc]⟩, fun x hx => ?_⟩
      obtain ⟨e, h5, h6⟩ := h4 x (by simpa using hx)
      exact ⟨e, h5, by rw [List.take_succ_cons]; simp [gather, h1, h6]⟩
theorem gather_len {α β : Type} {f : α → Option (List β)} (hf : ∀ x a, f x = some a → a.length ≤ 1) : ∀ {xs : List α} {rs : List β}, gather f xs = some rs → rs.length ≤ xs.length
  | [], _, h => by cases h; exact Nat.le_refl _
  | x :: xs, _, h => by
    obtain ⟨a, b, h1, h2, rfl⟩ := gather_cons h
    have := hf x a h1
    have := gather_len hf h2
    rw [List.length_append, List.length_cons]
    omega
theorem lcTurn_len {s : Bool} {g : MG} {mt : MT} {me : ME} {ρ : Env} : ∀ d a, lcTurn s g mt me ρ d = some a → a.length ≤ 1 := by
  intro d a h
  unfold lcTurn at h
  split at h
  · split at h
    · rw [Option.map_eq_some_iff] at h
      obtain ⟨r, _, rfl⟩ := h
      simp
    · cases h; simp
    · cases h
  · cases h
theorem AOk.allSh {K : PySem.W.Frag} {H H1 B : Hp} {fp : Nat → List Addr} : ∀ {rs : List R} {vs : List V} {F : List Addr}, AOk K H H1 fp rs vs F → rs.all isSh = true → Ex (hid H1 fp) B → DtL K B vs (rs.map R.data)
  | _, _, _, .nil, _, _ => .nil
  | .sh x :: rs, _, _, .cons h t _, hs, e => .cons (h.2.mono e) (t.allSh (by simpa [isSh] using hs) e)
  | .vw x :: rs, _, _, .cons h t _, hs, e => by simp [isSh] at hs
  | .tr x :: rs, _, _, .cons h t _, hs, e => by simp [isSh] at hs
theorem sim_lc {K : PySem.W.Frag} {wi : TI} {mi : MI} {g : TG} {mg : MG} {tt : TT} {mt : MT} {te : TE} {me : ME} {own vs : List Nat} (hi : SimI K wi mi) (hg : SimG K own g mg) (ht : SimT K tt mt) (he : SimE K te me) (ho : ∀ j ∈ own, j ∈ vs) : SimE K (tLc wi g tt te vs) (mLc mi mg mt me vs) := by
  intro G H σ ρ fp r Q R hm q
  unfold mLc at hm
  split at hm
  rotate_left
  · cases hm
  rename_i s items e1
  split at hm
  rotate_left
  · cases hm
  rename_i hl
  obtain ⟨hlen, hdead⟩ := hl
  split at hm
  rotate_left
  · cases hm
  rename_i rs0 e2
  have hdead : ∀ i ∈ vs, ρ[i]? = some .dead := fun i m => isDead_of (List.all_eq_true.mp hdead i m)
  have nv0 : rs0.all noVw = true := by
    unfold lcRes at hm
    split at hm
    · rename_i h; exact h
    · cases hm
  refine hi G H σ ρ fp s items _ R e1 fun J H1 x1 it => fun D hD => ?_
  have R1 : RelF K G H1 (L2.wipe σ vs) ρ fp := (R.grow x1).wipeD hdead
  obtain ⟨n, hn1, hn2⟩ := big_ix ρ.length own
  have hDf : ∀ i, D ∉ fp i := not_fp R1.ls hD
  have fpD : ∀ i a, a ∈ fp i → a ∈ fset fp n [D] i ∨ i = n := fun i a m => by
    by_cases hj : i = n
    · exact .inr hj
    · rw [fset_ne hj]; exact .inl m
  -- slots beyond the environment hold nothing of their own
  let fp0 : Nat → List Addr := fun i => if i < ρ.length then fp i else []
  have hfp0 : ∀ i a, a ∈ fp0 i → a ∈ fp i := fun i a m => by
    by_cases h : i < ρ.length
    · simpa [fp0, h] using m
    · simp [fp0, h] at m
  have Dn : D ∈ fset fp n (D :: fp n) n := by rw [fset_self]; simp
  have RD : ∀ H', Ex H1 H' → (∃ acc, H' D = some (.lst acc)) → RelF K G H' (L2.wipe σ vs) ρ (fset fp n (D :: fp n)) := fun H' ex hacc => by
    have hx : Ex (hid H1 fp) (hid H' (fset fp n (D :: fp n))) := fun a o e => by
      obtain ⟨n1, e⟩ := hid_some e
      rw [hid_at]
      · exact ex a o e
      · intro j m
        by_cases hj : j = n
        · subst hj; rw [fset_self] at m
          rcases List.mem_cons.mp m with m | m
          · subst m; rw [hD] at e; cases e
          · exact n1 j m
        · rw [fset_ne hj] at m; exact n1 j m
    refine ⟨R1.len, R1.ex.trans ex, fun i j a m1 m2 => ?_, fun i a m => ?_, fun i a m => ?_, fun i s h => ?_⟩
    · by_cases hi : i = n
      · by_cases hj : j = n
        · rw [hi, hj]
        · subst hi; rw [fset_self] at m1; rw [fset_ne hj] at m2
          rcases List.mem_cons.mp m1 with m1 | m1
          · subst m1; exact (hDf j m2).elim
          · exact R1.dj _ _ a m1 m2
      · rw [fset_ne hi] at m1
        by_cases hj : j = n
        · subst hj; rw [fset_self] at m2
          rcases List.mem_cons.mp m2 with m2 | m2
          · subst m2; exact (hDf i m1).elim
          · exact R1.dj _ _ a m1 m2
        · rw [fset_ne hj] at m2; exact R1.dj _ _ a m1 m2
    · by_cases hi : i = n
      · subst hi; rw [fset_self] at m
        rcases List.mem_cons.mp m with m | m
        · subst m; exact Evl.fresh_back R1.ex hD
        · exact R1.new i a m
      · rw [fset_ne hi] at m; exact R1.new i a m
    · by_cases hi : i = n
      · subst hi; rw [fset_self] at m
        rcases List.mem_cons.mp m with m | m
        · subst m; obtain ⟨acc, hacc⟩ := hacc; exact mo_l hacc
        · obtain ⟨xs, e⟩ := R1.ls i a m; exact ⟨xs, ex _ _ e⟩
      · rw [fset_ne hi] at m; obtain ⟨xs, e⟩ := R1.ls i a m; exact ⟨xs, ex _ _ e⟩
    · have hne : i ≠ n := by
        have := (List.getElem?_eq_some_iff.mp h).1
        omega
      rw [fset_ne hne]
      have q := R1.sl i s h
      cases s with
      | dead => exact q
      | ad a => exact q
      | dc m => obtain ⟨a, q1, q2, q3⟩ := q; exact ⟨a, q1, q2, ex _ _ q3⟩
      | sh x => obtain ⟨q0, v, q1, q2⟩ := q; exact ⟨q0, v, q1, q2.mono hx⟩
      | fz w x => obtain ⟨q0, q1, q2⟩ := q; exact ⟨q0, q1, q2.mono hx⟩
      | vw x => obtain ⟨q0, v, q1, q2⟩ := q; exact ⟨q0, v, q1, q2.mono ex⟩
      | tr s => obtain ⟨v, q1, q2⟩ := q; exact ⟨v, q1, q2.mono ex⟩
      | ow a s => exact ⟨q.1, q.2.mono ex⟩
  let Pv : Nat → Hp → Prop := fun i H' => ∃ acc rs F, gather (lcTurn s mg mt me ρ) (items.take i) = some rs ∧ H' D = some (.lst acc) ∧ Ex H1 H' ∧ AOk K H1 H' (fset fp n (D :: fp n)) rs acc F ∧ D ∉ F
  refine ⟨fun i m H' => m = items.length - i ∧ i ≤ items.length ∧ Pv i H', ⟨items.length, by simp, Nat.zero_le _, [], [], [], rfl, upd_same, Evl.Ex.new hD, .nil, fun m => by cases m⟩, ?_⟩
  rintro i m H' ⟨rfl, hile, acc, rs, F, hga, hacc, hex, hok, hDF⟩
  have hB : Ex (wallOf s H1 fp) H' := by
    cases s with
    | true => rw [wall_t]; exact hid_ex.trans hex
    | false => rw [wall_f]; exact hex
  obtain ⟨itgo, itstop⟩ := it i H' hB
  obtain ⟨ra, hra, ⟨rb, hrb⟩, hnext⟩ := gather_take e2 i
  rw [hga] at hra; cases hra
  by_cases hlt : i < items.length
  · right
    obtain ⟨d, hd⟩ : ∃ d, items[i]? = some d := ⟨items[i], by simp [hlt]⟩
    obtain ⟨c, hc, hnx⟩ := hnext d hd
    obtain ⟨hgo, hyld⟩ := itgo d hd
    refine ⟨hgo, fun H'' => Pv (i + 1) H'', fun H'' p => ⟨_, by omega, rfl, by omega, p⟩, fun x H2 hy => ?_⟩
    obtain ⟨x2, hdt⟩ := hyld x H2 hy
    have R2 : RelF K G H2 (L2.wipe σ vs) ρ (fset fp n (D :: fp n)) := (RD H' hex ⟨acc, hacc⟩).grow x2
    have hw : Dt K (wallOf s H2 (fset fp n (D :: fp n))) x d := by
      refine hdt _ ?_ ?_
      · cases s with
        | true =>
          rw [wall_t, wall_t]
          refine fun a o e => ?_
          obtain ⟨n1, e⟩ := hid_some e
          rw [hid_at]
          · exact x2 _ _ (hex _ _ e)
          · intro j m
            by_cases hj : j = n
            · subst hj; rw [fset_self] at m
              rcases List.mem_cons.mp m with m | m
              · subst m; rw [hD] at e; cases e
              · exact n1 j m
            · rw [fset_ne hj] at m; exact n1 j m
        | false => rw [wall_f, wall_f]; exact hex.trans x2
      · cases s with
        | true => rw [wall_t]; exact stb_hid R2.ls
        | false => rw [wall_f]; exact stb_ex
    unfold lcTurn at hc
    split at hc
    rotate_left
    · cases hc
    rename_i ρ2 e3
    refine hg G H2 (L2.wipe σ vs) ρ _ s d x ρ2 _ R2 hw e3 fun ws fp2 R3 hfp2 => ⟨wipe_setS ho, ?_⟩
    have hfpn : fp2 n = D :: fp n := (hfp2 n hn2).trans fset_self
    have hsub : ∀ i a, a ∈ fset fp n (D :: fp n) i → a ∈ fp2 i := fun i a m => by
      by_cases hi : i ∈ own
      · have hdd := hdead i (ho i hi)
        have hne : i ≠ n := fun z => hn2 (z ▸ hi)
        rw [fset_ne hne] at m
        have := R1.sl i _ hdd
        have : fp i = [] := this
        rw [this] at m; cases m
      · rw [hfp2 i hi]; exact m
    split at hc
    · rename_i e4
      rw [Option.map_eq_some_iff] at hc
      obtain ⟨rr, e5, rfl⟩ := hc
      refine ht G H2 _ ρ2 fp2 true _ R3 e4 fun H3 x3 => ?_
      rw [if_pos rfl]
      refine he G H3 _ ρ2 fp2 rr _ (R3.grow x3) e5 fun v F2 H4 x4 o4 => ?_
      have x5 : Ex H' H4 := (x2.trans x3).trans x4
      have hacc4 : H4 D = some (.lst acc) := x5 _ _ hacc
      have o5 : ROk K H1 H4 (fset fp n (D :: fp n)) v F2 (nrm rr) := by
        have o6 : ROk K H1 H4 fp2 v F2 (nrm rr) := ROk.back (ROk.nrm (ls_mono R3.ls (x3.trans x4)) o4) ((hex.trans x2).trans x3)
        cases hr : nrm rr with
        | sh x => rw [hr] at o6; exact ⟨o6.1, o6.2.mono (hid_sub hsub)⟩
        | vw x => rw [hr] at o6; exact o6
        | tr s => rw [hr] at o6; exact o6
      have hDF2 : D ∉ F2 := fun m => by
        have := o4.fresh D m
        rw [x3 _ _ (x2 _ _ hacc)] at this; cases this
      have hdj : ∀ a, a ∈ F → a ∉ F2 ++ [] := fun a m1 m2 => by
        obtain ⟨xs, z⟩ := hok.ls a m1
        have := o4.fresh a (by simpa using m2)
        rw [x3 _ _ (x2 _ _ z)] at this; cases this
      have nvall : (rs ++ [nrm rr]).all noVw = true := by
        obtain ⟨ra2, hra2, ⟨rb2, hrb2⟩, _⟩ := gather_take e2 (i + 1)
        rw [hnx] at hra2; cases hra2
        rw [hrb2, List.all_append, Bool.and_eq_true] at nv0
        exact nv0.1
      have o7 : AOk K H1 H4 (fset fp n (D :: fp n)) (rs ++ [nrm rr]) (acc ++ [v]) (F ++ (F2 ++ [])) := (hok.mono x5).append (.cons o5 .nil fun _ _ m => by cases m) hdj
      refine ⟨acc, hacc4, ?_, acc ++ [v], rs ++ [nrm rr], F ++ (F2 ++ []), hnx, upd_same, ?_, o7.updD Dn hacc4 nvall fun m => ?_, fun m => ?_⟩
      · have h1 := hok.len
        have h2 := gather_len lcTurn_len hga
        rw [List.length_take] at h2
        exact Evl.sz_lt (by omega)
      · exact fun a o e => by
          rw [upd_ne fun z => by subst z; rw [hD] at e; cases e]
          exact (hex.trans x5) a o e
      · rcases List.mem_append.mp m with m | m
        · exact hDF m
        · exact hDF2 (by simpa using m)
      · rcases List.mem_append.mp m with m | m
        · exact hDF m
        · exact hDF2 (by simpa using m)
    · rename_i e4
      cases hc
      refine ht G H2 _ ρ2 fp2 false _ R3 e4 fun H3 x3 => ?_
      rw [if_neg Bool.false_ne_true]
      rw [List.append_nil] at hnx
      exact ⟨acc, rs, F, hnx, x3 _ _ (x2 _ _ hacc), hex.trans (x2.trans x3), hok.mono (x2.trans x3), hDF⟩
    · cases hc
  · left
    have hie : i = items.length := by omega
    refine ⟨itstop (by omega), ?_⟩
    subst hie
    rw [List.take_length, e2] at hga
    cases hga
    unfold lcRes at hm
    rw [if_pos nv0] at hm
    split at hm
    · rename_i ss e6; cases hm
      refine q _ (D :: F) H' (x1.trans hex) ⟨.own hacc (hok.trees e6) hDF, fun a m => ?_⟩
      rcases List.mem_cons.mp m with e | m
      · subst e; exact Evl.fresh_back x1 hD
      · exact Evl.fresh_back x1 (hok.fresh a m)
    · split at hm
      · rename_i hsh; cases hm
        refine q _ [] H' (x1.trans hex) ⟨rfl, .lst ((hid_at hDf).trans hacc) ?_⟩
        exact hok.allSh hsh (hid_sub fun j a m => by
          by_cases hj : j = n
          · subst hj; rw [fset_self]; exact List.mem_cons_of_mem _ m
          · rw [fset_ne hj]; exact m)
      · cases hm
/-! one reading for all contexts -/
def canE (K : PySem.W.Frag) (m : ME) : TE := fun σ H Q => ∃ G ρ fp r, RelF K G H σ ρ fp ∧ m ρ = some r ∧ ∀ v F H', Ex H H' → ROk K H H' fp v F r → Q v H'
def canT (K : PySem.W.Frag) (m : MT) : TT := fun σ H Q => ∃ G ρ fp b, RelF K G H σ ρ fp ∧ m ρ = some b ∧ ∀ H', Ex H H' → Q b H'
def canG (K : PySem.W.Frag) (own : List Nat) (m : MG) : TG := fun v σ H Q => ∃ G ρ fp s d ρ', RelF K G H σ ρ fp ∧ Dt K (wallOf s H fp) v d ∧ m s d ρ = some ρ' ∧ ∀ vs fp', RelF K G H (setS σ own vs) ρ' fp' → (∀ j, j ∉ own → fp' j = fp j) → Q (setS σ own vs) H
theorem sim_canE {K : PySem.W.Frag} {m : ME} : SimE K (canE K m) m := fun G H σ ρ fp r Q R hm q => ⟨G, ρ, fp, r, R, hm, q⟩
theorem sim_canT {K : PySem.W.Frag} {m : MT} : SimT K (canT K m) m := fun G H σ ρ fp b Q R hm q => ⟨G, ρ, fp, b, R, hm, q⟩
theorem sim_canG {K : PySem.W.Frag} {own : List Nat} {m : MG} : SimG K own (canG K own m) m := fun G H σ ρ fp s d v ρ' Q R h hm q => ⟨G, ρ, fp, s, d, ρ', R, h, hm, q⟩
theorem XE.can {X : Cx} {e : Expr} {m : ME} (h : XE X e m) : PE X e (canE X.K m) := by
  obtain ⟨t, p, s⟩ := h
  exact ⟨fun pins s' σ H Q I ⟨G, ρ, fp, r, R, hm, q⟩ => p.run pins s' σ H Q I (s G H σ ρ fp r Q R hm q)⟩
theorem XT.can {X : Cx} {e : Expr} {m : MT} (h : XT X e m) : PT X e (canT X.K m) := by
  obtain ⟨t, p, s⟩ := h
  exact ⟨fun pins s' σ H Q I ⟨G, ρ, fp, r, R, hm, q⟩ => p.run pins s' σ H Q I (s G H σ ρ fp r Q R hm q)⟩
theorem XTs.can {X : Cx} {es : List Expr} {m : MT} (h : XTs X es m) : PTs X es (canT X.K m) := by
  obtain ⟨t, p, s⟩ := h
  exact ⟨fun pins s' σ H Q I ⟨G, ρ, fp, r, R, hm, q⟩ => p.run pins s' σ H Q I (s G H σ ρ fp r Q R hm q)⟩
theorem XG.can {X : Cx} {tg : Expr} {own : List Nat} {m : MG} (h : XG X tg own m) : PG X tg (canG X.K own m) := by
  obtain ⟨t, p, s⟩ := h
  exact ⟨fun pins s' σ H v u Q I rv ⟨G, ρ, fp, sh, d, ρ', R, hd, hm, q⟩ => p.run pins s' σ H v u Q I rv (s G H σ ρ fp sh d v ρ' Q R hd hm q)⟩
section
variable {X : Cx} {elt tg iter : Expr} {ifs : List Expr} {scope : Scope} {own : List (Str × Nat)} {pos : Pos} {mi : MI} {g : MG} {mt : MT} {me : ME} {ow : List Nat}
theorem x_lc (hc : X.calm = true) (hN : X.N.Nodup) (hi : XI X tg iter mi) (ok : BlkOk X.N X.env.scope scope own) (ho : ∀ j ∈ ow, j ∈ own.map (·.2))
    (hg : ∀ (s : Shared) (H : Hp) (C : Addr) (cl : List (Str × Addr)) (fp : List Addr), XG (X.blk s H scope (compEnvC scope cl C X.env) fp) tg ow g)
    (ht : ∀ (s : Shared) (H : Hp) (C : Addr) (cl : List (Str × Addr)) (fp : List Addr), XTs (X.blk s H scope (compEnvC scope cl C X.env) fp) ifs mt)
    (he : ∀ (s : Shared) (H : Hp) (C : Addr) (cl : List (Str × Addr)) (fp : List Addr), XE (X.blk s H scope (compEnvC scope cl C X.env) fp) elt me)
    (hs : ∀ x, foldedSetIterable iter X.env x = pure x := by intro _; rfl) : XE X (.ListComp elt [⟨tg, iter, ifs, 0⟩] scope pos) (mLc mi g mt me (own.map (·.2))) := by
  obtain ⟨wi, p, s⟩ := hi
  exact ⟨_, pe_lc hc hN p ok (fun s H C cl fp => (hg s H C cl fp).can) (fun s H C cl fp => (ht s H C cl fp).can) (fun s H C cl fp => (he s H C cl fp).can) hs, sim_lc s sim_canG sim_canT sim_canE ho⟩
end
end DL

set_option Elab.async false
set_option linter.all false
set_option maxRecDepth 100000
set_option maxHeartbeats 4000000
/-! Statements, defs. -/
namespace DL
open PySem PySem.Spec PyProof.Rows L2
open Evl (Ex)

inductive Out where
  | nx (ρ : Env)
  | rt (s : S)
  | bk (ρ : Env)
  | ct (ρ : Env)
  | ex (C : Addr)
abbrev MS := Env → Option Out
def OutOk (K : PySem.W.Frag) (G : Hp) (W : XK) (D : Ends) : Out → Prop
  | .nx ρ => ∀ σ H fp, RelF K G H σ ρ fp → D.nx σ H
  | .bk ρ => ∀ σ H fp, RelF K G H σ ρ fp → D.bk σ H
  | .ct ρ => ∀ σ H fp, RelF K G H σ ρ fp → D.ct σ H
  | .rt s => ∀ v F H, Ex G H → Rep K H s v F → (∀ a ∈ F, G a = none) → D.rt v H
  | .ex C => ∀ H, Ex G H → W (.ref C) none H
def SimS (K : PySem.W.Frag) (W : XK) (t : TS) (m : MS) : Prop := ∀ G H σ ρ fp o D, RelF K G H σ ρ fp → m ρ = some o → OutOk K G W D o → t D σ H
structure XS (X : Cx) (W : XK) (st : Stmt) (m : MS) : Prop where
  sim : ∃ t, PS X st t ∧ SimS X.K W t m
structure XSs (X : Cx) (W : XK) (st : List Stmt) (m : MS) : Prop where
  sim : ∃ t, PSs X st t ∧ SimS X.K W t m
def mNext : MS := fun ρ => some (.nx ρ)
def mSeq (m1 m2 : MS) : MS := fun ρ => match m1 ρ with
  | some (.nx ρ') => m2 ρ'
  | o => o
/-- a wall in the place of the ground -/
theorem RelF.wall {K : PySem.W.Frag} {G B H : Hp} {σ : L2.St} {ρ : Env} {fp : Nat → List Addr} (R : RelF K B H σ ρ fp) (e : Ex G B) : RelF K G H σ ρ fp :=
  ⟨R.len, e.trans R.ex, R.dj, fun i a m => Evl.fresh_back e (R.new i a m), R.ls, R.sl⟩
theorem RelF.toWall {K : PySem.W.Frag} {G H : Hp} {σ : L2.St} {ρ : Env} {fp : Nat → List Addr} (R : RelF K G H σ ρ fp) : RelF K (hid H fp) H σ ρ fp ∧ Ex G (hid H fp) := by
  refine ⟨⟨R.len, hid_ex, R.dj, fun i a m => ?_, R.ls, R.sl⟩, fun a o e => ?_⟩
  · cases h : hid H fp a with
    | none => rfl
    | some o => exact ((hid_some h).1 i m).elim
  · rw [hid_at]
    · exact R.ex a o e
    · intro i m; rw [R.new i a m] at e; cases e
theorem OutOk.wall {K : PySem.W.Frag} {G B : Hp} {W : XK} {D : Ends} {o : Out} (e : Ex G B) (h : OutOk K G W D o) : OutOk K B W D o := by
  cases o with
  | nx ρ => exact fun σ H fp R => h σ H fp (R.wall e)
  | bk ρ => exact fun σ H fp R => h σ H fp (R.wall e)
  | ct ρ => exact fun σ H fp R => h σ H fp (R.wall e)
  | rt s => exact fun v F H x r f => h v F H (e.trans x) r fun a m => Evl.fresh_back e (f a m)
  | ex C => exact fun H x => h H (e.trans x)
section
variable {X : Cx} {W : XK} {st : Stmt} {rest : List Stmt} {m m1 m2 : MS} {e a b : Expr} {es : List Expr} {ma me : ME} {mt : MT} {ms : MA} {mi : MI} {pos : Pos} {x : Str}
theorem xss_nil : XSs X W [] mNext := ⟨_, pss_nil, fun G H σ ρ fp o D R hm q => by cases hm; exact q σ H fp R⟩
theorem xss_cons (h1 : XS X W st m1) (h2 : XSs X W rest m2) : XSs X W (st :: rest) (mSeq m1 m2) := by
  obtain ⟨t, p, s⟩ := h1
  obtain ⟨u, p2, s2⟩ := h2
  refine ⟨_, pss_cons p p2, fun G H σ ρ fp o D R hm q => ?_⟩
  unfold mSeq at hm
  split at hm
  · rename_i ρ' e1
    exact s G H σ ρ fp _ { D with nx := u D } R e1 fun σ' H' fp' R' => s2 G H' σ' ρ' fp' o D R' hm q
  · rename_i o' hne
    refine s G H σ ρ fp o { D with nx := u D } R hm ?_
    cases o with
    | nx ρ' => exact (hne ρ' hm).elim
    | rt s => exact q
    | bk ρ => exact q
    | ct ρ => exact q
    | ex C => exact q
theorem xss_one (h : XS X W st m) : XSs X W [st] m := by
  obtain ⟨t, p, s⟩ := h
  exact ⟨_, pss_one p, s⟩
/-- slots that are not asked again -/
def mKill (ks : List Nat) (m : MS) : MS := fun ρ => m (killE ks ρ)
theorem xss_kill (ks : List Nat) (h : XSs X W rest m) : XSs X W rest (mKill ks m) := by
  obtain ⟨t, p, s⟩ := h
  refine ⟨_, p, fun G H σ ρ fp o D R hm q => ?_⟩
  obtain ⟨fp', R'⟩ := R.kill ks
  exact s G H σ _ fp' o D R' hm q
theorem xs_pass : XS X W (.Pass pos) mNext := ⟨_, ps_pass, fun G H σ ρ fp o D R hm q => by cases hm; exact q σ H fp R⟩
theorem xs_break : XS X W (.Break pos) (fun ρ => some (.bk ρ)) := ⟨_, ps_break, fun G H σ ρ fp o D R hm q => by cases hm; exact q σ H fp R⟩
theorem xs_continue : XS X W (.Continue pos) (fun ρ => some (.ct ρ)) := ⟨_, ps_continue, fun G H σ ρ fp o D R hm q => by cases hm; exact q σ H fp R⟩
theorem xs_doc {s : Str} {j p p' : _} : XS X W (.Expr (.Constant (.str s) j p) p') mNext := ⟨_, ps_doc, fun G H σ ρ fp o D R hm q => by cases hm; exact q σ H fp R⟩
/-- name = e -/
def mSet (i : Nat) (m : ME) : MS := fun ρ => (m ρ).map fun r => .nx (ρ.set i r.slot)
theorem sim_set {K : PySem.W.Frag} {te : TE} {i : Nat} (s : SimE K te ma) : SimS K W (tAsg te (gName i)) (mSet i ma) := fun G H σ ρ fp o D R hm q => by
  unfold mSet at hm
  rw [Option.map_eq_some_iff] at hm
  obtain ⟨r, h1, rfl⟩ := hm
  exact s G H σ ρ fp r _ R h1 fun v F H1 x1 o1 => q _ H1 _ (R.set x1 o1)
theorem xs_set {i : Nat} {pos' : Pos} (hN : X.N.Nodup) (hi : X.N[i]? = some x) (hx : Loc X.env.scope x) (he : XE X e ma) (hs : swapsWith e (some (.Name x pos')) pos.line X.env = pure false := by rfl) (hf : X.fn x = true ∨ X.env.scope.names.lookup x = some .local := by first | exact .inl rfl | exact .inr rfl | assumption) :
    XS X W (.Assign [.Name x pos'] e pos) (mSet i ma) := by
  obtain ⟨t, p, s⟩ := he
  exact ⟨_, ps_set hN hi hx p hs hf, sim_set s⟩
/-- name = [..] in one row -/
theorem xs_setLc {i : Nat} {py : Pos} {elt tg iter : Expr} {ifs : List Expr} {scope : Scope} {own : List (Str × Nat)} {spos : Pos} {g : MG} {ow : List Nat} (hc : X.calm = true) (hN : X.N.Nodup) (hy : X.N[i]? = some x) (hyl : X.env.scope.names.lookup x = some .local)
    (hsw : swapsWith (.ListComp elt [⟨tg, iter, ifs, 0⟩] scope pos) (some (.Name x py)) spos.line X.env = pure true) (hi : XI X tg iter mi) (ok : BlkOk X.N X.env.scope scope own) (ho : ∀ j ∈ ow, j ∈ own.map (·.2))
    (hg : ∀ (s : Shared) (H : Hp) (C : Addr) (cl : List (Str × Addr)) (fp : List Addr), XG (X.blk s H scope (compEnvC scope cl C X.env) fp) tg ow g)
    (ht : ∀ (s : Shared) (H : Hp) (C : Addr) (cl : List (Str × Addr)) (fp : List Addr), XTs (X.blk s H scope (compEnvC scope cl C X.env) fp) ifs mt)
    (he : ∀ (s : Shared) (H : Hp) (C : Addr) (cl : List (Str × Addr)) (fp : List Addr), XE (X.blk s H scope (compEnvC scope cl C X.env) fp) elt me)
    (hs : ∀ x, foldedSetIterable iter X.env x = pure x := by intro _; rfl) : XS X W (.Assign [.Name x py] (.ListComp elt [⟨tg, iter, ifs, 0⟩] scope pos) spos) (mSet i (mLc mi g mt me (own.map (·.2)))) := by
  obtain ⟨wi, p, s⟩ := hi
  exact ⟨_, ps_setLc hc hN hy hyl hsw p ok (fun s H C cl fp => (hg s H C cl fp).can) (fun s H C cl fp => (ht s H C cl fp).can) (fun s H C cl fp => (he s H C cl fp).can) hs, sim_set (sim_lc s sim_canG sim_canT sim_canE ho)⟩
/-- a, b = e, e a tuple -/
def mSetT (g : MG) (m : ME) : MS := fun ρ => match m ρ with
  | some r => (g r.fixed r.data ρ).map .nx
  | none => none
theorem xs_setT {tg : Expr} {g : MG} {ow : List Nat} (he : XE X e ma) (hg : XG X tg ow g) (hs : swapsWithSole [tg] e pos.line X.env = pure false := by rfl) (hw : swappedStores [tg] e X.env = pure none := by rfl)
    (h1 : (assignEach [tg] X.env).map (·.2) = [assign tg X.env] := by rfl) : XS X W (.Assign [tg] e pos) (mSetT g ma) := by
  obtain ⟨t, p, s⟩ := he
  obtain ⟨gt, pg, sg⟩ := hg
  refine ⟨_, ps_asg p pg hs hw h1, fun G H σ ρ fp o D R hm q => ?_⟩
  unfold mSetT at hm
  split at hm
  · rename_i r e1
    rw [Option.map_eq_some_iff] at hm
    obtain ⟨ρ', e2, rfl⟩ := hm
    refine s G H σ ρ fp r _ R e1 fun v F H1 x1 o1 => ?_
    exact sg G H1 σ ρ fp r.fixed r.data v ρ' _ (R.grow x1) (ROk.wall R.ls x1 o1) e2 fun vs fp' R' _ => q _ H1 fp' R'
  · cases hm
/-- return e -/
def mRet (m : ME) : MS := fun ρ => match m ρ with
  | some r => r.tree.map .rt
  | none => none
theorem xs_ret (he : XE X e ma) : XS X W (.Return (some e) pos) (mRet ma) := by
  obtain ⟨t, p, s⟩ := he
  refine ⟨_, ps_ret p, fun G H σ ρ fp o D R hm q => ?_⟩
  unfold mRet at hm
  split at hm
  · rename_i r e1
    rw [Option.map_eq_some_iff] at hm
    obtain ⟨s', e2, rfl⟩ := hm
    refine s G H σ ρ fp r _ R e1 fun v F H1 x1 o1 => ?_
    exact q v F H1 (R.ex.trans x1) (o1.tree e2) fun a m => Evl.fresh_back R.ex (o1.fresh a m)
  · cases hm
/-- return of a name: what it owns goes with it -/
def mRetV (i : Nat) : MS := fun ρ => match ρ[i]? with
  | some (.tr s) => some (.rt s)
  | some (.sh x) => if imm x = true then some (.rt (.d x)) else none
  | some (.vw x) => if imm x = true then some (.rt (.d x)) else none
  | _ => none
theorem xs_retV (i : Nat) {p : Pos} (hN : X.N[i]? = some x := by rfl) (hv : Vis X.env.scope x := by first | exact Or.inl rfl | exact Or.inr (Or.inl rfl) | exact Or.inr (Or.inr rfl)) (hd : (x == ("__debug__" : Str)) = false := by decide)
    (hcd : (x == ("__classdict__" : Str)) = false := by decide) : XS X W (.Return (some (.Name x p)) pos) (mRetV i) := by
  refine ⟨_, ps_ret (pe_var hN hv hd hcd), fun G H σ ρ fp o D R hm q => ?_⟩
  unfold mRetV at hm
  split at hm
  · rename_i s hs; cases hm
    obtain ⟨v, h1, h2⟩ := R.sl i _ hs
    exact ⟨v, h1, q v (fp i) H R.ex h2 fun a m => R.new i a m⟩
  · rename_i d hs
    split at hm
    · rename_i im; cases hm
      obtain ⟨_, v, h1, h2⟩ := R.sl i _ hs
      exact ⟨v, h1, q v [] H R.ex (.d ((h2.mono hid_ex).stb im)) fun a m => by cases m⟩
    · cases hm
  · rename_i d hs
    split at hm
    · rename_i im; cases hm
      obtain ⟨_, v, h1, h2⟩ := R.sl i _ hs
      exact ⟨v, h1, q v [] H R.ex (.d (h2.stb im)) fun a m => by cases m⟩
    · cases hm
  · cases hm
theorem xs_retN : XS X W (.Return none pos) (fun _ => some (.rt (.d .non))) := ⟨_, ps_retN, fun G H σ ρ fp o D R hm q => by cases hm; exact q .non [] H R.ex (.d .non) fun a m => by cases m⟩
/-- if -/
def mIfS (t : MT) (a b : MS) : MS := fun ρ => match t ρ with
  | some true => a ρ
  | some false => b ρ
  | none => none
theorem xs_if {c : Expr} {l1 l2 : List Stmt} (hc : XT X c mt) (h1 : XSs X W l1 m1) (h2 : XSs X W l2 m2) : XS X W (.If c l1 l2 pos) (mIfS mt m1 m2) := by
  obtain ⟨tc, p0, s0⟩ := hc
  obtain ⟨t, p, s⟩ := h1
  obtain ⟨u, p2, s2⟩ := h2
  refine ⟨_, ps_if p0 p p2, fun G H σ ρ fp o D R hm q => ?_⟩
  unfold mIfS at hm
  split at hm
  · rename_i e1
    refine s0 G H σ ρ fp true _ R e1 fun H1 x1 => ?_
    rw [if_pos rfl]
    exact s G H1 σ ρ fp o D (R.grow x1) hm q
  · rename_i e1
    refine s0 G H σ ρ fp false _ R e1 fun H1 x1 => ?_
    rw [if_neg Bool.false_ne_true]
    exact s2 G H1 σ ρ fp o D (R.grow x1) hm q
  · cases hm
/-- for -/
def forGo (s : Bool) (g : MG) (body : MS) (ks : List Nat) : List D → MS
  | [], ρ => some (.nx ρ)
  | d :: ds, ρ => match g s d ρ with
    | some ρ1 => match body ρ1 with
      | some (.nx ρ2) => forGo s g body ks ds (killE ks ρ2)
      | some (.ct ρ2) => forGo s g body ks ds (killE ks ρ2)
      | some (.bk ρ2) => some (.nx ρ2)
      | o => o
    | none => none
def mFor (mi : MI) (g : MG) (body : MS) (ks : List Nat) : MS := fun ρ => match mi ρ with
  | some (true, items) => forGo true g body ks items ρ
  | _ => none
theorem sim_for {K : PySem.W.Frag} {wi : TI} {g : TG} {mg : MG} {tb : TS} {own : List Nat} (hi : SimI K wi mi) (hg : SimG K own g mg) (hb : SimS K W tb m) (ks : List Nat) : SimS K W (tFor wi g tb) (mFor mi mg m ks) := by
  intro G H σ ρ fp o D R hm q
  unfold mFor at hm
  split at hm
  rotate_left
  · cases hm
  rename_i items e1
  refine hi G H σ ρ fp true items _ R e1 fun J H1 x1 it => ?_
  obtain ⟨RB, eB⟩ := (R.grow x1).toWall
  have qB := q.wall eB
  rw [wall_t] at it
  refine ⟨fun i mm σ' H' => mm = items.length - i ∧ i ≤ items.length ∧ ∃ ρ' fp', RelF K (hid H1 fp) H' σ' ρ' fp' ∧ forGo true mg m ks (items.drop i) ρ' = some o, ⟨items.length, by simp, Nat.zero_le _, ρ, fp, RB, by simpa using hm⟩, ?_⟩
  rintro i mm σ' H' ⟨rfl, hile, ρ', fp', R', hgo⟩
  obtain ⟨itgo, itstop⟩ := it i H' R'.ex
  by_cases hlt : i < items.length
  · right
    obtain ⟨d, hd⟩ : ∃ d, items[i]? = some d := ⟨items[i], by simp [hlt]⟩
    have hdrop : items.drop i = d :: items.drop (i + 1) := by
      rw [List.drop_eq_getElem_cons hlt]
      rw [List.getElem?_eq_getElem hlt] at hd
      cases hd; rfl
    rw [hdrop] at hgo
    obtain ⟨hj, hyld⟩ := itgo d hd
    refine ⟨hj, fun σ2 H2 => ∃ ρ2 fp2, RelF K (hid H1 fp) H2 σ2 ρ2 fp2 ∧ forGo true mg m ks (items.drop (i + 1)) ρ2 = some o, fun σ2 H2 p => ⟨_, by omega, rfl, by omega, p⟩, fun x H2 hy => ?_⟩
    obtain ⟨x2, hdt⟩ := hyld x H2 hy
    have R2 := R'.grow x2
    have hw : Dt K (wallOf true H2 fp') x d := by
      rw [wall_t]
      refine hdt _ ?_ (stb_hid R2.ls)
      exact R2.toWall.2
    unfold forGo at hgo
    split at hgo
    rotate_left
    · cases hgo
    rename_i ρ1 e3
    refine hg _ H2 σ' ρ' fp' true d x ρ1 _ R2 hw e3 fun ws fp2 R3 _ => ?_
    have hD : ∀ o', m ρ1 = some o' → OutOk K (hid H1 fp) W { D with nx := fun σ2 H2 => ∃ ρ2 fp2, RelF K (hid H1 fp) H2 σ2 ρ2 fp2 ∧ forGo true mg m ks (items.drop (i + 1)) ρ2 = some o, ct := fun σ2 H2 => ∃ ρ2 fp2, RelF K (hid H1 fp) H2 σ2 ρ2 fp2 ∧ forGo true mg m ks (items.drop (i + 1)) ρ2 = some o, bk := D.nx } o' := by
      intro o' e4
      rw [e4] at hgo
      cases o' with
      | nx ρ2 =>
        intro σ3 H3 fp3 R4
        obtain ⟨fp4, R5⟩ := R4.kill ks
        exact ⟨_, fp4, R5, hgo⟩
      | ct ρ2 =>
        intro σ3 H3 fp3 R4
        obtain ⟨fp4, R5⟩ := R4.kill ks
        exact ⟨_, fp4, R5, hgo⟩
      | bk ρ2 => cases hgo; exact fun σ3 H3 fp3 R4 => qB σ3 H3 fp3 R4
      | rt s => cases hgo; exact qB
      | ex C => cases hgo; exact qB
    cases h4 : m ρ1 with
    | none => rw [h4] at hgo; cases hgo
    | some o' => exact hb _ H2 _ ρ1 fp2 o' _ R3 h4 (hD o' h4)
  · left
    have hie : i = items.length := by omega
    subst hie
    rw [List.drop_length] at hgo
    unfold forGo at hgo
    cases hgo
    exact ⟨itstop (Nat.le_refl _), qB σ' H' fp' R'⟩
theorem xs_for {tg iter : Expr} {body : List Stmt} {g : MG} {ow : List Nat} (ks : List Nat) (hp : PassesOwn (model X.prog X.w) X.A X.env X.xe) (hc : X.calm = true) (hi : XI X tg iter mi) (hg : XG X tg ow g) (hb : XSs X W body m)
    (hs : ∀ x, foldedSetIterable iter X.env x = pure x := by intro _; rfl) : XS X W (.For tg iter body [] pos) (mFor mi g m ks) := by
  obtain ⟨wi, p, s⟩ := hi
  obtain ⟨gt, pg, sg⟩ := hg
  obtain ⟨t, pb, sb⟩ := hb
  exact ⟨_, ps_for hp hc p pg pb hs, sim_for s sg sb ks⟩
/-- while: at most so many turns -/
def whGo (mt : MT) (body : MS) (ks : List Nat) : Nat → MS
  | 0, _ => none
  | n + 1, ρ => match mt ρ with
    | some true => match body ρ with
      | some (.nx ρ2) => whGo mt body ks n (killE ks ρ2)
      | some (.ct ρ2) => whGo mt body ks n (killE ks ρ2)
      | some (.bk ρ2) => some (.nx ρ2)
      | o => o
    | some false => some (.nx ρ)
    | none => none
def mWhile (n : Nat) (mt : MT) (body : MS) (ks : List Nat) : MS := fun ρ => whGo mt body ks n ρ
theorem xs_while {c : Expr} {body : List Stmt} (n : Nat) (ks : List Nat) (hp : PassesOwn (model X.prog X.w) X.A X.env X.xe) (hc : XT X c mt) (hb : XSs X W body m) : XS X W (.While c body [] pos) (mWhile n mt m ks) := by
  obtain ⟨tc, p0, s0⟩ := hc
  obtain ⟨tb, p, s⟩ := hb
  refine ⟨_, ps_while hp p0 p, fun G H σ ρ fp o D R hm q => ?_⟩
  refine ⟨fun k σ' H' => ∃ ρ' fp', RelF X.K G H' σ' ρ' fp' ∧ whGo mt m ks k ρ' = some o, ⟨n, ρ, fp, R, hm⟩, ?_⟩
  rintro k σ' H' ⟨ρ', fp', R', hgo⟩
  cases k with
  | zero => cases hgo
  | succ k =>
    unfold whGo at hgo
    split at hgo
    · rename_i e1
      refine s0 G H' σ' ρ' fp' true _ R' e1 fun H2 x2 => ?_
      rw [if_pos rfl]
      refine ⟨fun σ3 H3 => ∃ ρ3 fp3, RelF X.K G H3 σ3 ρ3 fp3 ∧ whGo mt m ks k ρ3 = some o, fun σ3 H3 p => ⟨k, by omega, p⟩, ?_⟩
      cases h4 : m ρ' with
      | none => rw [h4] at hgo; cases hgo
      | some o' =>
        refine s G H2 σ' ρ' fp' o' _ (R'.grow x2) h4 ?_
        rw [h4] at hgo
        cases o' with
        | nx ρ2 =>
          intro σ3 H3 fp3 R4
          obtain ⟨fp4, R5⟩ := R4.kill ks
          exact ⟨_, fp4, R5, hgo⟩
        | ct ρ2 =>
          intro σ3 H3 fp3 R4
          obtain ⟨fp4, R5⟩ := R4.kill ks
          exact ⟨_, fp4, R5, hgo⟩
        | bk ρ2 => cases hgo; exact q
        | rt s => cases hgo; exact q
        | ex C => cases hgo; exact q
    · rename_i e1
      cases hgo
      refine s0 G H' σ' ρ' fp' false _ R' e1 fun H2 x2 => ?_
      rw [if_neg Bool.false_ne_true]
      exact q σ' H2 fp' (R'.grow x2)
    · cases hgo
/-- an expression whose value is dropped -/
def mDrop (m : ME) : MS := fun ρ => (m ρ).map fun _ => .nx ρ
theorem xs_drop (he : XE X e ma) (hs : swapsWith e none pos.line X.env = pure false := by rfl) : XS X W (.Expr e pos) (mDrop ma) := by
  obtain ⟨t, p, s⟩ := he
  refine ⟨_, ps_expr p hs, fun G H σ ρ fp o D R hm q => ?_⟩
  unfold mDrop at hm
  rw [Option.map_eq_some_iff] at hm
  obtain ⟨r, h1, rfl⟩ := hm
  exact s G H σ ρ fp r _ R h1 fun v F H1 x1 o1 => q σ H1 fp (R.grow x1)
/-- a call that may raise: what comes of it -/
def mCallO (n : Nat) (g : List D → Option FO) (ms : MA) : Env → Option FO := fun ρ => match ms ρ with
  | some rs => if rs.length = n then g (rs.map R.data) else none
  | none => none
def SimC (K : PySem.W.Frag) (W : XK) (t : TE) (m : Env → Option FO) : Prop := ∀ G H σ ρ fp o (Q : VK), RelF K G H σ ρ fp → m ρ = some o → (∀ s, o = .ret s → ∀ v F H', Ex H H' → ROk K H H' fp v F (retR s) → Q v H') → (∀ C, o = .exc C → ∀ H', Ex H H' → W (.ref C) none H') → t σ H Q
structure XC (X : Cx) (W : XK) (e : Expr) (m : Env → Option FO) : Prop where
  sim : ∃ t, PE X e t ∧ SimC X.K W t m
theorem xc_call {k n : Nat} {f : Addr} {fd : FuncData} {ps : List Str} {g : List D → Option FO} {p : Pos} (F : FnOk X.prog X.w X.K X.mg X.base (L2.CX X.prog X.w) k f fd ps (spD X.K n g)) (hr : Room k X.A) (hg : Gl X x) (hm : X.mg x = some (.ref f)) (hk : PySem.W.keepIn X.K (.ref f) = true) (hb : Binds X.K fd ps [])
    (tk : Takes X fun c d _ H => W c d H) (ha : XA X (e :: es) ms) (hdb : (x == ("__debug__" : Str)) = false := by decide) (he : starEach (e :: es) X.env = (false, eval e X.env) :: starEach es X.env := by rfl) (hpl : (backTo pos (starEach es X.env)).any (·.1) = false := by rfl) :
    XC X W (.Call (.Name x p) (e :: es) [] pos) (mCallO n g ms) := by
  obtain ⟨t, pa, s⟩ := ha
  refine ⟨_, pe_call F hr hg hm hk hb .nil (passes_call (E := W) tk fun _ _ _ _ h => h) pa hdb he hpl, fun G H σ ρ fp r Q R hm q qe => ?_⟩
  unfold mCallO at hm
  split at hm
  · rename_i rs e1
    split at hm
    · rename_i hn
      refine s G H σ ρ fp rs _ R e1 fun vs F H1 x1 o1 => ?_
      rw [List.append_nil]
      refine ⟨o1.len.symm.trans hn, _, _, o1.data, hm, ?_⟩
      cases r with
      | ret s' => exact fun v F' H' x2 o2 f2 => q s' rfl v F' H' (x1.trans x2) (ROk.back (retR_ok (ls_mono R.ls (x1.trans x2)) o2 f2) x1)
      | exc C => exact fun H' x2 => qe C rfl H' (x1.trans x2)
    · cases hm
  · cases hm
def mDropC (m : Env → Option FO) : MS := fun ρ => match m ρ with
  | some (.ret _) => some (.nx ρ)
  | some (.exc C) => some (.ex C)
  | none => none
def mSetC (i : Nat) (m : Env → Option FO) : MS := fun ρ => match m ρ with
  | some (.ret s) => some (.nx (ρ.set i (retR s).slot))
  | some (.exc C) => some (.ex C)
  | none => none
def mRetC (m : Env → Option FO) : MS := fun ρ => match m ρ with
  | some (.ret s) => (retR s).tree.map .rt
  | some (.exc C) => some (.ex C)
  | none => none
variable {mc : Env → Option FO}
theorem xs_dropC (he : XC X W e mc) (hs : swapsWith e none pos.line X.env = pure false := by rfl) : XS X W (.Expr e pos) (mDropC mc) := by
  obtain ⟨t, p, s⟩ := he
  refine ⟨_, ps_expr p hs, fun G H σ ρ fp o D R hm q => ?_⟩
  unfold mDropC at hm
  split at hm
  · rename_i s' e1; cases hm
    exact s G H σ ρ fp _ _ R e1 (fun _ _ v F H1 x1 o1 => q σ H1 fp (R.grow x1)) (fun _ h => by cases h)
  · rename_i C e1; cases hm
    exact s G H σ ρ fp _ _ R e1 (fun _ h => by cases h) (fun _ h H' x1 => by cases h; exact q H' (R.ex.trans x1))
  · cases hm
theorem xs_setC {i : Nat} {pos' : Pos} (hN : X.N.Nodup) (hi : X.N[i]? = some x) (hx : Loc X.env.scope x) (he : XC X W e mc) (hs : swapsWith e (some (.Name x pos')) pos.line X.env = pure false := by rfl) (hf : X.fn x = true ∨ X.env.scope.names.lookup x = some .local := by first | exact .inl rfl | exact .inr rfl | assumption) :
    XS X W (.Assign [.Name x pos'] e pos) (mSetC i mc) := by
  obtain ⟨t, p, s⟩ := he
  refine ⟨_, ps_set hN hi hx p hs hf, fun G H σ ρ fp o D R hm q => ?_⟩
  unfold mSetC at hm
  split at hm
  · rename_i s' e1; cases hm
    exact s G H σ ρ fp _ _ R e1 (fun _ h v F H1 x1 o1 => by cases h; exact q _ H1 _ (R.set x1 o1)) (fun _ h => by cases h)
  · rename_i C e1; cases hm
    exact s G H σ ρ fp _ _ R e1 (fun _ h => by cases h) (fun _ h H' x1 => by cases h; exact q H' (R.ex.trans x1))
  · cases hm
theorem xs_retC (he : XC X W e mc) : XS X W (.Return (some e) pos) (mRetC mc) := by
  obtain ⟨t, p, s⟩ := he
  refine ⟨_, ps_ret p, fun G H σ ρ fp o D R hm q => ?_⟩
  unfold mRetC at hm
  split at hm
  · rename_i s' e1
    rw [Option.map_eq_some_iff] at hm
    obtain ⟨s2, e2, rfl⟩ := hm
    exact s G H σ ρ fp _ _ R e1 (fun _ h v F H1 x1 o1 => by cases h; exact q v F H1 (R.ex.trans x1) (o1.tree e2) fun a m => Evl.fresh_back R.ex (o1.fresh a m)) (fun _ h => by cases h)
  · rename_i C e1; cases hm
    exact s G H σ ρ fp _ _ R e1 (fun _ h => by cases h) (fun _ h H' x1 => by cases h; exact q H' (R.ex.trans x1))
  · cases hm
/-- raise C('..'), C an own class -/
structure ExcAt (K : PySem.W.Frag) (mg : Str → Option Value) (x : Str) (C : Addr) : Prop where
  g : mg x = some (.ref C)
  q : PySem.W.excIn K C [.type "ValueError", .type "Exception", .type "BaseException", .type "object"] "ValueError.__new__" = true
  k : PySem.W.keepIn K (.ref C) = true
  b : PySem.W.subIn K (.ref C) (.type "BaseException") = some true
  t : PySem.W.typeIn K (.ref C) = some (.type "type")
theorem xs_raise {C : Addr} {txt : Str} {j : _} {p p2 p3 : Pos} (hc : X.calm = true) (T : ExcAt X.K X.mg x C) (tk : Takes X fun c d _ H => W c d H) (hg : Gl X x) (hdb : (x == ("__debug__" : Str)) = false := by decide) :
    XS X W (.Raise (some (.Call (.Name x p) [.Constant (.str txt) j p2] [] p3)) none pos) (fun _ => some (.ex C)) :=
  ⟨_, ps_raise hc tk (pmk_own PySem.F.excBase_ValueError T.q T.g T.k (raises_own T.b T.t) hg hdb), fun G H σ ρ fp o D R hm q => by cases hm; exact q H R.ex⟩
end

/-! ### defs -/
def outF : Out → Option FO
  | .nx _ => some (.ret (.d .non))
  | .rt s => some (.ret s)
  | .ex C => some (.exc C)
  | _ => none
def env0 (n : Nat) (ds : List D) : Env := ds.map Sl.sh ++ List.replicate (n - ds.length) .dead
def runF (n : Nat) (m : MS) (ds : List D) : Option FO := match m (env0 n ds) with
  | some o => outF o
  | none => none
theorem RelF.start {K : PySem.W.Frag} {H : Hp} {N : List Str} {vs : List V} {ds : List D} (h : DtL K H vs ds) : RelF K H H (L2.start N vs) (env0 N.length ds) fun _ => [] where
  len := by unfold L2.start env0; simp [h.len]
  ex := Evl.Ex.refl H
  dj := fun i j a m => by cases m
  new := fun i a m => by cases m
  ls := fun i a m => by cases m
  sl := fun i s hs => by
    have hh : hid H (fun _ => []) = H := by
      funext a; rw [hid_at]; intro i m; cases m
    rw [hh]
    unfold env0 at hs
    by_cases hi : i < ds.length
    · rw [List.getElem?_append_left (by simpa using hi), List.getElem?_map, Option.map_eq_some_iff] at hs
      obtain ⟨d, h1, rfl⟩ := hs
      obtain ⟨v, h2, h3⟩ := h.get h1
      refine ⟨rfl, v, ?_, h3⟩
      unfold L2.start
      rw [List.getElem?_append_left (by rw [List.length_map, h.len]; exact hi), List.getElem?_map, h2]
      rfl
    · rw [List.getElem?_append_right (by simpa using Nat.le_of_not_lt hi), List.getElem?_replicate] at hs
      split at hs
      · cases hs; rfl
      · cases hs
section
variable {P : Program} {w : World} {K : PySem.W.Frag} {mg : Str → Option Value} {base : Heap}
theorem fnD {x qual : Str} {st : Stmt} {f : Addr} {fd : FuncData} {N ps : List Str} {k n : Nat} {m : MS} (F : Fun K x qual st f fd) (S : FnScope N ps (defScope st)) (hn : ps.length = n)
    (hbody : ∀ (cdv : Value) (A : Around) (outer : List PySem.Env) (s : Shared) (H : Hp) (E : XK), Room k (A.deeper (envOfC qual (defScope st) s.heap.objs.size f cdv)) →
      XSs (cxOf (L2.CX P w) P w K mg base N qual (defScope st) f cdv A outer s H E) E (defBody st) m) : FnOk P w K mg base (L2.CX P w) (k + 1) f fd ps (spD K n (runF N.length m)) := by
  refine F.okX S (fun vs H Q E h => h.1.trans hn.symm) fun cdv A outer s H vs Q E hr h => ?_
  obtain ⟨t, p, sim⟩ := (hbody cdv A outer s H E hr).sim
  obtain ⟨_, ds, o, hd, hg, hq⟩ := h
  refine ⟨t, p, ?_⟩
  unfold runF at hg
  split at hg
  · rename_i o' e1
    refine sim H H _ _ _ o' _ (RelF.start hd) e1 ?_
    cases o' with
    | nx ρ => cases hg; exact fun σ H' fp R => hq .non [] H' R.ex (.d .non) fun a m => by cases m
    | rt s => cases hg; exact fun v F H' x r f => hq v F H' x r f
    | ex C => cases hg; exact fun H' x => hq H' x
    | bk ρ => cases hg
    | ct ρ => cases hg
  · cases hg
/-- a weaker promise, another name for the function -/
theorem fnD.imp {k n : Nat} {f : Addr} {fd : FuncData} {ps : List Str} {CX : CXT} {g g' : List D → Option FO} (F : FnOk P w K mg base CX k f fd ps (spD K n g)) (h : ∀ ds o, g' ds = some o → g ds = some o) : FnOk P w K mg base CX k f fd ps (spD K n g') :=
  F.imp fun vs H Q E ⟨h1, ds, o, h2, h3, h4⟩ => ⟨h1, ds, o, h2, h ds o h3, h4⟩
end
end DL

set_option Elab.async false
set_option linter.all false
set_option maxRecDepth 100000
set_option maxHeartbeats 4000000
/-! Changes of owned lists. -/
namespace DL
open PySem PySem.Spec PyProof.Rows L2
open Evl (Ex)

def S.get : List Nat → S → Option S
  | [], s => some s
  | k :: p, .own xs => match xs[k]? with
    | some c => S.get p c
    | none => none
  | k :: p, .tp xs => match xs[k]? with
    | some c => S.get p c
    | none => none
  | _ :: _, .d _ => none
def S.put (n : S) : List Nat → S → S
  | [], _ => n
  | k :: p, .own xs => match xs[k]? with
    | some c => .own (xs.set k (S.put n p c))
    | none => .own xs
  | k :: p, .tp xs => match xs[k]? with
    | some c => .tp (xs.set k (S.put n p c))
    | none => .tp xs
  | _ :: _, .d x => .d x
def AtP (H : Hp) : List Nat → V → Addr → Prop
  | [], v, a => v = .ref a
  | k :: p, v, a => ∃ b vs w, v = .ref b ∧ (H b = some (.lst vs) ∨ H b = some (.tup vs)) ∧ vs[k]? = some w ∧ AtP H p w a
theorem AtP.mono {H H' : Hp} (e : Ex H H') : ∀ {p : List Nat} {v : V} {a : Addr}, AtP H p v a → AtP H' p v a
  | [], _, _, h => h
  | k :: p, _, _, ⟨b, vs, w, h1, h2, h3, h4⟩ => ⟨b, vs, w, h1, h2.imp (e _ _) (e _ _), h3, AtP.mono e h4⟩
theorem AtP.snoc {H : Hp} {k : Nat} {b : Addr} {vs : List V} : ∀ {p : List Nat} {v : V} {a : Addr}, AtP H p v a → (H a = some (.lst vs) ∨ H a = some (.tup vs)) → vs[k]? = some (.ref b) → AtP H (p ++ [k]) v b
  | [], _, _, h, h2, h3 => ⟨_, vs, _, h, h2, h3, rfl⟩
  | j :: p, _, _, ⟨c, ws, w, h1, h4, h5, h6⟩, h2, h3 => ⟨c, ws, w, h1, h4, h5, AtP.snoc h6 h2 h3⟩
section
variable {K : PySem.W.Frag} {H : Hp}
theorem RepL.get : ∀ {xs : List S} {vs : List V} {F : List Addr} {k : Nat} {c : S}, RepL K H xs vs F → xs[k]? = some c → ∃ w Fc, vs[k]? = some w ∧ Rep K H c w Fc ∧ ∀ b ∈ Fc, b ∈ F
  | _, _, _, _, _, .nil, e => by simp at e
  | _, _, _, 0, _, .cons h _ _, e => by
    simp at e; subst e; exact ⟨_, _, rfl, h, fun b m => List.mem_append_left _ m⟩
  | _, _, _, k + 1, c, .cons _ t _, e => by
    obtain ⟨w, Fc, h1, h2, h3⟩ := RepL.get (k := k) (c := c) t (by simpa using e)
    exact ⟨w, Fc, by simpa using h1, h2, fun b m => List.mem_append_right _ (h3 b m)⟩
theorem RepL.split : ∀ {xs : List S} {vs : List V} {F : List Addr} {k : Nat} {c : S}, RepL K H xs vs F → xs[k]? = some c → ∃ w Fc, vs[k]? = some w ∧ Rep K H c w Fc ∧ (∀ b ∈ Fc, b ∈ F) ∧
    ∀ (H' : Hp) (c' : S) (Fc' : List Addr), Rep K H' c' w Fc' → Ex (stb H) (stb H') → (∀ b ∈ F, b ∉ Fc → ∀ o, H b = some o → H' b = some o) → (∀ b ∈ Fc', b ∈ Fc ∨ b ∉ F) → ∃ F', RepL K H' (xs.set k c') vs F' ∧ ∀ b ∈ F', b ∈ F ∨ b ∈ Fc'
  | _, _, _, _, _, .nil, e => by simp at e
  | _, _, _, 0, _, .cons (F1 := F1) (F2 := F2) h t dj, e => by
    simp at e; subst e
    refine ⟨_, F1, rfl, h, fun b m => List.mem_append_left _ m, fun H' c' Fc' r es kp sub => ⟨Fc' ++ F2, .cons r (t.keep ⟨es, fun b m o e => kp b (List.mem_append_right _ m) (fun z => dj b z m) o e⟩) fun b m z => ?_, fun b m => ?_⟩⟩
    · rcases sub b m with m | m
      · exact dj b m z
      · exact m (List.mem_append_right _ z)
    · rcases List.mem_append.mp m with m | m
      · exact .inr m
      · exact .inl (List.mem_append_right _ m)
  | _, _, _, k + 1, c, .cons (F1 := F1) (F2 := F2) h t dj, e => by
    obtain ⟨w, Fc, h1, h2, h3, h4⟩ := RepL.split (k := k) (c := c) t (by simpa using e)
    refine ⟨w, Fc, by simpa using h1, h2, fun b m => List.mem_append_right _ (h3 b m), fun H' c' Fc' r es kp sub => ?_⟩
    obtain ⟨F', r', s'⟩ := h4 H' c' Fc' r es (fun b m n o e => kp b (List.mem_append_right _ m) n o e) fun b m => (sub b m).imp id fun n z => n (List.mem_append_right _ z)
    refine ⟨F1 ++ F', .cons (h.keep ⟨es, fun b m o e => kp b (List.mem_append_left _ m) (fun z => dj b m (h3 b z)) o e⟩) r' fun b m z => ?_, fun b m => ?_⟩
    · rcases s' b z with z | z
      · exact dj b m z
      · rcases sub b z with z | z
        · exact dj b m (h3 b z)
        · exact z (List.mem_append_left _ m)
    · rcases List.mem_append.mp m with m | m
      · exact .inl (List.mem_append_left _ m)
      · exact (s' b m).imp (List.mem_append_right _) id
theorem Rep.mut {a : Addr} {ss : List S} : ∀ {p : List Nat} {s : S} {v : V} {F : List Addr}, Rep K H s v F → AtP H p v a → S.get p s = some (.own ss) →
    ∃ vs Fa, H a = some (.lst vs) ∧ RepL K H ss vs Fa ∧ a ∈ F ∧ (∀ b ∈ Fa, b ∈ F) ∧ a ∉ Fa ∧
      ∀ (ss' : List S) (vs' : List V) (Fn : List Addr) (H' : Hp), H' a = some (.lst vs') → (∀ b, b ∈ F → b ≠ a → ∀ o, H b = some o → H' b = some o) → Ex (stb H) (stb H') → RepL K H' ss' vs' Fn → a ∉ Fn → (∀ b ∈ Fn, b ∈ Fa ∨ b ∉ F) →
        ∃ F', Rep K H' (S.put (.own ss') p s) v F' ∧ ∀ b ∈ F', b ∈ F ∨ b ∈ Fn
  | [], s, v, F, h, hp, hg => by
    have hp : v = .ref a := hp
    subst hp
    have hg : some s = some (.own ss) := hg
    cases hg
    cases h with
    | own h0 hL hn =>
      refine ⟨_, _, h0, hL, by simp, fun b m => List.mem_cons_of_mem _ m, hn, fun ss' vs' Fn H' ha kp es r n sub => ⟨a :: Fn, .own ha r n, fun b m => ?_⟩⟩
      rcases List.mem_cons.mp m with e | m
      · subst e; exact .inl (by simp)
      · exact .inr m
  | k :: p, .d x, v, F, h, hp, hg => by cases hg
  | k :: p, .own xs, v, F, h, hp, hg => by
    obtain ⟨b, vs0, w, rfl, hb, hk, hp⟩ := hp
    have hg : (match xs[k]? with | some c => S.get p c | none => none) = some (.own ss) := hg
    cases h with
    | @own _ vs1 _ F0 h0 hL hn =>
      have e1 : vs1 = vs0 := by
        rcases hb with z | z
        · rw [h0] at z; cases z; rfl
        · rw [h0] at z; cases z
      subst e1
      cases hc : xs[k]? with
      | none => rw [hc] at hg; cases hg
      | some c =>
        rw [hc] at hg
        obtain ⟨w', Fc, g1, g2, g3, g4⟩ := hL.split hc
        rw [hk] at g1; cases g1
        obtain ⟨vs, Fa, m1, m2, m3, m4, m5, m6⟩ := g2.mut hp hg
        have hab : a ≠ b := fun z => hn (z ▸ g3 a m3)
        refine ⟨vs, Fa, m1, m2, List.mem_cons_of_mem _ (g3 a m3), fun x m => List.mem_cons_of_mem _ (g3 x (m4 x m)), m5, fun ss' vs' Fn H' ha kp es r n sub => ?_⟩
        obtain ⟨F', r1, s1⟩ := m6 ss' vs' Fn H' ha (fun x m => kp x (List.mem_cons_of_mem _ (g3 x m))) es r n fun x m => (sub x m).imp id fun z y => z (List.mem_cons_of_mem _ (g3 x y))
        obtain ⟨F2, r2, s2⟩ := g4 H' _ F' r1 es (fun x m nm o e => kp x (List.mem_cons_of_mem _ m) (fun z => nm (z ▸ m3)) o e) fun x m => by
          rcases s1 x m with z | z
          · exact .inl z
          · rcases sub x z with z | z
            · exact .inl (m4 x z)
            · exact .inr fun y => z (List.mem_cons_of_mem _ y)
        have hput : S.put (.own ss') (k :: p) (.own xs) = .own (xs.set k (S.put (.own ss') p c)) := by
          show (match xs[k]? with | some c => S.own (xs.set k (S.put (.own ss') p c)) | none => S.own xs) = _
          rw [hc]
        rw [hput]
        refine ⟨b :: F2, .own (kp b (by simp) (Ne.symm hab) _ h0) r2 fun z => ?_, fun x m => ?_⟩
        · rcases s2 b z with z | z
          · exact hn z
          · rcases s1 b z with z | z
            · exact hn (g3 b z)
            · rcases sub b z with z | z
              · exact hn (g3 b (m4 b z))
              · exact z (by simp)
        · rcases List.mem_cons.mp m with e | m
          · subst e; exact .inl (by simp)
          · rcases s2 x m with z | z
            · exact .inl (List.mem_cons_of_mem _ z)
            · exact (s1 x z).imp (fun y => List.mem_cons_of_mem _ (g3 x y)) id
  | k :: p, .tp xs, v, F, h, hp, hg => by
    obtain ⟨b, vs0, w, rfl, hb, hk, hp⟩ := hp
    have hg : (match xs[k]? with | some c => S.get p c | none => none) = some (.own ss) := hg
    cases h with
    | @tp _ vs1 _ _ h0 hL =>
      have e1 : vs1 = vs0 := by
        rcases hb with z | z
        · rw [h0] at z; cases z
        · rw [h0] at z; cases z; rfl
      subst e1
      cases hc : xs[k]? with
      | none => rw [hc] at hg; cases hg
      | some c =>
        rw [hc] at hg
        obtain ⟨w', Fc, g1, g2, g3, g4⟩ := hL.split hc
        rw [hk] at g1; cases g1
        obtain ⟨vs, Fa, m1, m2, m3, m4, m5, m6⟩ := g2.mut hp hg
        refine ⟨vs, Fa, m1, m2, g3 a m3, fun x m => g3 x (m4 x m), m5, fun ss' vs' Fn H' ha kp es r n sub => ?_⟩
        obtain ⟨F', r1, s1⟩ := m6 ss' vs' Fn H' ha (fun x m => kp x (g3 x m)) es r n fun x m => (sub x m).imp id fun z y => z (g3 x y)
        obtain ⟨F2, r2, s2⟩ := g4 H' _ F' r1 es (fun x m nm o e => kp x m (fun z => nm (z ▸ m3)) o e) fun x m => by
          rcases s1 x m with z | z
          · exact .inl z
          · exact (sub x z).imp (m4 x) id
        have hput : S.put (.own ss') (k :: p) (.tp xs) = .tp (xs.set k (S.put (.own ss') p c)) := by
          show (match xs[k]? with | some c => S.tp (xs.set k (S.put (.own ss') p c)) | none => S.tp xs) = _
          rw [hc]
        rw [hput]
        refine ⟨F2, .tp (stb_ex _ _ (es _ _ (stb_tup h0))) r2, fun x m => ?_⟩
        rcases s2 x m with z | z
        · exact .inl z
        · exact (s1 x z).imp (g3 x) id
end
def killVw : Env → Env := fun ρ => ρ.map fun s => match s with
  | .vw _ => .dead
  | s => s
/-- an owned list inside slot i is changed -/
theorem RelF.mutate {K : PySem.W.Frag} {G H0 H : Hp} {σ : L2.St} {ρ : Env} {fp : Nat → List Addr} {i : Nat} {s : S} {v : V} {p : List Nat} {a : Addr} {ss : List S} (R : RelF K G H0 σ ρ fp) (e : Ex H0 H) (hs : ρ[i]? = some (.tr s)) (hv : σ[i]? = some (some v)) (hp : AtP H p v a) (hg : S.get p s = some (.own ss)) :
    ∃ vs Fa, H a = some (.lst vs) ∧ RepL K H ss vs Fa ∧ a ∉ Fa ∧ (∀ b ∈ Fa, b ∈ fp i) ∧ a ∈ fp i ∧
      ∀ (ss' : List S) (vs' : List V) (Fn : List Addr), RepL K (upd H a (.lst vs')) ss' vs' Fn → a ∉ Fn → (∀ b ∈ Fn, b ∈ Fa ∨ H0 b = none) →
        ∃ fp', RelF K G (upd H a (.lst vs')) σ ((killVw ρ).set i (.tr (S.put (.own ss') p s))) fp' := by
  have q := R.sl i _ hs
  obtain ⟨v', hv', hr⟩ := q
  rw [hv] at hv'; cases hv'
  obtain ⟨vs, Fa, m1, m2, m3, m4, m5, m6⟩ := (hr.mono e).mut hp hg
  refine ⟨vs, Fa, m1, m2, m5, m4, m3, fun ss' vs' Fn r n sub => ?_⟩
  have es : Ex (stb H) (stb (upd H a (.lst vs'))) := stb_upd m1
  have sub2 : ∀ b ∈ Fn, b ∈ Fa ∨ b ∉ fp i := fun b m => (sub b m).imp id fun z y => by
    obtain ⟨xs, h⟩ := R.ls i b y; rw [z] at h; cases h
  obtain ⟨F', r1, s1⟩ := m6 ss' vs' Fn _ upd_same (fun b _ nb o h => by rw [upd_ne nb]; exact h) es r n sub2
  have hF' : ∀ b ∈ F', b ∈ fp i ∨ H0 b = none := fun b m => by
    rcases s1 b m with z | z
    · exact .inl z
    · exact (sub b z).imp (m4 b) id
  have hni : ∀ j, j ≠ i → a ∉ fp j := fun j hj m => hj (R.dj j i a m m3)
  have hx : Ex (hid H0 fp) (hid (upd H a (.lst vs')) (fset fp i F')) := fun b o h => by
    obtain ⟨n1, h⟩ := hid_some h
    rw [hid_at]
    · rw [upd_ne (by rintro rfl; exact n1 i m3)]; exact e _ _ h
    · intro j m
      by_cases hj : j = i
      · subst hj; rw [fset_self] at m
        rcases hF' b m with z | z
        · exact n1 j z
        · rw [h] at z; cases z
      · rw [fset_ne hj] at m; exact n1 j m
  refine ⟨fset fp i F', ?_, fun b o h => ?_, fun j k b x y => ?_, fun j b x => ?_, fun j b x => ?_, fun j t h => ?_⟩
  · simpa [killVw] using R.len
  · rw [upd_ne]
    · exact e _ _ (R.ex _ _ h)
    · rintro rfl; rw [R.new i b m3] at h; cases h
  · by_cases hj : j = i
    · by_cases hk : k = i
      · rw [hj, hk]
      · subst hj; rw [fset_self] at x; rw [fset_ne hk] at y
        rcases hF' b x with z | z
        · exact R.dj _ _ b z y
        · obtain ⟨xs, h⟩ := R.ls k b y; rw [z] at h; cases h
    · rw [fset_ne hj] at x
      by_cases hk : k = i
      · subst hk; rw [fset_self] at y
        rcases hF' b y with z | z
        · exact R.dj _ _ b x z
        · obtain ⟨xs, h⟩ := R.ls j b x; rw [z] at h; cases h
      · rw [fset_ne hk] at y; exact R.dj _ _ b x y
  · by_cases hj : j = i
    · subst hj; rw [fset_self] at x
      rcases hF' b x with z | z
      · exact R.new j b z
      · exact Evl.fresh_back R.ex z
    · rw [fset_ne hj] at x; exact R.new j b x
  · by_cases hj : j = i
    · subst hj; rw [fset_self] at x; exact r1.ls b x
    · rw [fset_ne hj] at x
      obtain ⟨xs, h⟩ := R.ls j b x
      refine ⟨xs, ?_⟩
      rw [upd_ne (by rintro rfl; exact hni j hj x)]; exact e _ _ h
  · by_cases hj : j = i
    · subst hj
      have hl : j < (killVw ρ).length := by
        have := (List.getElem?_eq_some_iff.mp h).1
        simpa using this
      rw [List.getElem?_set_self hl] at h
      cases h
      rw [fset_self]
      exact ⟨v, hv, r1⟩
    · rw [List.getElem?_set_ne (Ne.symm hj)] at h
      rw [fset_ne hj]
      unfold killVw at h
      rw [List.getElem?_map, Option.map_eq_some_iff] at h
      obtain ⟨t0, h0, h1⟩ := h
      have q := R.sl j t0 h0
      cases t0 with
      | dead => cases h1; exact q
      | ad a => cases h1; exact q
      | dc m =>
        cases h1
        obtain ⟨b, q1, q2, q3⟩ := q
        exact ⟨b, q1, q2, by rw [upd_ne (fun z => hni j hj (by rw [q2, ← z]; exact List.mem_singleton_self _))]; exact e _ _ q3⟩
      | sh x => cases h1; obtain ⟨q0, w, q1, q2⟩ := q; exact ⟨q0, w, q1, q2.mono hx⟩
      | fz w x => cases h1; obtain ⟨q0, q1, q2⟩ := q; exact ⟨q0, q1, q2.mono hx⟩
      | vw x => cases h1; exact q.1
      | ow c u =>
        cases h1
        exact ⟨q.1, (q.2.mono e).keep ⟨es, fun b m o h => by rw [upd_ne (by rintro rfl; exact hni j hj m)]; exact h⟩⟩
      | tr u =>
        cases h1
        obtain ⟨w, q1, q2⟩ := q
        exact ⟨w, q1, (q2.mono e).keep ⟨es, fun b m o h => by rw [upd_ne (by rintro rfl; exact hni j hj m)]; exact h⟩⟩

/-! ### where a change is made: a name, an item of such -/
abbrev MP := Env → Option (Nat × List Nat)
def SimP (K : PySem.W.Frag) (t : TE) (mp : MP) : Prop := ∀ G H σ ρ fp i p (Q : VK), RelF K G H σ ρ fp → mp ρ = some (i, p) → (∀ v a H' s ss, ρ[i]? = some (.tr s) → S.get p s = some (.own ss) ∨ S.get p s = some (.tp ss) → σ[i]? = some (some v) → Ex H H' → AtP H' p v a → Q (.ref a) H') → t σ H Q
structure XP (X : Cx) (e : Expr) (mp : MP) : Prop where
  sim : ∃ t, PE X e t ∧ SimP X.K t mp
def mpV (i : Nat) : MP := fun ρ => match ρ[i]? with
  | some (.tr (.own _)) => some (i, [])
  | some (.tr (.tp _)) => some (i, [])
  | _ => none
section
variable {X : Cx} {W : XK} {o e b : Expr} {ma mb : ME} {mp : MP} {pos apos cpos : Pos}
theorem xp_v (i : Nat) {x : Str} {pos : Pos} (hN : X.N[i]? = some x := by rfl) (hv : Vis X.env.scope x := by first | exact Or.inl rfl | exact Or.inr (Or.inl rfl) | exact Or.inr (Or.inr rfl)) (hd : (x == ("__debug__" : Str)) = false := by decide)
    (hcd : (x == ("__classdict__" : Str)) = false := by decide) : XP X (.Name x pos) (mpV i) := by
  refine ⟨_, pe_var hN hv hd hcd, fun G H σ ρ fp j p Q R hm q => ?_⟩
  unfold mpV at hm
  split at hm
  · rename_i ss hs; cases hm
    obtain ⟨v, h1, h2⟩ := R.sl i _ hs
    generalize fp i = F at h2
    cases h2 with
    | own h0 hL hn => exact ⟨_, h1, q _ _ H _ ss hs (.inl rfl) h1 (Evl.Ex.refl H) rfl⟩
  · rename_i ss hs; cases hm
    obtain ⟨v, h1, h2⟩ := R.sl i _ hs
    generalize fp i = F at h2
    cases h2 with
    | tp h0 hL => exact ⟨_, h1, q _ _ H _ ss hs (.inr rfl) h1 (Evl.Ex.refl H) rfl⟩
  · cases hm
/-- the owned node at a place, its children -/
def nodeAt (ρ : Env) (i : Nat) (p : List Nat) : Option (List S) := match ρ[i]? with
  | some (.tr s) => match S.get p s with
    | some (.own ss) => some ss
    | some (.tp ss) => some ss
    | _ => none
  | _ => none
def isNode : S → Bool
  | .d _ => false
  | _ => true
def mpIx (mp : MP) (mb : ME) : MP := fun ρ => match mp ρ, mb ρ with
  | some (i, p), some r => match nodeAt ρ i p, r.data with
    | some ss, .int j => match ixN ss.length j with
      | some k => match ss[k]? with
        | some c => if isNode c = true then some (i, p ++ [k]) else none
        | none => none
      | none => none
    | _, _ => none
  | _, _ => none
theorem S.get_snoc {k : Nat} {c : S} : ∀ {p : List Nat} {s : S} {ss : List S}, (S.get p s = some (.own ss) ∨ S.get p s = some (.tp ss)) → ss[k]? = some c → S.get (p ++ [k]) s = some c
  | [], s, ss, h, hk => by
    rcases h with h | h
    · have h : some s = some (.own ss) := h
      cases h
      show (match ss[k]? with | some c => S.get [] c | none => none) = _
      rw [hk]; rfl
    · have h : some s = some (.tp ss) := h
      cases h
      show (match ss[k]? with | some c => S.get [] c | none => none) = _
      rw [hk]; rfl
  | j :: p, .d x, ss, h, hk => by rcases h with h | h <;> cases h
  | j :: p, .own xs, ss, h, hk => by
    show (match xs[j]? with | some c => S.get (p ++ [k]) c | none => none) = _
    have h : (match xs[j]? with | some c => S.get p c | none => none) = some (.own ss) ∨ (match xs[j]? with | some c => S.get p c | none => none) = some (.tp ss) := h
    cases hc : xs[j]? with
    | none => rw [hc] at h; rcases h with h | h <;> cases h
    | some d => rw [hc] at h; exact S.get_snoc h hk
  | j :: p, .tp xs, ss, h, hk => by
    show (match xs[j]? with | some c => S.get (p ++ [k]) c | none => none) = _
    have h : (match xs[j]? with | some c => S.get p c | none => none) = some (.own ss) ∨ (match xs[j]? with | some c => S.get p c | none => none) = some (.tp ss) := h
    cases hc : xs[j]? with
    | none => rw [hc] at h; rcases h with h | h <;> cases h
    | some d => rw [hc] at h; exact S.get_snoc h hk
theorem Rep.node {K : PySem.W.Frag} {H : Hp} {a : Addr} {ss : List S} : ∀ {p : List Nat} {s : S} {v : V} {F : List Addr}, Rep K H s v F → AtP H p v a → (S.get p s = some (.own ss) ∨ S.get p s = some (.tp ss)) → ∃ vs Fa, (H a = some (.lst vs) ∨ H a = some (.tup vs)) ∧ RepL K H ss vs Fa
  | [], s, v, F, h, hp, hg => by
    have hp : v = .ref a := hp
    subst hp
    rcases hg with hg | hg
    · have hg : some s = some (.own ss) := hg
      cases hg
      cases h with
      | own h0 hL hn => exact ⟨_, _, .inl h0, hL⟩
    · have hg : some s = some (.tp ss) := hg
      cases hg
      cases h with
      | tp h0 hL => exact ⟨_, _, .inr h0, hL⟩
  | k :: p, .d x, v, F, h, hp, hg => by rcases hg with hg | hg <;> cases hg
  | k :: p, .own xs, v, F, h, hp, hg => by
    obtain ⟨b, vs0, w, rfl, hb, hk, hp⟩ := hp
    have hg : (match xs[k]? with | some c => S.get p c | none => none) = some (.own ss) ∨ (match xs[k]? with | some c => S.get p c | none => none) = some (.tp ss) := hg
    cases h with
    | @own _ vs1 _ F0 h0 hL hn =>
      have e1 : vs1 = vs0 := by
        rcases hb with z | z
        · rw [h0] at z; cases z; rfl
        · rw [h0] at z; cases z
      subst e1
      cases hc : xs[k]? with
      | none => rw [hc] at hg; rcases hg with hg | hg <;> cases hg
      | some c =>
        rw [hc] at hg
        obtain ⟨w', Fc, g1, g2, _⟩ := hL.get hc
        rw [hk] at g1; cases g1
        exact g2.node hp hg
  | k :: p, .tp xs, v, F, h, hp, hg => by
    obtain ⟨b, vs0, w, rfl, hb, hk, hp⟩ := hp
    have hg : (match xs[k]? with | some c => S.get p c | none => none) = some (.own ss) ∨ (match xs[k]? with | some c => S.get p c | none => none) = some (.tp ss) := hg
    cases h with
    | @tp _ vs1 _ _ h0 hL =>
      have e1 : vs1 = vs0 := by
        rcases hb with z | z
        · rw [h0] at z; cases z
        · rw [h0] at z; cases z; rfl
      subst e1
      cases hc : xs[k]? with
      | none => rw [hc] at hg; rcases hg with hg | hg <;> cases hg
      | some c =>
        rw [hc] at hg
        obtain ⟨w', Fc, g1, g2, _⟩ := hL.get hc
        rw [hk] at g1; cases g1
        exact g2.node hp hg
theorem nodeAt_some {ρ : Env} {i : Nat} {p : List Nat} {ss : List S} (h : nodeAt ρ i p = some ss) : ∃ s, ρ[i]? = some (.tr s) ∧ (S.get p s = some (.own ss) ∨ S.get p s = some (.tp ss)) := by
  unfold nodeAt at h
  split at h
  · rename_i s e1
    split at h
    · rename_i xs e2; cases h; exact ⟨s, e1, .inl e2⟩
    · rename_i xs e2; cases h; exact ⟨s, e1, .inr e2⟩
    · cases h
  · cases h
theorem isNode_get {c : S} (h : isNode c = true) : ∃ ss, c = .own ss ∨ c = .tp ss := by
  cases c with
  | d x => cases h
  | own ss => exact ⟨ss, .inl rfl⟩
  | tp ss => exact ⟨ss, .inr rfl⟩
theorem xp_ix (ho : XP X o mp) (hb : XE X b mb) (hs : PlainIx b := by exact fun _ _ => rfl) : XP X (.Subscript o b pos) (mpIx mp mb) := by
  obtain ⟨t, pt, st⟩ := ho
  obtain ⟨tb, pb, sb⟩ := hb
  refine ⟨_, pe_ix ix_seq pt pb hs, fun G H σ ρ fp i p Q R hm q => ?_⟩
  unfold mpIx at hm
  split at hm
  rotate_left
  · cases hm
  rename_i i0 p0 r e1 e2
  split at hm
  rotate_left
  · cases hm
  rename_i ss j e3 e4
  split at hm
  rotate_left
  · cases hm
  rename_i k e5
  split at hm
  rotate_left
  · cases hm
  rename_i c e6
  split at hm
  rotate_left
  · cases hm
  rename_i e7
  cases hm
  obtain ⟨s, hs1, hs2⟩ := nodeAt_some e3
  refine st G H σ ρ fp i p0 _ R e1 fun v a H1 s' ss' g1 g2 g3 x1 at1 => ?_
  rw [hs1] at g1; cases g1
  refine sb G H1 σ ρ fp r _ (R.grow x1) e2 fun w F H2 x2 o2 => ?_
  have hw := o2.data; rw [e4] at hw; cases hw
  have R2 := (R.grow x1).grow x2
  obtain ⟨v', h1, h2⟩ := R2.sl i _ hs1
  rw [g3] at h1; cases h1
  have at2 := at1.mono x2
  obtain ⟨vs, Fa, ha, hL⟩ := h2.node at2 hs2
  obtain ⟨w, Fc, hk, hc, _⟩ := hL.get e6
  obtain ⟨cs, hcs⟩ := isNode_get e7
  have hat : atI vs j = some w := by
    unfold atI
    rw [← hL.len, e5]
    exact hk
  obtain ⟨b', rfl⟩ : ∃ b', w = .ref b' := by
    rcases hcs with rfl | rfl
    · cases hc; exact ⟨_, rfl⟩
    · cases hc; exact ⟨_, rfl⟩
  have fin := q _ b' H2 s cs hs1 (by rw [S.get_snoc hs2 e6]; exact hcs.imp (congrArg some) (congrArg some)) g3 (x1.trans x2) (at2.snoc ha hk)
  rcases ha with ha | ha
  · exact .inl ⟨_, _, _, _, rfl, rfl, SqL.of ha, hat, fin⟩
  · exact .inr (.inl ⟨_, _, _, _, rfl, rfl, .inl (.inl ha), hat, fin⟩)
/-- xs.append(e) -/
def mAppend (mp : MP) (me : ME) : MS := fun ρ => match mp ρ, me ρ with
  | some (i, p), some r => match ρ[i]?, r.tree with
    | some (.tr s), some t => match S.get p s with
      | some (.own ss) => if ss.length < 100000 then some (.nx ((killVw ρ).set i (.tr (S.put (.own (ss ++ [t])) p s)))) else none
      | _ => none
    | _, _ => none
  | _, _ => none
theorem RepL.snoc {K : PySem.W.Frag} {H : Hp} {ss : List S} {vs : List V} {F Ft : List Addr} {t : S} {w : V} (h : RepL K H ss vs F) (h2 : Rep K H t w Ft) (dj : ∀ a, a ∈ F → a ∉ Ft) : RepL K H (ss ++ [t]) (vs ++ [w]) (F ++ (Ft ++ [])) :=
  h.append (.cons h2 .nil fun _ _ m => by cases m) fun a m z => dj a m (by simpa using z)
theorem xs_append (ho : XP X o mp) (he : XE X e ma)
    (hbase : attributeBase o "append" X.env (eval o X.env) = eval o X.env := by rfl)
    (hfew : ((backTo cpos (starEach (e :: []) X.env)).all (fun x => !x.1) && (backToKw cpos (keywordEach [] X.env)).all (fun x => x.1.isSome)
      && decide ((e :: ([] : List Expr)).length + ([] : List Keyword).length + (if ([] : List Keyword).isEmpty then 0 else 1) < 30)) = true := by rfl)
    (hline : (apos.endLine == cpos.line) = true := by rfl) (hs : starEach (e :: []) X.env = (false, eval e X.env) :: starEach [] X.env := by rfl) (hplain : (backTo cpos (starEach [] X.env)).any (·.1) = false := by rfl)
    (hsw : swapsWith (.Call (.Attribute o "append" apos) [e] [] cpos) none pos.line X.env = pure false := by rfl) : XS X W (.Expr (.Call (.Attribute o "append" apos) [e] [] cpos) pos) (mAppend mp ma) := by
  obtain ⟨to, po, so⟩ := ho
  obtain ⟨te, pe, se⟩ := he
  refine ⟨_, ps_expr (pe_bm PySem.F.plainAttrs_list PySem.F.slot_list_append PySem.F.type_list_append mt_append po (pa_cons pe pa_nil hs) hbase hfew hline hs hplain) hsw, fun G H σ ρ fp oo D R hm q => ?_⟩
  unfold mAppend at hm
  split at hm
  rotate_left
  · cases hm
  rename_i i p r e1 e2
  split at hm
  rotate_left
  · cases hm
  rename_i s t e3 e4
  split at hm
  rotate_left
  · cases hm
  rename_i ss e5
  split at hm
  rotate_left
  · cases hm
  rename_i hl
  cases hm
  refine so G H σ ρ fp i p _ R e1 fun v a H1 s' ss' g1 g2 g3 x1 at1 => ?_
  rw [e3] at g1; cases g1
  have R1 := R.grow x1
  obtain ⟨v', h1, h2⟩ := R1.sl i _ e3
  rw [g3] at h1; cases h1
  obtain ⟨vs, Fa, ha, hL⟩ := h2.node at1 (.inl e5)
  obtain ⟨vs1, Fa1, ha1, hL1, _⟩ := h2.mut at1 e5
  refine ⟨.inl ⟨rfl, _, SqL.of ha1⟩, ?_⟩
  refine se G H1 σ ρ fp r _ R1 e2 fun w F H2 x2 o2 => ?_
  obtain ⟨vs2, Fa2, ha2, hL2, hn2, hsub2, hai, hmut⟩ := R1.mutate x2 e3 g3 (at1.mono x2) e5
  refine ⟨a, vs2, w, rfl, rfl, ha2, ?_, ?_⟩
  · rw [← hL2.len]; exact Evl.sz_lt hl
  · have hT := o2.tree e4
    have hdj : ∀ b, b ∈ Fa2 → b ∉ F := fun b m z => by
      obtain ⟨xs, hb⟩ := R1.ls i b (hsub2 b m)
      rw [o2.fresh b z] at hb; cases hb
    have haF : a ∉ F := fun z => by
      obtain ⟨xs, hb⟩ := R1.ls i a hai
      rw [o2.fresh a z] at hb; cases hb
    have es : Ex (stb H2) (stb (upd H2 a (.lst (vs2 ++ [w])))) := stb_upd ha2
    have r1 : RepL X.K (upd H2 a (.lst (vs2 ++ [w]))) (ss ++ [t]) (vs2 ++ [w]) (Fa2 ++ (F ++ [])) :=
      (hL2.keep ⟨es, fun b m u h => by rw [upd_ne (by rintro rfl; exact hn2 m)]; exact h⟩).snoc (hT.keep ⟨es, fun b m u h => by rw [upd_ne (by rintro rfl; exact haF m)]; exact h⟩) hdj
    obtain ⟨fp', R'⟩ := hmut _ _ _ r1 (fun z => by
      rcases List.mem_append.mp z with z | z
      · exact hn2 z
      · exact haF (by simpa using z)) (fun b m => by
      rcases List.mem_append.mp m with m | m
      · exact .inl m
      · exact .inr (o2.fresh b (by simpa using m)))
    exact q _ _ fp' R'
/-- o[i] = e -/
def mSetIx (mp : MP) (mb me : ME) : MS := fun ρ => match mp ρ, mb ρ, me ρ with
  | some (i, p), some rb, some r => match ρ[i]?, rb.data, r.tree with
    | some (.tr s), .int j, some t => match S.get p s with
      | some (.own ss) => match ixN ss.length j with
        | some k => some (.nx ((killVw ρ).set i (.tr (S.put (.own (ss.set k t)) p s))))
        | none => none
      | _ => none
    | _, _, _ => none
  | _, _, _ => none
theorem RepL.setAt {K : PySem.W.Frag} {H : Hp} {t : S} {w : V} {Ft : List Addr} (h2 : Rep K H t w Ft) : ∀ {ss : List S} {vs : List V} {F : List Addr} {k : Nat}, RepL K H ss vs F → (∀ a, a ∈ F → a ∉ Ft) → ∃ F', RepL K H (ss.set k t) (vs.set k w) F' ∧ ∀ b ∈ F', b ∈ F ∨ b ∈ Ft
  | _, _, _, _, .nil, _ => ⟨[], .nil, fun b m => by cases m⟩
  | _, _, _, 0, .cons (F1 := F1) (F2 := F2) h t dj, d => ⟨Ft ++ F2, .cons h2 t fun b m z => d b (List.mem_append_right _ z) m, fun b m => by
    rcases List.mem_append.mp m with m | m
    · exact .inr m
    · exact .inl (List.mem_append_right _ m)⟩
  | _, _, _, k + 1, .cons (F1 := F1) (F2 := F2) h t dj, d => by
    obtain ⟨F', r, s⟩ := RepL.setAt h2 (k := k) t fun a m => d a (List.mem_append_right _ m)
    refine ⟨F1 ++ F', .cons h r fun b m z => ?_, fun b m => ?_⟩
    · rcases s b z with z | z
      · exact dj b m z
      · exact d b (List.mem_append_left _ m) z
    · rcases List.mem_append.mp m with m | m
      · exact .inl (List.mem_append_left _ m)
      · exact (s b m).imp (List.mem_append_right _) id
theorem xs_setIx (he : XE X e ma) (ho : XP X o mp) (hb : XE X b mb)
    (ha : ∀ v, assign (.Subscript o b apos) X.env v = (do
      let ov ← holding [v] (eval o X.env)
      let iv ← holding [v, ov] (eval b X.env)
      standAt apos
      holding [v, ov, iv] (setItem ov iv v)
      release [v, ov, iv] []) := by intro _; rfl)
    (hs : swapsWithSole [.Subscript o b apos] e pos.line X.env = pure false := by rfl) (hw : swappedStores [.Subscript o b apos] e X.env = pure none := by rfl)
    (h1 : (assignEach [.Subscript o b apos] X.env).map (·.2) = [assign (.Subscript o b apos) X.env] := by rfl) : XS X W (.Assign [.Subscript o b apos] e pos) (mSetIx mp mb ma) := by
  obtain ⟨to, po, so⟩ := ho
  obtain ⟨te, pe, se⟩ := he
  obtain ⟨tb, pb, sb⟩ := hb
  refine ⟨_, ps_asg pe (pg_sub po pb set_list ha) hs hw h1, fun G H σ ρ fp oo D R hm q => ?_⟩
  unfold mSetIx at hm
  split at hm
  rotate_left
  · cases hm
  rename_i i p rb r e1 e2 e3
  split at hm
  rotate_left
  · cases hm
  rename_i s j t e4 e5 e6
  split at hm
  rotate_left
  · cases hm
  rename_i ss e7
  split at hm
  rotate_left
  · cases hm
  rename_i k e8
  cases hm
  refine se G H σ ρ fp r _ R e3 fun w F H1 x1 o1 => ?_
  have R1 := R.grow x1
  refine so G H1 σ ρ fp i p _ R1 e1 fun v a H2 s' ss' g1 g2 g3 x2 at2 => ?_
  rw [e4] at g1; cases g1
  have R2 := R1.grow x2
  refine sb G H2 σ ρ fp rb _ R2 e2 fun y Fy H3 x3 o3 => ?_
  have hy := o3.data; rw [e5] at hy; cases hy
  obtain ⟨vs2, Fa2, ha2, hL2, hn2, hsub2, hai, hmut⟩ := R.mutate ((x1.trans x2).trans x3) e4 g3 (at2.mono x3) e7
  refine ⟨a, vs2, j, k, rfl, rfl, ha2, ?_, ?_⟩
  · rw [← hL2.len]; exact e8
  · have hT := ((o1.tree e6).mono x2).mono x3
    have hdj : ∀ b, b ∈ Fa2 → b ∉ F := fun b m z => by
      obtain ⟨xs, hb⟩ := R.ls i b (hsub2 b m)
      rw [o1.fresh b z] at hb; cases hb
    have haF : a ∉ F := fun z => by
      obtain ⟨xs, hb⟩ := R.ls i a hai
      rw [o1.fresh a z] at hb; cases hb
    have es : Ex (stb H3) (stb (upd H3 a (.lst (vs2.set k w)))) := stb_upd ha2
    obtain ⟨F', r1, s1⟩ := RepL.setAt (k := k) (hT.keep (H' := upd H3 a (.lst (vs2.set k w))) ⟨es, fun b m u h => by rw [upd_ne (by rintro rfl; exact haF m)]; exact h⟩) (hL2.keep ⟨es, fun b m u h => by rw [upd_ne (by rintro rfl; exact hn2 m)]; exact h⟩) hdj
    obtain ⟨fp', R'⟩ := hmut _ _ _ r1 (fun z => by
      rcases s1 a z with z | z
      · exact hn2 z
      · exact haF z) (fun b m => (s1 b m).imp id (o1.fresh b))
    exact q _ _ fp' R'
end
end DL

set_option Elab.async false
set_option linter.all false
set_option maxRecDepth 100000
set_option maxHeartbeats 4000000
/-! zip(*rows): any number of lists of one length; the target a name. -/
namespace ZN
open PySem PySem.Spec PyProof.Rows
open Sem (wp)
abbrev IsZ (h : Heap) (z TI TO : Addr) (f0 f1 : Value) : Prop :=
  h.get? z = some { cls := .type "zip", dict := none, data := .fields #[f0, f1, .bool false, .ref TI, .ref TO], slots := #[] }
abbrev IsTu (h : Heap) (T : Addr) (xs : List Value) : Prop := h.get? T = some { cls := .type "tuple", data := .seq xs.toArray }
structure Ap (z TI TO : Addr) (its ls : List Addr) : Prop where
  TIz : TI ≠ z
  TOz : TO ≠ z
  TITO : TI ≠ TO
  zi : z ∉ its
  TIi : TI ∉ its
  TOi : TO ∉ its
  nd : its.Nodup
  ll : ∀ l ∈ ls, l ≠ z ∧ l ≠ TO ∧ l ∉ its
/-- the iterators at their places, over these lists -/
def Good (its ls : List Addr) (cols : List (Array Value)) (pos : Nat → Nat) (h : Heap) : Prop :=
  ∀ j p, its[j]? = some p → ∃ l xs, ls[j]? = some l ∧ cols[j]? = some xs ∧ h.IsListIter p l (pos j) ∧ h.IsList l xs
theorem Good.at {its ls : List Addr} {cols : List (Array Value)} {pos : Nat → Nat} {h h' : Heap} (g : Good its ls cols pos h) (k : ∀ c o, c ∈ its ∨ c ∈ ls → h.get? c = some o → h'.get? c = some o) : Good its ls cols pos h' := fun j p e => by
  obtain ⟨l, xs, h1, h2, h3, ⟨o, ho, r⟩⟩ := g j p e
  exact ⟨l, xs, h1, h2, h3.at fun o q => k p o (.inl (List.mem_of_getElem? e)) q, ⟨o, k l o (.inr (List.mem_of_getElem? h1)) ho, r⟩⟩
def posK (k i : Nat) : Nat → Nat := fun j => if j < k then i + 1 else i
theorem posK_succ {k i j : Nat} (h : j ≠ k) : posK (k + 1) i j = posK k i j := by
  unfold posK
  by_cases h1 : j < k
  · rw [if_pos h1, if_pos (by omega)]
  · rw [if_neg h1, if_neg (by omega)]
theorem posK_self {k i : Nat} : posK (k + 1) i k = i + 1 := by unfold posK; rw [if_pos (by omega)]
theorem posK_at {k i : Nat} : posK k i k = i := by unfold posK; rw [if_neg (by omega)]
/-- one iterator is drawn -/
theorem Good.draw {its ls : List Addr} {cols : List (Array Value)} {i k : Nat} {h h' : Heap} {p l : Addr} {z TI TO : Addr} (D : Ap z TI TO its ls) (g : Good its ls cols (posK k i) h) (e : its[k]? = some p) (hl : ls[k]? = some l) (it : h'.IsListIter p l (i + 1)) (sb : ∀ c o, c ≠ p → h.get? c = some o → h'.get? c = some o) : Good its ls cols (posK (k + 1) i) h' := fun j q ej => by
  obtain ⟨l', xs, h1, h2, h3, ⟨o, ho, r⟩⟩ := g j q ej
  have hlp : l' ≠ p := fun z => (D.ll l' (List.mem_of_getElem? h1)).2.2 (z ▸ List.mem_of_getElem? e)
  refine ⟨l', xs, h1, h2, ?_, ⟨o, sb _ _ hlp ho, r⟩⟩
  by_cases hj : j = k
  · subst hj
    rw [e] at ej; cases ej
    rw [hl] at h1; cases h1
    rw [posK_self]; exact it
  · have hne : q ≠ p := fun z => by
      subst z
      obtain ⟨a1, b1⟩ := List.getElem?_eq_some_iff.mp e
      obtain ⟨a2, b2⟩ := List.getElem?_eq_some_iff.mp ej
      exact hj ((List.getElem_inj D.nd).mp (b2.trans b1.symm))
    rw [posK_succ hj]
    exact h3.at fun o q' => sb _ o hne q'
/-- the items of a turn -/
def Row (cols : List (Array Value)) (i : Nat) (us : List Value) : Prop := us.length = cols.length ∧ ∀ (j : Nat) (xs : Array Value) (u : Value), cols[j]? = some xs → us[j]? = some u → xs[i]? = some u
section
variable {prog : Program} {w : World} {A : Around} {E : Value → Shared → Prop} {s : Shared}
theorem wpAny_alive {a : Addr} {Q : Option Obj → Shared → Prop} (h : Q (s.heap.get? a) s) : wpAny (model prog w) A (loadIfAlive a) Q E s := fun Γ p hΓ => by
  unfold loadIfAlive
  rw [Sem.wp_loadIfAlive]
  exact (wpAny_pure (M := model prog w) (A := A) (E := E) h) Γ p hΓ
abbrev Chg (z TO : Addr) (its : List Addr) (h h' : Heap) : Prop := ∀ c o, c ≠ z → c ≠ TO → c ∉ its → h.get? c = some o → h'.get? c = some o
theorem zipIdx_drop {α : Type} {xs : List α} {k : Nat} {x : α × Nat} {rest : List (α × Nat)} (h : x :: rest = xs.zipIdx.drop k) : xs[k]? = some x.1 ∧ x.2 = k ∧ rest = xs.zipIdx.drop (k + 1) := by
  have h1 : xs.zipIdx[k]? = some x := by
    have := congrArg List.head? h
    rw [List.head?_drop] at this
    exact this.symm
  rw [List.getElem?_zipIdx, Option.map_eq_some_iff] at h1
  obtain ⟨a, h2, h3⟩ := h1
  subst h3
  refine ⟨h2, by simp, ?_⟩
  have := congrArg List.tail h
  rw [List.tail_drop] at this
  exact this
theorem drop_cons {α : Type} {xs : List α} {k : Nat} {x : α} {rest : List α} (h : x :: rest = xs.drop k) : xs[k]? = some x ∧ rest = xs.drop (k + 1) := by
  have h1 : xs[k]? = some x := by
    have := congrArg List.head? h
    rw [List.head?_drop] at this
    exact this.symm
  have := congrArg List.tail h
  rw [List.tail_drop] at this
  exact ⟨h1, this⟩
theorem next_item {z TI TO : Addr} {its ls : List Addr} {cols : List (Array Value)} {kept us : List Value} {f0 f1 : Value} {i : Nat} {Q : Value → Shared → Prop} (D : Ap z TI TO its ls)
    (hf0 : f0 = .none ∨ ∃ T : Addr, f0 = rawInt T)
    (hz : IsZ s.heap z TI TO f0 f1) (hTI : IsTu s.heap TI (its.map Value.ref)) (hTO : IsTu s.heap TO kept) (hk : kept.length = its.length) (hne : its ≠ []) (hlen : its.length ≤ 100) (hc : cols.length = its.length)
    (hg : Good its ls cols (fun _ => i) s.heap) (hus : Row cols i us)
    (hQ : ∀ h' f0' f1' kept', (f0' = .none ∨ ∃ T : Addr, f0' = rawInt T) → IsZ h' z TI TO f0' f1' → IsTu h' TO kept' → kept'.length = its.length → Good its ls cols (fun _ => i + 1) h' → IsTu h' s.heap.objs.size us → h'.objs.size = s.heap.objs.size + 1 → Chg z TO its s.heap h' → Q (.ref s.heap.objs.size) { s with heap := h' }) :
    wpAny (model prog w) A (Builtin.«zip.__next__» ⟨[.ref z], []⟩) (fun fin s' => ∃ v, fin = .done (.ret v) ∧ Q v s') E s := by
  show wpAny _ _ (field (.ref z) 2 >>= _) _ _ _
  refine wpAny_bind (wpAny_field hz rfl (x := .bool false) rfl ?_)
  show wpAny _ _ (field (.ref z) 3 >>= _) _ _ _
  refine wpAny_bind (wpAny_field hz rfl (x := .ref TI) rfl ?_)
  refine wpAny_bind (wpAny_seqItems hTI rfl ?_)
  have he : (its.map Value.ref).toArray.isEmpty = false := by
    cases its with
    | nil => exact absurd rfl hne
    | cons a r => rfl
  simp only [he, Bool.false_eq_true, if_false]
  have hul : us.length = its.length := hus.1.trans hc
  have item : ∀ k p, its[k]? = some p → ∃ l xs u, ls[k]? = some l ∧ cols[k]? = some xs ∧ us[k]? = some u ∧ xs[i]? = some u := fun k p e => by
    obtain ⟨l, xs, h1, h2, _⟩ := hg k p e
    have hk : k < us.length := by
      have := (List.getElem?_eq_some_iff.mp e).1
      omega
    exact ⟨l, xs, us[k], h1, h2, List.getElem?_eq_getElem hk, hus.2 k xs _ h2 (List.getElem?_eq_getElem hk)⟩
  have init : Good its ls cols (posK 0 i) s.heap := by
    have e : posK 0 i = fun _ => i := by funext j; unfold posK; rw [if_neg (by omega)]
    rw [e]; exact hg
  have fin1 : ∀ h, Good its ls cols (posK its.length i) h → Good its ls cols (fun _ => i + 1) h := fun h g j p e => by
    obtain ⟨l, xs, h1, h2, h3, h4⟩ := g j p e
    have hj := (List.getElem?_eq_some_iff.mp e).1
    have : posK its.length i j = i + 1 := by unfold posK; rw [if_pos hj]
    rw [this] at h3
    exact ⟨l, xs, h1, h2, h3, h4⟩
  have hzlt : z < s.heap.objs.size := Heap.lt_size hz
  have hTOlt : TO < s.heap.objs.size := Heap.lt_size hTO
  have itlt : ∀ c ∈ its, c < s.heap.objs.size := fun c m => by
    obtain ⟨j, e⟩ := List.getElem?_of_mem m
    obtain ⟨l, xs, _, _, ⟨o, ho, _⟩, _⟩ := hg j c e
    exact Heap.lt_size ho
  have lslt : ∀ c ∈ its, ∀ o, s.heap.get? c = some o → c < s.heap.objs.size := fun c m o e => Heap.lt_size e
  show wpAny _ _ (Builtin.SmallTypes.ownedTupleIsFree (.ref z) >>= _) _ _ _
  have free : wpAny (model prog w) A (Builtin.SmallTypes.ownedTupleIsFree (.ref z)) (fun b s' => (b = true ∧ s' = s) ∨ (b = false ∧ ∃ g1 h0, s' = { s with heap := h0 } ∧ IsZ h0 z TI TO f0 g1 ∧ Heap.SameBut z s.heap h0)) E s := by
    unfold Builtin.SmallTypes.ownedTupleIsFree
    rcases hf0 with rfl | ⟨T, rfl⟩
    · exact wpAny_bind (wpAny_field hz rfl (x := .none) rfl (wpAny_pure (.inl ⟨rfl, rfl⟩)))
    · refine wpAny_bind (wpAny_field hz rfl (x := rawInt T) rfl ?_)
      show wpAny _ _ (loadIfAlive _ >>= _) _ _ _
      refine wpAny_bind (wpAny_alive ?_)
      cases hT : s.heap.get? (Int.toNat (T : Int)) with
      | none => exact wpAny_pure (.inl ⟨rfl, rfl⟩)
      | some o =>
        show wpAny _ _ (field (.ref z) 1 >>= _) _ _ _
        refine wpAny_bind (wpAny_field hz rfl (x := f1) rfl ?_)
        by_cases hb : (f1 != Value.bool true) = true
        · rw [if_pos hb]
          refine wpAny_bind (wpAny_setField_rec hz (by simp) fun h₁ hz₁ hs₁ => wpAny_pure (.inr ⟨rfl, .bool true, h₁, rfl, hz₁, hs₁⟩))
        · rw [if_neg hb]
          exact wpAny_bind (wpAny_pure (wpAny_pure (.inr ⟨rfl, f1, s.heap, rfl, hz, Heap.SameBut.refl _ _⟩)))
  refine wpAny_bind (wpAny_mono free (fun b s' hh => ?_) fun _ _ x => x)
  rcases hh with ⟨rfl, hss⟩ | ⟨rfl, g1, h0, rfl, hz0, sb0⟩
  · rw [hss]
    simp only [if_true]
    refine wpAny_bind (wpAny_rule ?_)
    refine wpAny_bind (wpAny_field hz rfl (x := .ref TO) rfl ?_)
    have hz0 := hz
    refine wpAny_bind (wpAny_setField_rec hz0 (by simp) fun h₁ hz₁ hs₁ => ?_)
    replace hz₁ : IsZ h₁ z TI TO .ellipsis f1 := hz₁
    refine wpAny_bind (wpAny_forIn_list _ (fun rest b s' => ∃ k h' kp, rest = (its.map Value.ref).zipIdx.drop k ∧ k ≤ its.length ∧ b = (none, ()) ∧ s' = { s with heap := h' } ∧ Good its ls cols (posK k i) h' ∧ h'.objs.size = s.heap.objs.size ∧
      IsZ h' z TI TO .ellipsis f1 ∧ IsTu h' TO kp ∧ kp.length = its.length ∧ (∀ j, j < k → kp[j]? = us[j]?) ∧ Chg z TO its s.heap h') _ ?turn ?fin _ _ ?init)
    case init =>
      refine ⟨0, h₁, kept, by simp, Nat.zero_le _, rfl, rfl, init.at fun c o m e => ?_, hs₁.1, hz₁, (hs₁.2 _ D.TOz).trans hTO, hk, fun j h => by omega, fun c o c1 _ _ e => (hs₁.2 c c1).trans e⟩
      refine (hs₁.2 c ?_).trans e
      rcases m with m | m
      · intro q; exact D.zi (q ▸ m)
      · exact (D.ll c m).1
    case turn =>
      rintro x rest b s' ⟨k, h', kp, hr, hkl, rfl, rfl, g, hsz, hz', hTO', hkp, hkj, hch⟩
      obtain ⟨hx, hx2, hr2⟩ := zipIdx_drop hr
      rw [List.getElem?_map, Option.map_eq_some_iff] at hx
      obtain ⟨p, hp, hpx⟩ := hx
      obtain ⟨xv, xk⟩ := x
      simp only at hpx hx2
      subst hpx hx2
      obtain ⟨l, xs, u, h1, h2, h3, h4⟩ := item xk p hp
      obtain ⟨l', xs', q1, q2, q3, q4⟩ := g xk p hp
      rw [h1] at q1; cases q1
      rw [h2] at q2; cases q2
      rw [posK_at] at q3
      have hpz : z ≠ p := fun q => D.zi (q ▸ List.mem_of_getElem? hp)
      have hpT : TO ≠ p := fun q => D.TOi (q ▸ List.mem_of_getElem? hp)
      refine wpAny_bind (wpAny_onRaise (wpAny_bind (wpAny_nextOf_list_item q3 q4 h4 fun h2' it2 sb2 => wpAny_pure ?_)))
      have hTO2 : IsTu h2' TO kp := (sb2.2 TO hpT).trans hTO'
      refine wpAny_bind (wpAny_seqItems hTO2 rfl ?_)
      refine wpAny_bind (wpAny_updateSeq (s := { s with heap := h2' }) hTO2 rfl ?_ (by rw [List.size_toArray]; exact Nat.le_trans (by omega) (by decide : 100 ≤ sizeLine)) (by rw [Array.size_setIfInBounds, List.size_toArray]; exact Nat.le_trans (by omega) (by decide : 100 ≤ sizeLine + 1)))
      have hTO3 : IsTu (h2'.update TO (Obj.mapSeq fun x_2 => x_2.setIfInBounds xk u)) TO (kp.set xk u) := by
        have e1 := Heap.get?_update_self (Obj.mapSeq fun x_2 => x_2.setIfInBounds xk u) hTO2 rfl
        refine e1.trans ?_
        simp [Obj.mapSeq]
      have sb3 : Heap.SameBut TO h2' (h2'.update TO (Obj.mapSeq fun x_2 => x_2.setIfInBounds xk u)) := Heap.SameBut.update ..
      refine wpAny_bind (wpAny_letGo (wpAny_pure ?_))
      have hxk := (List.getElem?_eq_some_iff.mp hp).1
      refine ⟨xk + 1, _, kp.set xk u, hr2, by omega, rfl, rfl, ?_, sb3.1.trans (sb2.1.trans hsz), (sb3.2 z D.TOz.symm).trans ((sb2.2 z hpz).trans hz'), hTO3, by rw [List.length_set]; exact hkp, fun j hj => ?_, fun c o c1 c2 c3 e => (sb3.2 c c2).trans ((sb2.2 c (fun q => c3 (q ▸ List.mem_of_getElem? hp))).trans (hch c o c1 c2 c3 e))⟩
      · refine (g.draw D hp h1 it2 fun c o c1 e => (sb2.2 c c1).trans e).at fun c o m e => (sb3.2 c ?_).trans e
        rcases m with m | m
        · intro q; exact D.TOi (q ▸ m)
        · exact (D.ll c m).2.1
      · by_cases hj2 : j = xk
        · subst hj2
          rw [List.getElem?_set_self (by omega), h3]
        · rw [List.getElem?_set_ne (Ne.symm hj2)]; exact hkj j (by omega)
    case fin =>
      rintro b s' ⟨k, h', kp, hr, hkl, rfl, rfl, g, hsz, hz', hTO', hkp, hkj, hch⟩
      have hkl2 : k = its.length := by
        have := congrArg List.length hr
        rw [List.length_drop, List.length_zipIdx, List.length_map, List.length_nil] at this
        omega
      subst hkl2
      have hkus : kp = us := by
        apply List.ext_getElem?
        intro j
        by_cases hj : j < its.length
        · exact hkj j hj
        · rw [List.getElem?_eq_none (by omega), List.getElem?_eq_none (by omega)]
      subst hkus
      show wpAny _ _ (seqItems? (.ref TO) >>= _) _ _ _
      refine wpAny_bind (wpAny_seqItems hTO' rfl ?_)
      show wpAny _ _ (newTuple _ >>= _) _ _ _
      refine wpAny_bind (wpAny_newTuple ?_ (Nat.le_trans (by rw [List.toList_toArray]; omega) (by decide : 100 ≤ sizeLine)))
      show wpAny _ _ (Builtin.SmallTypes.ownedTupleHandOut (.ref z) (.ref h'.objs.size) >>= _) _ _ _
      refine wpAny_bind ?_
      unfold Builtin.SmallTypes.ownedTupleHandOut
      have hz₆ : IsZ (h'.push { cls := .type "tuple", data := .seq kp.toArray }) z TI TO .ellipsis f1 := Heap.get?_push_of_some _ hz'
      refine wpAny_bind (wpAny_setField_rec hz₆ (by simp) fun h₇ hz₇ hs₇ => ?_)
      replace hz₇ : IsZ h₇ z TI TO (rawInt h'.objs.size) f1 := hz₇
      refine wpAny_setField_rec hz₇ (by simp) fun h₈ hz₈ hs₈ => ?_
      replace hz₈ : IsZ h₈ z TI TO (rawInt h'.objs.size) (.bool false) := hz₈
      have up : ∀ c o, c ≠ z → h'.get? c = some o → h₈.get? c = some o := fun c o c1 e => (hs₈.2 _ c1).trans ((hs₇.2 _ c1).trans (Heap.get?_push_of_some _ e))
      have hne' : h'.objs.size ≠ z := by rw [hsz]; exact Nat.ne_of_gt hzlt
      have hT₈ : IsTu h₈ h'.objs.size kp := (hs₈.2 _ hne').trans ((hs₇.2 _ hne').trans (Heap.get?_push_size _ rfl))
      refine wpAny_pure ⟨_, rfl, ?_⟩
      show Q (.ref h'.objs.size) _
      rw [hsz] at hT₈ ⊢
      refine hQ _ _ _ kp (.inr ⟨_, rfl⟩) hz₈ (up _ _ D.TOz hTO') hkp (fin1 _ (g.at fun c o m e => up c o ?_ e)) hT₈ (by rw [hs₈.1, hs₇.1, Heap.size_push, hsz]) fun c o c1 c2 c3 e => up c o c1 (hch c o c1 c2 c3 e)
      rcases m with m | m
      · intro q; exact D.zi (q ▸ m)
      · exact (D.ll c m).1
  · have hf := hf0
    simp only [Bool.false_eq_true, if_false]
    refine wpAny_bind (PySem.MeetsSeq2.wpAny_forIn_array _ (fun rest b s' => ∃ k h', rest = (its.map Value.ref).drop k ∧ k ≤ its.length ∧ b = (none, (us.take k).toArray) ∧ s' = { s with heap := h' } ∧ Good its ls cols (posK k i) h' ∧ h'.objs.size = s.heap.objs.size ∧
      IsZ h' z TI TO f0 g1 ∧ IsTu h' TO kept ∧ Chg z TO its s.heap h') _ ?turn ?fin _ _ ?init)
    case init =>
      refine ⟨0, h0, by simp, Nat.zero_le _, by simp, rfl, init.at fun c o m e => ?_, sb0.1, hz0, (sb0.2 _ D.TOz).trans hTO, fun c o c1 _ _ e => (sb0.2 c c1).trans e⟩
      refine (sb0.2 c ?_).trans e
      rcases m with m | m
      · intro q; exact D.zi (q ▸ m)
      · exact (D.ll c m).1
    case turn =>
      rintro x rest b s' ⟨k, h', hr, hkl, rfl, rfl, g, hsz, hz', hTO', hch⟩
      obtain ⟨hx, hr2⟩ := drop_cons hr
      rw [List.getElem?_map, Option.map_eq_some_iff] at hx
      obtain ⟨p, hp, rfl⟩ := hx
      obtain ⟨l, xs, u, h1, h2, h3, h4⟩ := item k p hp
      obtain ⟨l', xs', q1, q2, q3, q4⟩ := g k p hp
      rw [h1] at q1; cases q1
      rw [h2] at q2; cases q2
      rw [posK_at] at q3
      refine wpAny_bind (wpAny_holding (wpAny_bind (wpAny_nextOf_list_item q3 q4 h4 fun h2' it2 sb2 => wpAny_pure ?_)))
      have hpz : z ≠ p := fun q => D.zi (q ▸ List.mem_of_getElem? hp)
      have hpT : TO ≠ p := fun q => D.TOi (q ▸ List.mem_of_getElem? hp)
      refine wpAny_pure ⟨k + 1, h2', hr2, by have := (List.getElem?_eq_some_iff.mp hp).1; omega, ?_, rfl, g.draw D hp h1 it2 fun c o c1 e => (sb2.2 c c1).trans e, sb2.1.trans hsz, (sb2.2 z hpz).trans hz', (sb2.2 TO hpT).trans hTO', fun c o c1 c2 c3 e => (sb2.2 c (fun q => c3 (q ▸ List.mem_of_getElem? hp))).trans (hch c o c1 c2 c3 e)⟩
      simp only [Prod.mk.injEq, true_and]
      rw [List.take_add_one, h3]
      simp
    case fin =>
      rintro b s' ⟨k, h', hr, hkl, rfl, rfl, g, hsz, hz', hTO', hch⟩
      have hkl2 : k = its.length := by
        have := congrArg List.length hr
        rw [List.length_drop, List.length_map, List.length_nil] at this
        omega
      subst hkl2
      show wpAny _ _ (newTuple _ >>= _) _ _ _
      have hz5 : h'.objs.size = s.heap.objs.size := hsz
      have hll : us.take its.length = us := List.take_of_length_le (by omega)
      rw [hll]
      refine wpAny_bind (wpAny_newTuple ?_ (Nat.le_trans (by rw [List.toList_toArray]; omega) (by decide : 100 ≤ sizeLine)))
      refine wpAny_pure ⟨_, rfl, ?_⟩
      show Q (.ref h'.objs.size) _
      rw [hz5]
      refine hQ _ f0 g1 kept hf (Heap.get?_push_of_some _ hz') (Heap.get?_push_of_some _ hTO') hk (fin1 _ (g.at fun c o _ e => Heap.get?_push_of_some _ e)) ?_ (by rw [Heap.size_push, hz5]) fun c o c1 c2 c3 e => Heap.get?_push_of_some _ (hch c o c1 c2 c3 e)
      rw [← hz5]
      exact Heap.get?_push_size h' (o := { cls := .type "tuple", data := .seq us.toArray }) rfl

theorem next_end {z TI TO : Addr} {its ls : List Addr} {kept : List Value} {f0 f1 : Value} {i : Nat} {Q : Fin → Shared → Prop} (hh : A.handled = none) (D : Ap z TI TO its ls)
    (hf0 : f0 = .none ∨ ∃ T : Addr, f0 = rawInt T)
    (hz : IsZ s.heap z TI TO f0 f1) (hTI : IsTu s.heap TI (its.map Value.ref)) (hTO : IsTu s.heap TO kept) {p l : Addr} {r : List Addr} {xs : Array Value} (hir : its = p :: r)
    (h1 : ls[0]? = some l) (h3 : s.heap.IsListIter p l i) (h4 : s.heap.IsList l xs) (hx : xs[i]? = none)
    (hE : ∀ h' e, Chg z TO its s.heap h' → (∃ o, h'.get? e = some o ∧ o.cls = .type "StopIteration") → E (.ref e) { s with heap := h' }) :
    wpAny (model prog w) A (Builtin.«zip.__next__» ⟨[.ref z], []⟩) Q E s := by
  show wpAny _ _ (field (.ref z) 2 >>= _) _ _ _
  refine wpAny_bind (wpAny_field hz rfl (x := .bool false) rfl ?_)
  show wpAny _ _ (field (.ref z) 3 >>= _) _ _ _
  refine wpAny_bind (wpAny_field hz rfl (x := .ref TI) rfl ?_)
  refine wpAny_bind (wpAny_seqItems hTI rfl ?_)
  subst hir
  have he : ((p :: r).map Value.ref).toArray.isEmpty = false := rfl
  simp only [he, Bool.false_eq_true, if_false]
  have hpz : z ≠ p := fun q => D.zi (q ▸ List.mem_cons_self)
  have hlz : l ≠ z := (D.ll l (List.mem_of_getElem? h1)).1
  show wpAny _ _ (Builtin.SmallTypes.ownedTupleIsFree (.ref z) >>= _) _ _ _
  have free : wpAny (model prog w) A (Builtin.SmallTypes.ownedTupleIsFree (.ref z)) (fun b s' => (b = true ∧ s' = s) ∨ (b = false ∧ ∃ g1 h0, s' = { s with heap := h0 } ∧ IsZ h0 z TI TO f0 g1 ∧ Heap.SameBut z s.heap h0)) E s := by
    unfold Builtin.SmallTypes.ownedTupleIsFree
    rcases hf0 with rfl | ⟨T, rfl⟩
    · exact wpAny_bind (wpAny_field hz rfl (x := .none) rfl (wpAny_pure (.inl ⟨rfl, rfl⟩)))
    · refine wpAny_bind (wpAny_field hz rfl (x := rawInt T) rfl ?_)
      show wpAny _ _ (loadIfAlive _ >>= _) _ _ _
      refine wpAny_bind (wpAny_alive ?_)
      cases hT : s.heap.get? (Int.toNat (T : Int)) with
      | none => exact wpAny_pure (.inl ⟨rfl, rfl⟩)
      | some o =>
        show wpAny _ _ (field (.ref z) 1 >>= _) _ _ _
        refine wpAny_bind (wpAny_field hz rfl (x := f1) rfl ?_)
        by_cases hb : (f1 != Value.bool true) = true
        · rw [if_pos hb]
          refine wpAny_bind (wpAny_setField_rec hz (by simp) fun h₁ hz₁ hs₁ => wpAny_pure (.inr ⟨rfl, .bool true, h₁, rfl, hz₁, hs₁⟩))
        · rw [if_neg hb]
          exact wpAny_bind (wpAny_pure (wpAny_pure (.inr ⟨rfl, f1, s.heap, rfl, hz, Heap.SameBut.refl _ _⟩)))
  refine wpAny_bind (wpAny_mono free (fun b s' hh' => ?_) fun _ _ x => x)
  rcases hh' with ⟨rfl, hss⟩ | ⟨rfl, g1, h0, rfl, hz0, sb0⟩
  · rw [hss]
    simp only [if_true]
    refine wpAny_bind (wpAny_rule ?_)
    refine wpAny_bind (wpAny_field hz rfl (x := .ref TO) rfl ?_)
    refine wpAny_bind (wpAny_setField_rec hz (by simp) fun h₁ hz₁ hs₁ => ?_)
    replace hz₁ : IsZ h₁ z TI TO .ellipsis f1 := hz₁
    refine wpAny_bind ?_
    simp only [List.map_cons, List.zipIdx_cons, List.forIn_cons]
    refine wpAny_bind (wpAny_bind (wpAny_onRaise ?_))
    show wpAny _ _ (Builtin.SmallTypes.nextOf (.ref p) >>= _) _ _ _
    refine wpAny_bind (wpAny_nextOf_list_end hh (h3.extBut hs₁.extBut hpz.symm) (h4.extBut hs₁.extBut hlz) hx fun h₂ e hs₂ he => ?_)
    obtain ⟨oe, hoe, hce⟩ := he
    have hz₂ : IsZ h₂ z TI TO .ellipsis f1 := hs₂ _ _ hpz hz₁
    have hez : e ≠ z := fun x => by subst x; rw [hz₂] at hoe; cases hoe; simp at hce
    refine wpAny_setField_rec hz₂ (by simp) fun h₃ _ hs₃ => hE h₃ e (fun c o c1 _ c3 x => hs₃.extBut _ _ c1 (hs₂ _ _ (fun q => c3 (q ▸ List.mem_cons_self)) (hs₁.extBut _ _ c1 x))) ⟨oe, hs₃.extBut _ _ hez hoe, hce⟩
  · simp only [Bool.false_eq_true, if_false]
    refine wpAny_bind ?_
    simp only [List.map_cons]
    rw [← Array.forIn_toList]
    simp only [List.forIn_cons]
    refine wpAny_bind (wpAny_bind (wpAny_holding ?_))
    show wpAny _ _ (Builtin.SmallTypes.nextOf (.ref p) >>= _) _ _ _
    refine wpAny_bind (wpAny_nextOf_list_end (s := { s with heap := h0 }) hh (h3.extBut sb0.extBut hpz.symm) (h4.extBut sb0.extBut hlz) hx fun h₂ e hs₂ he => ?_)
    exact hE h₂ e (fun c o c1 _ c3 x => hs₂ _ _ (fun q => c3 (q ▸ List.mem_cons_self)) (sb0.extBut _ _ c1 x)) he
theorem pyNext_item {z TI TO : Addr} {its ls : List Addr} {cols : List (Array Value)} {kept us : List Value} {f0 f1 : Value} {i : Nat} {Q : Option Value → Shared → Prop} (D : Ap z TI TO its ls)
    (hf0 : f0 = .none ∨ ∃ T : Addr, f0 = rawInt T)
    (hz : IsZ s.heap z TI TO f0 f1) (hTI : IsTu s.heap TI (its.map Value.ref)) (hTO : IsTu s.heap TO kept) (hk : kept.length = its.length) (hne : its ≠ []) (hlen : its.length ≤ 100) (hc : cols.length = its.length)
    (hg : Good its ls cols (fun _ => i) s.heap) (hus : Row cols i us)
    (hQ : ∀ h' f0' f1' kept', (f0' = .none ∨ ∃ T : Addr, f0' = rawInt T) → IsZ h' z TI TO f0' f1' → IsTu h' TO kept' → kept'.length = its.length → Good its ls cols (fun _ => i + 1) h' → IsTu h' s.heap.objs.size us → h'.objs.size = s.heap.objs.size + 1 → Chg z TO its s.heap h' → Q (some (.ref s.heap.objs.size)) { s with heap := h' }) :
    wpAny (model prog w) A (pyNext (.ref z)) Q E s := by
  have hT : s.TypeIs (.ref z) "zip" := ⟨_, hz, rfl⟩
  unfold pyNext
  exact wpAny_bind (wpAny_attempt (wpAny_callSpecial?_slot (name := Str.ofString "__next__") hT F.slot_zip_next
    (wpAny_call_entry F.slot_zip_next hT F.entry_zip_next
      (next_item D hf0 hz hTI hTO hk hne hlen hc hg hus fun h' a b c a0 a1 a2 a3 a4 a5 a6 a7 => wpAny_pure (hQ h' a b c a0 a1 a2 a3 a4 a5 a6 a7)) (F.args_zip_next_1 _))))
theorem pyNext_end {z TI TO : Addr} {its ls : List Addr} {kept : List Value} {f0 f1 : Value} {i : Nat} {Q : Option Value → Shared → Prop} (hh : A.handled = none) (D : Ap z TI TO its ls)
    (hf0 : f0 = .none ∨ ∃ T : Addr, f0 = rawInt T)
    (hz : IsZ s.heap z TI TO f0 f1) (hTI : IsTu s.heap TI (its.map Value.ref)) (hTO : IsTu s.heap TO kept) {p l : Addr} {r : List Addr} {xs : Array Value} (hir : its = p :: r)
    (h1 : ls[0]? = some l) (h3 : s.heap.IsListIter p l i) (h4 : s.heap.IsList l xs) (hx : xs[i]? = none)
    (hQ : ∀ h', Chg z TO its s.heap h' → Q none { s with heap := h' }) : wpAny (model prog w) A (pyNext (.ref z)) Q E s := by
  have hT : s.TypeIs (.ref z) "zip" := ⟨_, hz, rfl⟩
  unfold pyNext
  refine wpAny_bind (wpAny_attempt (wpAny_callSpecial?_slot (name := Str.ofString "__next__") hT F.slot_zip_next
    (wpAny_call_entry F.slot_zip_next hT F.entry_zip_next (next_end hh D hf0 hz hTI hTO hir h1 h3 h4 hx fun h' e hk he => ?_) (F.args_zip_next_1 _))))
  obtain ⟨o, ho, hc⟩ := he
  refine wpAny_bind (wpAny_isInstance (T := "StopIteration") (b := true) ⟨o, ho, hc⟩ isSubtype_stop ?_)
  exact wpAny_pure (hQ _ hk)
theorem pyIter_zip {z TI TO : Addr} {f0 f1 : Value} {Q : Value → Shared → Prop} (hz : IsZ s.heap z TI TO f0 f1) (h : Q (.ref z) s) : wpAny (model prog w) A (pyIter (.ref z)) Q E s := by
  have hT : s.TypeIs (.ref z) "zip" := ⟨_, hz, rfl⟩
  refine wpAny_pyIter_slot hT F.slot_zip_iter (wpAny_call_entry F.slot_zip_iter hT F.entry_zip_iter ?_ (F.args_zip_iter_1 _))
  show wpAny _ _ (ret (.ref z)) _ _ s
  exact wpAny_pure ⟨_, rfl, "zip", _, hT, F.slot_zip_next.lookup, h⟩
end
theorem typeCall_zip (vs : List Value) : checkTypeCall "zip" ⟨vs, []⟩ = pure () := by kernel_rfl
theorem newCall_zip : ∀ vs : List Value, vs.length ≤ 6 → checkBuiltinCall "zip.__new__" ⟨.type "zip" :: vs, []⟩ = pure ()
  | [], _ => by kernel_rfl
  | [_], _ => by kernel_rfl
  | [_, _], _ => by kernel_rfl
  | [_, _, _], _ => by kernel_rfl
  | [_, _, _, _], _ => by kernel_rfl
  | [_, _, _, _, _], _ => by kernel_rfl
  | [_, _, _, _, _, _], _ => by kernel_rfl
  | _ :: _ :: _ :: _ :: _ :: _ :: _ :: r, h => absurd h (by simp)
theorem args_init (a : Value) (vs : List Value) : argsOk "object.__init__" ⟨a :: vs, []⟩ := by
  unfold argsOk; rw [signature?_of (id := "object.__init__") (n := ['_', '_', 't', 'i', 'n', 'i', '_', '_']) (o := ['t', 'c', 'e', 'j', 'b', 'o']) (by kernel_rfl) F.owner_object]; kernel_rfl
section
variable {prog : Program} {w : World} {A : Around} {E : Value → Shared → Prop} {s : Shared}
/-- the new iterators' addresses -/
def itsOf (n : Nat) (ls : List Addr) : List Addr := (List.range ls.length).map (n + ·)
theorem itsOf_at {n j : Nat} {ls : List Addr} {p : Addr} (h : (itsOf n ls)[j]? = some p) : p = n + j ∧ j < ls.length := by
  unfold itsOf at h
  rw [List.getElem?_map, Option.map_eq_some_iff] at h
  obtain ⟨k, h1, rfl⟩ := h
  have h2 := (List.getElem?_eq_some_iff.mp h1).1
  rw [List.length_range] at h2
  rw [List.getElem?_range h2] at h1
  cases h1
  exact ⟨rfl, h2⟩
theorem itsOf_len {n : Nat} {ls : List Addr} : (itsOf n ls).length = ls.length := by unfold itsOf; simp
theorem iterAll_ok {ls : List Addr} {cols : List (Array Value)} {Q : List Value → Shared → Prop} (hc : cols.length = ls.length) (hl : ∀ (j : Nat) (l : Addr) (xs : Array Value), ls[j]? = some l → cols[j]? = some xs → s.heap.IsList l xs)
    (hQ : ∀ h', Good (itsOf s.heap.objs.size ls) ls cols (fun _ => 0) h' → h'.objs.size = s.heap.objs.size + ls.length → (∀ c o, s.heap.get? c = some o → h'.get? c = some o) → Q ((itsOf s.heap.objs.size ls).map Value.ref) { s with heap := h' }) :
    wpAny (model prog w) A (Builtin.SmallTypes.iterAll (ls.map Value.ref)) Q E s := by
  unfold Builtin.SmallTypes.iterAll
  refine wpAny_bind (wpAny_forIn_list _ (fun rest b s' => ∃ k h', rest = (ls.map Value.ref).drop k ∧ k ≤ ls.length ∧ b = (((itsOf s.heap.objs.size ls).map Value.ref).take k).toArray ∧ s' = { s with heap := h' } ∧ h'.objs.size = s.heap.objs.size + k ∧
    (∀ c o, s.heap.get? c = some o → h'.get? c = some o) ∧ ∀ j l, j < k → ls[j]? = some l → h'.IsListIter (s.heap.objs.size + j) l 0) _ ?turn ?fin _ _ ⟨0, s.heap, by simp, Nat.zero_le _, by simp, rfl, by simp, fun _ _ e => e, fun j l h => by omega⟩)
  case turn =>
    rintro x rest b s' ⟨k, h', hr, hkl, rfl, rfl, hsz, hch, hit⟩
    obtain ⟨hx, hr2⟩ := drop_cons hr
    rw [List.getElem?_map, Option.map_eq_some_iff] at hx
    obtain ⟨l, hl1, rfl⟩ := hx
    have hkl2 := (List.getElem?_eq_some_iff.mp hl1).1
    have hx2 : cols[k]? = some cols[k] := List.getElem?_eq_getElem (by omega)
    have hL : Heap.IsList h' l cols[k] := by
      obtain ⟨o, ho, r⟩ := hl k l _ hl1 hx2
      exact ⟨o, hch _ _ ho, r⟩
    refine wpAny_bind (wpAny_holding (wpAny_pyIter_list (s := { s with heap := h' }) hL ?_))
    refine wpAny_pure ⟨k + 1, _, hr2, by omega, ?_, rfl, by rw [Heap.size_push, hsz]; omega, fun c o e => Heap.get?_push_of_some _ (hch c o e), fun j l' hj hl' => ?_⟩
    · rw [List.take_add_one, List.getElem?_map]
      have : (itsOf s.heap.objs.size ls)[k]? = some (s.heap.objs.size + k) := by
        unfold itsOf
        rw [List.getElem?_map, List.getElem?_range hkl2]; rfl
      rw [this]
      show Array.push _ (Value.ref h'.objs.size) = _
      rw [hsz]
      simp
    · by_cases hj2 : j = k
      · subst hj2
        rw [hl1] at hl'; cases hl'
        rw [← hsz]
        exact ⟨_, Heap.get?_push_size h' (o := { cls := .type "list_iterator", data := .fields #[.ref l, .int 0 0] }) rfl, rfl, rfl⟩
      · exact (hit j l' (by omega) hl').at fun o e => Heap.get?_push_of_some _ e
  case fin =>
    rintro b s' ⟨k, h', hr, hkl, rfl, rfl, hsz, hch, hit⟩
    have hkl2 : k = ls.length := by
      have := congrArg List.length hr
      rw [List.length_drop, List.length_map, List.length_nil] at this
      omega
    subst hkl2
    have e : ((itsOf s.heap.objs.size ls).map Value.ref).take ls.length = (itsOf s.heap.objs.size ls).map Value.ref := List.take_of_length_le (by rw [List.length_map, itsOf_len]; exact Nat.le_refl _)
    rw [e]
    refine wpAny_pure ?_
    rw [List.toList_toArray]
    refine hQ h' (fun j p hp => ?_) hsz hch
    obtain ⟨rfl, hj⟩ := itsOf_at hp
    have h1 : ls[j]? = some ls[j] := List.getElem?_eq_getElem hj
    have h2 : cols[j]? = some cols[j] := List.getElem?_eq_getElem (by omega)
    obtain ⟨o, ho, r⟩ := hl j _ _ h1 h2
    exact ⟨_, _, h1, h2, hit j _ hj h1, ⟨o, hch _ _ ho, r⟩⟩
theorem call_zip {ls : List Addr} {cols : List (Array Value)} {Q : Value → Shared → Prop} (hn : ls.length ≤ 6) (hc : cols.length = ls.length) (hl : ∀ (j : Nat) (l : Addr) (xs : Array Value), ls[j]? = some l → cols[j]? = some xs → s.heap.IsList l xs)
    (h : ∀ h' z TI TO its, Ap z TI TO its ls → IsZ h' z TI TO .none (.bool false) → IsTu h' TI (its.map Value.ref) → (∃ kept, IsTu h' TO kept ∧ kept.length = its.length) → its.length = ls.length → Good its ls cols (fun _ => 0) h' → s.heap.objs.size ≤ z → s.heap.objs.size ≤ TI → s.heap.objs.size ≤ TO → (∀ p ∈ its, s.heap.objs.size ≤ p) →
      (∀ c o, s.heap.get? c = some o → h'.get? c = some o) → Q (.ref z) { s with heap := h' }) :
    wpAny (model prog w) A (call (.type "zip") (ls.map Value.ref)) Q E s := by
  have hlen : (ls.map Value.ref).length ≤ 6 := by rw [List.length_map]; exact hn
  have g : PySem.MeetsIn prog w (Builtin.«zip.__new__» ⟨.type "zip" :: ls.map Value.ref, []⟩) (fun A R s => (∀ (j : Nat) (l : Addr) (xs : Array Value), ls[j]? = some l → cols[j]? = some xs → s.heap.IsList l xs) ∧
      ∀ h' z TI TO its, Ap z TI TO its ls → IsZ h' z TI TO .none (.bool false) → IsTu h' TI (its.map Value.ref) → (∃ kept, IsTu h' TO kept ∧ kept.length = its.length) → its.length = ls.length → Good its ls cols (fun _ => 0) h' → s.heap.objs.size ≤ z → s.heap.objs.size ≤ TI → s.heap.objs.size ≤ TO → (∀ p ∈ its, s.heap.objs.size ≤ p) →
      (∀ c o, s.heap.get? c = some o → h'.get? c = some o) → R (.ok (.ret (.ref z))) { s with heap := h' }) := by
    refine .of_wp fun A R s hS => ?_
    obtain ⟨hl, h⟩ := hS
    have hsub := PySem.sub_zip
    show wpAny _ _ (Builtin.SmallTypes.newClass "zip" _ >>= _) _ _ _
    refine wpAny_bind ?_
    unfold Builtin.SmallTypes.newClass
    dsimp only
    rw [hsub]
    show wpAny _ _ ((pure true : Sem Bool) >>= _) _ _ _
    refine wpAny_bind (wpAny_pure ?_)
    simp only [Bool.not_true, Bool.false_eq_true, if_false]
    refine wpAny_bind (wpAny_pure ?_)
    simp only [Bool.not_true, Bool.false_eq_true, if_false]
    refine wpAny_pure ?_
    rw [if_neg (by decide)]
    have fits : ∀ vs : List Value, vs.length ≤ 6 → vs.length ≤ sizeLine := fun vs h => Nat.le_trans h (by decide)
    refine wpAny_bind (iterAll_ok hc hl fun h1 good sz ch => ?_)
    have hil : (itsOf s.heap.objs.size ls).length = ls.length := itsOf_len
    refine wpAny_bind (wpAny_newTuple ?_ (fits _ (by rw [List.length_map, hil]; exact hn)))
    refine wpAny_bind (wpAny_newTuple ?_ (fits _ (by rw [List.length_map, List.length_map, hil]; exact hn)))
    refine wpAny_bind ?_
    show wpAny _ _ (newObj (.type "zip") (.fields #[.none, .bool false, .bool false, .ref _, .ref _])) _ _ _
    refine wpAny_newObj_type ?_
    refine wpAny_pure ⟨_, rfl, ?_⟩
    have n1 : ∀ (o1 o2 : Obj), ((h1.push o1).push o2).objs.size = h1.objs.size + 2 := fun o1 o2 => by rw [Heap.size_push, Heap.size_push]
    have n2 : ∀ (o1 : Obj), (h1.push o1).objs.size = h1.objs.size + 1 := fun o1 => by rw [Heap.size_push]
    refine h _ _ h1.objs.size (h1.objs.size + 1) (itsOf s.heap.objs.size ls) ?_ ?_ ?_ ⟨((itsOf s.heap.objs.size ls).map Value.ref).map fun _ => Value.none, ?_, by rw [List.length_map, List.length_map]⟩ hil (good.at fun c o _ e => Heap.get?_push_of_some _ (Heap.get?_push_of_some _ (Heap.get?_push_of_some _ e))) ?_ ?_ ?_ (fun p hp => ?_) (fun c o e => Heap.get?_push_of_some _ (Heap.get?_push_of_some _ (Heap.get?_push_of_some _ (ch c o e))))
    · have hlt : ∀ p ∈ itsOf s.heap.objs.size ls, p < h1.objs.size := fun p hp => by
        obtain ⟨j, hj⟩ := List.getElem?_of_mem hp
        obtain ⟨rfl, hj2⟩ := itsOf_at hj
        exact (show (s.heap.objs.size + j : Nat) < h1.objs.size by omega)
      have hls : ∀ l ∈ ls, l < s.heap.objs.size := fun l hl' => by
        obtain ⟨j, hj⟩ := List.getElem?_of_mem hl'
        have hj2 := (List.getElem?_eq_some_iff.mp hj).1
        obtain ⟨o, ho, _⟩ := hl j l cols[j] hj (List.getElem?_eq_getElem (by omega))
        exact Heap.lt_size ho
      have hle : (s.heap.objs.size : Nat) ≤ h1.objs.size := by omega
      show Ap ((h1.push _).push _).objs.size _ _ _ _
      rw [n1]
      refine ⟨(show (h1.objs.size : Nat) ≠ h1.objs.size + 2 by omega), (show (h1.objs.size + 1 : Nat) ≠ h1.objs.size + 2 by omega), (show (h1.objs.size : Nat) ≠ h1.objs.size + 1 by omega), fun m => ?_, fun m => ?_, fun m => ?_, ?_, fun l hl' => ⟨?_, ?_, fun m => ?_⟩⟩
      · exact absurd (hlt _ m) (show ¬ (h1.objs.size + 2 : Nat) < h1.objs.size by omega)
      · exact absurd (hlt _ m) (Nat.lt_irrefl _)
      · exact absurd (hlt _ m) (show ¬ (h1.objs.size + 1 : Nat) < h1.objs.size by omega)
      · unfold itsOf
        exact (List.pairwise_map.mpr (List.nodup_range.imp fun {a b} h e => h (Nat.add_left_cancel e)))
      · exact Nat.ne_of_lt (Nat.lt_of_lt_of_le (hls l hl') (Nat.le_trans hle (Nat.le_add_right _ _)))
      · exact Nat.ne_of_lt (Nat.lt_of_lt_of_le (hls l hl') (Nat.le_trans hle (Nat.le_add_right _ _)))
      · obtain ⟨j, hj⟩ := List.getElem?_of_mem m
        obtain ⟨q, _⟩ := itsOf_at hj
        have := hls l hl'
        rw [q] at this
        exact absurd this (Nat.not_lt.mpr (Nat.le_add_right _ _))
    · have e := Heap.get?_push_size ((h1.push { cls := .type "tuple", data := .seq ((itsOf s.heap.objs.size ls).map Value.ref).toArray }).push { cls := .type "tuple", data := .seq (((itsOf s.heap.objs.size ls).map Value.ref).map fun _ => Value.none).toArray }) (o := { cls := .type "zip", data := .fields #[.none, .bool false, .bool false, .ref h1.objs.size, .ref (h1.push { cls := .type "tuple", data := .seq ((itsOf s.heap.objs.size ls).map Value.ref).toArray }).objs.size] }) rfl
      rw [← n2 { cls := .type "tuple", data := .seq ((itsOf s.heap.objs.size ls).map Value.ref).toArray }]
      exact e
    · exact Heap.get?_push_of_some _ (Heap.get?_push_of_some _ (Heap.get?_push_size h1 rfl))
    · have e := Heap.get?_push_size (h1.push { cls := .type "tuple", data := .seq ((itsOf s.heap.objs.size ls).map Value.ref).toArray }) (o := { cls := .type "tuple", data := .seq (((itsOf s.heap.objs.size ls).map Value.ref).map fun _ => Value.none).toArray }) rfl
      rw [n2] at e
      exact Heap.get?_push_of_some _ e
    · show s.heap.objs.size ≤ ((h1.push _).push _).objs.size
      rw [n1]; exact (show (s.heap.objs.size : Nat) ≤ h1.objs.size + 2 by omega)
    · exact (show (s.heap.objs.size : Nat) ≤ h1.objs.size by omega)
    · exact (show (s.heap.objs.size : Nat) ≤ h1.objs.size + 1 by omega)
    · obtain ⟨j, hj⟩ := List.getElem?_of_mem hp
      obtain ⟨rfl, _⟩ := itsOf_at hj
      exact Nat.le_add_right _ _
  refine PySem.callType_newIn PySem.F.called_zip (by decide) (typeCall_zip _) (newCall_zip _ hlen) (fun obj => args_init obj _) PySem.F.entry_zip_new g ⟨hl, fun h' z TI TO its D hz hTI hTO hil hg g1 g2 g3 g4 hch => ?_⟩
  exact ⟨⟨_, hz, rfl⟩, h h' z TI TO its D hz hTI hTO hil hg g1 g2 g3 g4 hch⟩
end
open L2
/-- the i-th items of the lists -/
inductive Cols (K : PySem.W.Frag) (H : Hp) (i : Nat) : List Addr → List V → Prop
  | nil : Cols K H i [] []
  | cons {a : Addr} {as : List Addr} {xs : List V} {v : V} {row : List V} : SqL K H a xs → xs[i]? = some v → Cols K H i as row → Cols K H i (a :: as) (v :: row)
theorem Cols.inj {X : Cx} {pins : List (Addr × Obj)} {σ : L2.St} {H : Hp} {s : Shared} (I : Inv X pins σ H s) {i : Nat} : ∀ {as : List Addr} {r r' : List V}, Cols X.K H i as r → Cols X.K H i as r' → r = r'
  | _, _, _, .nil, .nil => rfl
  | _, _, _, .cons h e t, .cons h' e' t' => by
    have := I.list_inj h h'
    subst this
    rw [e] at e'; cases e'
    rw [Cols.inj I t t']
theorem Cols.len {K : PySem.W.Frag} {H : Hp} {i : Nat} : ∀ {as : List Addr} {r : List V}, Cols K H i as r → r.length = as.length
  | _, _, .nil => rfl
  | _, _, .cons _ _ t => congrArg (· + 1) t.len
theorem Cols.vals {X : Cx} {pins : List (Addr × Obj)} {σ : L2.St} {H : Hp} {s : Shared} (I : Inv X pins σ H s) {i : Nat} : ∀ {as : List Addr} {r : List V}, Cols X.K H i as r → ∃ (cols : List (Array Value)) (us : List Value), cols.length = as.length ∧ Vals r us ∧ Row cols i us ∧ ∀ (j : Nat) (a : Addr) (xs : Array Value), as[j]? = some a → cols[j]? = some xs → s.heap.IsList a xs
  | _, _, .nil => ⟨[], [], rfl, .nil, ⟨rfl, fun j xs u h => by simp at h⟩, fun j a xs h => by simp at h⟩
  | _, _, .cons h e t => by
    obtain ⟨cols, us, h1, h2, h3, h4⟩ := Cols.vals I t
    obtain ⟨its, rv, p, _⟩ := I.list h
    obtain ⟨u, hu, ru⟩ := rv.get e
    refine ⟨its.toArray :: cols, u :: us, by simp [h1], .cons ru h2, ⟨by simp [h3.1], fun j xs w e1 e2 => ?_⟩, fun j a xs e1 e2 => ?_⟩
    · cases j with
      | zero => simp at e1 e2; subst e1 e2; simpa using hu
      | succ j => exact h3.2 j xs w (by simpa using e1) (by simpa using e2)
    · cases j with
      | zero => simp at e1 e2; subst e1 e2; exact p.isList
      | succ j => exact h4 j a xs (by simpa using e1) (by simpa using e2)
def ItzN (K : PySem.W.Frag) (as : List Addr) : It :=
  ⟨fun i H => ∃ row, Cols K H i as row,
    fun i H x H' => ∃ T row, x = .ref T ∧ H T = none ∧ H' = upd H T (.tup row) ∧ ∀ row', Cols K H i as row' → row = row',
    fun i H => ∃ a r xs, as = a :: r ∧ SqL K H a xs ∧ xs.length ≤ i⟩
structure Tn (z TI TO : Addr) (its as : List Addr) (i : Nat) (h : Heap) : Prop where
  z : ∃ f0 f1, (f0 = .none ∨ ∃ T : Addr, f0 = rawInt T) ∧ IsZ h z TI TO f0 f1
  TI : IsTu h TI (its.map Value.ref)
  TO : ∃ kept, IsTu h TO kept ∧ kept.length = its.length
  it : ∀ (j : Nat) (p l : Addr), its[j]? = some p → as[j]? = some l → h.IsListIter p l i
theorem turn_zipN {P : Program} {w : World} {K : PySem.W.Frag} {nm : Str} {tpos : Pos} {as its : List Addr} {z TI TO : Addr} (D : Ap z TI TO its as) (hl : its.length = as.length) (hne : as ≠ []) (h6 : as.length ≤ 6) :
    Turn P w K (.Name nm tpos) (ItzN K as) (z :: TI :: TO :: its) z (Tn z TI TO its as) where
  mem := by simp
  obj := fun i h st c hc => by
    obtain ⟨⟨f0, f1, _, hz⟩, hTI, ⟨kept, hTO, _⟩, hit⟩ := st
    have e' : c = z ∨ c = TI ∨ c = TO ∨ c ∈ its := by simpa using hc
    rcases e' with q | q | q | q
    · rw [q]; exact ⟨_, hz, fun v q => nomatch q⟩
    · rw [q]; exact ⟨_, hTI, fun v q => nomatch q⟩
    · rw [q]; exact ⟨_, hTO, fun v q => nomatch q⟩
    · obtain ⟨j, hj⟩ := List.getElem?_of_mem q
      have hj2 := (List.getElem?_eq_some_iff.mp hj).1
      obtain ⟨o, e1, _, d1⟩ := hit j c as[j] hj (List.getElem?_eq_getElem (by omega))
      exact ⟨o, e1, fun v q => by rw [d1] at q; cases q⟩
  keep := fun i h h' st k => by
    obtain ⟨⟨f0, f1, hf, hz⟩, hTI, ⟨kept, hTO, hk⟩, hit⟩ := st
    exact ⟨⟨f0, f1, hf, k z (by simp) _ hz⟩, k TI (by simp) _ hTI, ⟨kept, k TO (by simp) _ hTO, hk⟩, fun j p l hj hl => (hit j p l hj hl).at fun o q => k p (by simp [List.mem_of_getElem? hj]) o q⟩
  item := by
    intro X hP hw hK hc i pins s σ H E I hf st hg
    subst hP hw hK
    obtain ⟨⟨f0, f1, hf0, hz⟩, hTI, ⟨kept, hTO, hk⟩, hit⟩ := st
    obtain ⟨row, hcol⟩ := hg
    obtain ⟨cols, us, hc1, hv, hrow, hls⟩ := hcol.vals I
    have hne2 : its ≠ [] := fun q => hne (by rw [q] at hl; exact List.length_eq_zero_iff.mp hl.symm)
    have good : Good its as cols (fun _ => i) s.heap := fun j p e => by
      have hj := (List.getElem?_eq_some_iff.mp e).1
      have h1 : as[j]? = some as[j] := List.getElem?_eq_getElem (by omega)
      have h2 : cols[j]? = some cols[j] := List.getElem?_eq_getElem (by omega)
      exact ⟨_, _, h1, h2, hit j p _ e h1, hls j _ _ h1 h2⟩
    have lt3 : ∀ c, c ∈ z :: TI :: TO :: its → c < s.heap.objs.size := fun c hcm => by
      have e' : c = z ∨ c = TI ∨ c = TO ∨ c ∈ its := by simpa using hcm
      rcases e' with q | q | q | q
      · rw [q]; exact Heap.lt_size hz
      · rw [q]; exact Heap.lt_size hTI
      · rw [q]; exact Heap.lt_size hTO
      · obtain ⟨j, hj⟩ := List.getElem?_of_mem q
        obtain ⟨_, _, _, _, ⟨o, e1, _⟩, _⟩ := good j c hj
        exact Heap.lt_size e1
    refine pyNext_item D hf0 hz hTI hTO hk hne2 (by omega) (by omega) good hrow fun h' f0' f1' kept' hf' z' TO' hk' good' hT hsz hch => ?_
    refine ⟨_, rfl, ?_⟩
    show wpAny _ _ (pure ()) _ _ _
    have new : ObjOk X.prog X.w (upd H s.heap.objs.size (.tup row)) h' s.heap.objs.size (.tup row) :=
      ⟨by rw [hcol.len]; exact Nat.le_trans h6 (by decide), us, hv, ⟨_, hT, rfl, _, rfl⟩⟩
    have I1 : Inv X pins σ (upd H s.heap.objs.size (.tup row)) { s with heap := h' } :=
      I.turnedNew (t' := s.toks) (ch := z :: TI :: TO :: its) (fun c o hb q => hch c o (fun q' => hb (by simp [q'])) (fun q' => hb (by simp [q'])) (fun q' => hb (by simp [q'])) q) hf (Nat.le_refl _) new
    refine wpAny_pure ⟨.ref s.heap.objs.size, _, I1, rfl, ⟨_, row, rfl, I.hok.fresh (Nat.le_refl _), rfl, fun row' h => hcol.inj I h⟩, ⟨⟨f0', f1', hf', z'⟩, hch _ _ D.TIz D.TITO D.TIi hTI, ⟨kept', TO', hk'⟩, fun j p l hj hl' => ?_⟩, fun c hcm => ?_⟩
    · obtain ⟨l2, xs, q1, q2, q3, _⟩ := good' j p hj
      rw [hl'] at q1; cases q1
      exact q3
    · rw [upd_ne (Nat.ne_of_lt (lt3 c hcm))]
      exact (hf c hcm).1
  done := by
    intro X hP hw hK hc i pins s σ H E I hf st hg
    subst hP hw hK
    obtain ⟨⟨f0, f1, hf0, hz⟩, hTI, ⟨kept, hTO, hk⟩, hit⟩ := st
    obtain ⟨a, r, xs, rfl, hqx, hend⟩ := hg
    obtain ⟨vs, rv, p, _⟩ := I.list hqx
    have l1 := rv.length
    obtain ⟨q, its', rfl⟩ : ∃ q its', its = q :: its' := by
      cases its with
      | nil => simp at hl
      | cons q its' => exact ⟨q, its', rfl⟩
    exact pyNext_end (I.ok.hd hc) D hf0 hz hTI hTO rfl (l := a) rfl (hit 0 q a rfl rfl) p.isList (by simp; omega) fun h' hch => ⟨rfl, I.turnedL (t' := s.toks) (ch := z :: TI :: TO :: q :: its') (fun c o hb e =>
      hch c o (fun q' => hb (by simp [q'])) (fun q' => hb (by simp [q'])) (fun q' => hb (by
        have : c = q ∨ c ∈ its' := by simpa using q'
        rcases this with z | z <;> simp [z])) e) hf⟩
  self := fun A i s Q E st h => by
    obtain ⟨⟨f0, f1, hf, hz⟩, _⟩ := st
    exact pyIter_zip hz h
def iZipN (K : PySem.W.Frag) (te : TE) : TI := fun σ H R => te σ H fun x H1 => ∃ (l : Addr) (as : List Addr), x = .ref l ∧ SqL K H1 l (as.map V.ref) ∧ as ≠ [] ∧ as.length ≤ 6 ∧ (∀ a ∈ as, ∃ xs, SqL K H1 a xs) ∧ R (ItzN K as) H1
theorem vals_refs : ∀ {as : List Addr} {us : List Value}, Vals (as.map V.ref) us → us = as.map Value.ref
  | [], _, h => by cases h; rfl
  | a :: as, _, h => by
    cases h with
    | cons r t =>
      cases (show _ = Value.ref a from r)
      rw [vals_refs t]; rfl
theorem callWith_tyS {M : Model} {A : Around} {E : Value → Shared → Prop} {s : Shared} {env : PySem.Env} {T : String} {e : Expr} {p pos : Pos} {Q : Value → Shared → Prop}
    (h : wpAny M A (eval e env) (fun v s₁ => PySem.W.StarOf M A E v (fun vs s₂ => wpAny M A (call (.type T) vs) Q E s₂) s₁) E s) (he : starEach [.Starred e p] env = [(true, eval e env)] := by rfl) :
    wpAny M A (callWith pos (.type T) [] (backTo pos (starEach [.Starred e p] env)) []) Q E s := by
  rw [he]
  refine PySem.W.ks_call (P := fun _ => True) rfl (fun h _ => ⟨.machine, .inr (.inl rfl), fun A Q E s k q => wpAny_pure q⟩) (PySem.W.ks_lone (wpAny_mono h (fun v s₁ h₁ => ?_) fun _ _ x => x))
  unfold PySem.W.StarOf at h₁ ⊢
  exact wpAny_mono h₁ (fun b s₂ h₂ => ⟨h₂.1, wpAny_mono h₂.2 (fun vs s₃ h₃ => ⟨trivial, h₃⟩) fun _ _ x => x⟩) fun _ _ x => x
theorem pi_zipN {X : Cx} {e : Expr} {te : TE} {nm : Str} {p p2 pos tpos : Pos} (hg : Gl X "zip") (hm : X.mg "zip" = none) (he : PE X e te) (hs : starEach [.Starred e p2] X.env = [(true, eval e X.env)] := by rfl) :
    PI X (.Name nm tpos) (.Call (.Name "zip" p) [.Starred e p2] [] pos) (iZipN X.K te) := by
  refine ⟨fun pins s σ H R I h => ?_⟩
  refine Call_ (ld_blt I hg hm PyProof.Rows.boot_zip (callWith_tyS (thn (he.run pins s σ H _ I h) fun v s1 ⟨x, H1, I1, r1, q1⟩ => ?_) hs))
  obtain ⟨l, as, rfl, hl, hne, h6, hlists, q⟩ := q1
  obtain rfl : v = Value.ref l := r1
  refine StX.star_lst I1 hl fun us s2 I2 rv => ?_
  have hus := vals_refs rv
  subst hus
  have hcols : ∀ as' : List Addr, (∀ a ∈ as', ∃ xs, SqL X.K H1 a xs) → ∃ cols : List (Array Value), cols.length = as'.length ∧ ∀ (j : Nat) (a : Addr) (xs : Array Value), as'[j]? = some a → cols[j]? = some xs → s2.heap.IsList a xs := by
    intro as'
    induction as' with
    | nil => exact fun _ => ⟨[], rfl, fun j a xs h => by simp at h⟩
    | cons a r ih =>
      intro h
      obtain ⟨cols, h1, h2⟩ := ih fun b m => h b (List.mem_cons_of_mem _ m)
      obtain ⟨xs, hx⟩ := h a List.mem_cons_self
      obtain ⟨its, _, p, _⟩ := I2.list hx
      refine ⟨its.toArray :: cols, by simp [h1], fun j b ys e1 e2 => ?_⟩
      cases j with
      | zero => simp at e1 e2; subst e1 e2; exact p.isList
      | succ j => exact h2 j b ys (by simpa using e1) (by simpa using e2)
  obtain ⟨cols, hc1, hc2⟩ := hcols as hlists
  refine call_zip h6 hc1 hc2 fun h' z TI TO its D hz hTI hTO hil good g1 g2 g3 g4 hch => pyIter_zip hz ?_
  have I3 : Inv X pins σ H1 { s2 with heap := h' } := I2.kept (t' := s2.toks) hch
  refine ⟨z, z :: TI :: TO :: its, _, _, H1, rfl, I3, turn_zipN D hil hne h6, ⟨⟨_, _, .inl rfl, hz⟩, hTI, hTO, fun j p l hj hl' => ?_⟩, fun c hcm => ?_, q⟩
  · obtain ⟨l2, xs, q1, q2, q3, _⟩ := good j p hj
    rw [hl'] at q1; cases q1
    exact q3
  · have e' : c = z ∨ c = TI ∨ c = TO ∨ c ∈ its := by simpa using hcm
    have hle : s2.heap.objs.size ≤ c := by
      rcases e' with q | q | q | q
      · rw [q]; exact g1
      · rw [q]; exact g2
      · rw [q]; exact g3
      · exact g4 c q
    exact I2.fpOk hle (I2.hok.fresh hle)
end ZN

set_option Elab.async false
set_option linter.all false
set_option maxRecDepth 100000
set_option maxHeartbeats 4000000
/-! zip(*rows) over data; more built-ins. -/
namespace DL
open PySem PySem.Spec PyProof.Rows L2
open Evl (Ex)
open ZN (Cols ItzN iZipN pi_zipN)
def rows? : List D → Option (List (List D))
  | [] => some []
  | .lst r :: ds => (rows? ds).map (r :: ·)
  | _ => none
theorem rows?_some : ∀ {ds : List D} {rs : List (List D)}, rows? ds = some rs → ds = rs.map D.lst
  | [], _, h => by cases h; rfl
  | .lst r :: ds, rs, h => by
    unfold rows? at h
    rw [Option.map_eq_some_iff] at h
    obtain ⟨m, h1, rfl⟩ := h
    rw [rows?_some h1]; rfl
  | .non :: _, _, h => by simp [rows?] at h
  | .bl _ :: _, _, h => by simp [rows?] at h
  | .int _ :: _, _, h => by simp [rows?] at h
  | .str _ :: _, _, h => by simp [rows?] at h
  | .tup _ :: _, _, h => by simp [rows?] at h
  | .scr _ :: _, _, h => by simp [rows?] at h
@[simp] theorem rows?_map (rs : List (List D)) : rows? (rs.map D.lst) = some rs := by
  induction rs with
  | nil => rfl
  | cons n r ih => simp [rows?, ih]
def colsD (rs : List (List D)) (n : Nat) : List D := (List.range n).map fun i => .tup (rs.map fun r => r.getD i .non)
section
variable {K : PySem.W.Frag} {B : Hp}
/-- the lists' addresses -/
inductive Rws (K : PySem.W.Frag) (B : Hp) : List Addr → List (List V) → List (List D) → Prop
  | nil : Rws K B [] [] []
  | cons {a : Addr} {xs : List V} {ds : List D} {as : List Addr} {xss : List (List V)} {dss : List (List D)} : B a = some (.lst xs) → DtL K B xs ds → Rws K B as xss dss → Rws K B (a :: as) (xs :: xss) (ds :: dss)
theorem Rws.of : ∀ {vs : List V} {rs : List (List D)}, DtL K B vs (rs.map D.lst) → ∃ as xss, vs = as.map V.ref ∧ Rws K B as xss rs
  | _, [], h => by cases h; exact ⟨[], [], rfl, .nil⟩
  | _, r :: rs, h => by
    cases h with
    | cons h1 t =>
      obtain ⟨as, xss, rfl, hr⟩ := Rws.of t
      cases h1 with
      | lst h0 t0 => exact ⟨_ :: as, _ :: xss, rfl, .cons h0 t0 hr⟩
theorem Rws.cols {n i : Nat} (hi : i < n) {H' : Hp} (e : Ex B H') : ∀ {as : List Addr} {xss : List (List V)} {rs : List (List D)}, Rws K B as xss rs → (∀ r ∈ rs, r.length = n) → ∃ row, Cols K H' i as row ∧ DtL K B row (rs.map fun r => r.getD i .non)
  | _, _, _, .nil, _ => ⟨[], .nil, .nil⟩
  | _, _, _, .cons (ds := ds) h t r, hn => by
    obtain ⟨row, h1, h2⟩ := Rws.cols hi e r fun x m => hn x (List.mem_cons_of_mem _ m)
    have hl : i < ds.length := by rw [hn ds List.mem_cons_self]; exact hi
    have hd : ds[i]? = some (ds.getD i .non) := by
      rw [List.getD_eq_getElem?_getD, List.getElem?_eq_getElem hl]; rfl
    obtain ⟨v, h3, h4⟩ := t.get hd
    exact ⟨v :: row, .cons (SqL.of (e _ _ h)) h3 h1, .cons h4 h2⟩
theorem Rws.len : ∀ {as : List Addr} {xss : List (List V)} {rs : List (List D)}, Rws K B as xss rs → as.length = rs.length
  | _, _, _, .nil => rfl
  | _, _, _, .cons _ _ r => congrArg (· + 1) r.len
theorem Rws.lists : ∀ {as : List Addr} {xss : List (List V)} {rs : List (List D)}, Rws K B as xss rs → ∀ a ∈ as, ∃ xs, SqL K B a xs
  | _, _, _, .cons h _ r, a, m => by
    rcases List.mem_cons.mp m with e | m
    · subst e; exact ⟨_, SqL.of h⟩
    · exact r.lists a m
theorem itzN_ok {as : List Addr} {xss : List (List V)} {rs : List (List D)} {n : Nat} (h : Rws K B as xss rs) (hne : rs ≠ []) (hn : ∀ r ∈ rs, r.length = n) : ItOk K B (ItzN K as) (colsD rs n) := by
  refine fun i H' e => ⟨fun d hd => ?_, fun hl => ?_⟩
  · have hi : i < n := by
      have := (List.getElem?_eq_some_iff.mp hd).1
      unfold colsD at this
      simpa using this
    obtain ⟨row, h1, h2⟩ := h.cols hi e hn
    refine ⟨⟨row, h1⟩, fun x H'' y => ?_⟩
    obtain ⟨T, row', rfl, nT, rfl, u⟩ := y
    have := u row h1
    subst this
    refine ⟨Evl.Ex.new nT, fun B2 e2 e3 => ?_⟩
    unfold colsD at hd
    rw [List.getElem?_map, List.getElem?_range hi] at hd
    cases hd
    exact .tup (e3 _ _ (stb_tup upd_same)) (h2.mono e2)
  · cases h with
    | nil => exact absurd rfl hne
    | cons h0 t0 r =>
      rename_i ds as' xss' dss
      refine ⟨_, _, _, rfl, SqL.of (e _ _ h0), ?_⟩
      rw [t0.len, hn ds List.mem_cons_self]
      unfold colsD at hl
      simpa using hl
end
section
variable {X : Cx} {e : Expr} {ma : ME} {p p2 pos tpos : Pos} {nm : Str}
def mZipN (m : ME) : MI := fun ρ => match m ρ with
  | some r => match r.data with
    | .lst ds => match rows? ds with
      | some (r0 :: rs) => if rs.length ≤ 5 ∧ (rs.all fun x => decide (x.length = r0.length)) = true then some (r.fixed, colsD (r0 :: rs) r0.length) else none
      | _ => none
    | _ => none
  | none => none
theorem xi_zipN (hg : Gl X "zip") (hm : X.mg "zip" = none) (he : XE X e ma) (hs : starEach [.Starred e p2] X.env = [(true, eval e X.env)] := by rfl) : XI X (.Name nm tpos) (.Call (.Name "zip" p) [.Starred e p2] [] pos) (mZipN ma) := by
  obtain ⟨t, pt, s⟩ := he
  refine ⟨_, pi_zipN hg hm pt hs, fun G H σ ρ fp fx items Q R hm q => ?_⟩
  unfold mZipN at hm
  split at hm
  rotate_left
  · cases hm
  rename_i r e1
  split at hm
  rotate_left
  · cases hm
  rename_i ds e2
  split at hm
  rotate_left
  · cases hm
  rename_i r0 rs e3
  split at hm
  rotate_left
  · cases hm
  rename_i hc
  obtain ⟨hc5, hcl⟩ := hc
  cases hm
  refine s G H σ ρ fp r _ R e1 fun v F H1 x1 o1 => ?_
  have w := ROk.wall R.ls x1 o1
  have d := o1.data
  rw [e2, rows?_some e3] at w d
  cases w with
  | lst h0 t0 =>
    cases d with
    | lst h1 t1 =>
      rename_i a xs ys
      have e4 : Ex (wallOf r.fixed H1 fp) H1 := by
        cases r.fixed with
        | true => rw [wall_t]; exact hid_ex
        | false => rw [wall_f]; exact Evl.Ex.refl H1
      obtain ⟨as, xss, rfl, hr⟩ := Rws.of t0
      have hlen := hr.len
      refine ⟨a, as, rfl, SqL.of (e4 _ _ h0), fun z => ?_, ?_, fun b m => ?_, q _ H1 x1 (itzN_ok hr (fun z => by cases z) fun x m => ?_)⟩
      · subst z; simp at hlen
      · simp at hlen; omega
      · obtain ⟨xs, hx⟩ := hr.lists b m; exact ⟨xs, Evl.ex_l e4 hx⟩
      · rcases List.mem_cons.mp m with z | m
        · rw [z]
        · exact of_decide_eq_true (List.all_eq_true.mp hcl x m)
end
/-! a < b < c -/
section
variable {X : Cx} {a b c : Expr} {ma mb mc : ME} {pos : Pos}
/-- two comparisons of numbers -/
def mCh (f g : Int → Int → Bool) (ma mb mc : ME) : ME := fun ρ => match ma ρ, mb ρ with
  | some x, some y => match x.data, y.data with
    | .int i, .int j => if f i j = true then (match mc ρ with
      | some z => match z.data with
        | .int k => some (.sh (.bl (g j k)))
        | _ => none
      | none => none) else some (.sh (.bl false))
    | _, _ => none
  | _, _ => none
theorem sim_chain {K : PySem.W.Frag} {ta tb tc : TE} {f g : Int → Int → Bool} (sa : SimE K ta ma) (sb : SimE K tb mb) (sc : SimE K tc mc) : SimE K (tChain (rI0 fun i j => .bl (f i j)) (rI0 fun i j => .bl (g i j)) ta tb tc) (mCh f g ma mb mc) := by
  intro G H σ ρ fp r Q R hm q
  unfold mCh at hm
  split at hm
  rotate_left
  · cases hm
  rename_i x y e1 e2
  split at hm
  rotate_left
  · cases hm
  rename_i i j e3 e4
  refine sa G H σ ρ fp x _ R e1 fun v F H1 x1 o1 => ?_
  have R1 := R.grow x1
  refine sb G H1 σ ρ fp y _ R1 e2 fun w F2 H2 x2 o2 => ?_
  have d1 := o1.data; rw [e3] at d1; cases d1
  have d2 := o2.data; rw [e4] at d2; cases d2
  refine ⟨i, j, rfl, rfl, f i j, rfl, ?_⟩
  by_cases hf : f i j = true
  · rw [hf] at hm ⊢
    rw [if_pos rfl] at hm ⊢
    split at hm
    rotate_left
    · cases hm
    rename_i z e5
    split at hm
    rotate_left
    · cases hm
    rename_i k e6
    cases hm
    refine sc G H2 σ ρ fp z _ (R1.grow x2) e5 fun u F3 H3 x3 o3 => ?_
    have d3 := o3.data; rw [e6] at d3; cases d3
    exact ⟨j, k, rfl, rfl, q _ [] H3 ((x1.trans x2).trans x3) (Fl.bl _).rok⟩
  · rw [if_neg hf] at hm ⊢
    cases hm
    have e : f i j = false := by simpa using hf
    exact q _ [] H2 (x1.trans x2) (Fl.bl _).rok
theorem x_chain {op op' : CmpOp} {f g : Int → Int → Bool} (ho : OpR X (compareOp op) (rI0 fun i j => .bl (f i j))) (ho' : OpR X (compareOp op') (rI0 fun i j => .bl (g i j))) (ha : XE X a ma) (hb : XE X b mb) (hc : XE X c mc)
    (hm : lastMarks [op, op'] [b, c] = false := by with_unfolding_all rfl) : XE X (.Compare a [op, op'] [b, c] pos) (mCh f g ma mb mc) := by
  obtain ⟨ta, p, s⟩ := ha
  obtain ⟨tb, p2, s2⟩ := hb
  obtain ⟨tc, p3, s3⟩ := hc
  exact ⟨_, pe_chain ho ho' p p2 p3 hm, sim_chain s s2 s3⟩
theorem xt_chain {op op' : CmpOp} {f g : Int → Int → Bool} (ho : OpR X (compareOp op) (rI0 fun i j => .bl (f i j))) (ho' : OpR X (compareOp op') (rI0 fun i j => .bl (g i j))) (ha : XE X a ma) (hb : XE X b mb) (hc : XE X c mc)
    (hm : lastMarks [op, op'] [b, c] = false := by with_unfolding_all rfl) : XT X (.Compare a [op, op'] [b, c] pos) (mTst (mCh f g ma mb mc)) := by
  obtain ⟨ta, p, s⟩ := ha
  obtain ⟨tb, p2, s2⟩ := hb
  obtain ⟨tc, p3, s3⟩ := hc
  exact ⟨_, pt_chain ho ho' p p2 p3 hm, sim_tst (sim_chain s s2 s3)⟩
end

/-! ### comprehensions of two clauses -/
def isVw : Sl → Bool
  | .vw _ => true
  | _ => false
theorem RelF.noViews {K : PySem.W.Frag} {G H : Hp} {σ : L2.St} {ρ : Env} {fp : Nat → List Addr} (R : RelF K G H σ ρ fp) : RelF K G H σ (killVw ρ) fp where
  len := by simpa [killVw] using R.len
  ex := R.ex
  dj := R.dj
  new := R.new
  ls := R.ls
  sl := fun i s h => by
    unfold killVw at h
    rw [List.getElem?_map, Option.map_eq_some_iff] at h
    obtain ⟨t, h0, h1⟩ := h
    have q := R.sl i t h0
    cases t with
    | dead => cases h1; exact q
    | ad a => cases h1; exact q
    | dc m => cases h1; exact q
    | fz w x => cases h1; exact q
    | sh x => cases h1; exact q
    | vw x => cases h1; exact q.1
    | tr u => cases h1; exact q
    | ow a u => cases h1; exact q
theorem killVw_no {ρ : Env} {i : Nat} {x : D} : (killVw ρ)[i]? ≠ some (.vw x) := fun h => by
  unfold killVw at h
  rw [List.getElem?_map, Option.map_eq_some_iff] at h
  obtain ⟨t, h0, h1⟩ := h
  cases t <;> cases h1
theorem RelF.updD {K : PySem.W.Frag} {G H : Hp} {σ : L2.St} {ρ : Env} {fp : Nat → List Addr} {D : Addr} {n : Nat} {xs ys : List V} (R : RelF K G H σ ρ fp) (hD : D ∈ fp n) (hn : ρ.length ≤ n) (nv : ∀ (i : Nat) x, ρ[i]? ≠ some (.vw x)) (h : H D = some (.lst xs)) : RelF K G (upd H D (.lst ys)) σ ρ fp where
  len := R.len
  ex := fun a o e => by
    rw [upd_ne]
    · exact R.ex a o e
    · rintro rfl; rw [R.new n a hD] at e; cases e
  dj := R.dj
  new := R.new
  ls := fun i a m => by
    by_cases ha : a = D
    · subst ha; exact mo_l upd_same
    · obtain ⟨zs, e⟩ := R.ls i a m
      exact ⟨zs, by rw [upd_ne ha]; exact e⟩
  sl := fun i s hs => by
    have q := R.sl i s hs
    have hi := (List.getElem?_eq_some_iff.mp hs).1
    cases s with
    | dead => exact q
    | ad a => exact q
    | dc m =>
      obtain ⟨b, q1, q2, q3⟩ := q
      refine ⟨b, q1, q2, ?_⟩
      rw [upd_ne]
      · exact q3
      · rintro rfl
        have := R.dj i n b (by rw [q2]; exact List.mem_singleton_self _) hD
        omega
    | fz w x =>
      obtain ⟨q0, q1, q2⟩ := q
      refine ⟨q0, q1, q2.mono fun a o e => ?_⟩
      obtain ⟨n1, e⟩ := hid_some e
      rw [hid_at n1, upd_ne (by rintro rfl; exact n1 n hD)]; exact e
    | sh x =>
      obtain ⟨q0, v, q1, q2⟩ := q
      refine ⟨q0, v, q1, q2.mono fun a o e => ?_⟩
      obtain ⟨n1, e⟩ := hid_some e
      rw [hid_at n1, upd_ne (by rintro rfl; exact n1 n hD)]; exact e
    | vw x => exact (nv i x hs).elim
    | ow c u =>
      refine ⟨q.1, q.2.keep ⟨stb_upd h, fun a m o e => ?_⟩⟩
      rw [upd_ne]
      · exact e
      · rintro rfl
        have := R.dj i n a m hD
        omega
    | tr u =>
      obtain ⟨v, q1, q2⟩ := q
      refine ⟨v, q1, q2.keep ⟨stb_upd h, fun a m o e => ?_⟩⟩
      rw [upd_ne]
      · exact e
      · rintro rfl
        have := R.dj i n a m hD
        omega
/-- what holds between two turns -/
def LcI (K : PySem.W.Frag) (G H1 : Hp) (D : Addr) (fp : Nat → List Addr) (σ : L2.St) (ρ : Env) (rs : List R) (H : Hp) : Prop :=
  RelF K G H σ ρ fp ∧ ∃ acc F, H D = some (.lst acc) ∧ AOk K H1 H fp rs acc F ∧ D ∉ F ∧ Ex H1 H
theorem LcI.grow {K : PySem.W.Frag} {G H1 H H' : Hp} {D : Addr} {fp : Nat → List Addr} {σ : L2.St} {ρ : Env} {rs : List R} (h : LcI K G H1 D fp σ ρ rs H) (e : Ex H H') : LcI K G H1 D fp σ ρ rs H' := by
  obtain ⟨R, acc, F, h1, h2, h3, h4⟩ := h
  exact ⟨R.grow e, acc, F, e _ _ h1, h2.mono e, h3, h4.trans e⟩
theorem LcI.push {K : PySem.W.Frag} {G H1 H3 H4 : Hp} {D : Addr} {fp fp2 : Nat → List Addr} {σ : L2.St} {ρ : Env} {rs : List R} {r : R} {v : V} {F2 : List Addr} {n : Nat} (h : LcI K G H1 D fp σ ρ rs H3) (e : Ex H3 H4) (hD : D ∈ fp n) (hn : ρ.length ≤ n) (nv : ∀ (i : Nat) x, ρ[i]? ≠ some (.vw x)) (hD1 : H1 D = none)
    (o : ROk K H3 H4 fp2 v F2 r) (hsub : ∀ i a, a ∈ fp i → a ∈ fp2 i) (nvs : (rs ++ [r]).all noVw = true) : ∃ acc, H4 D = some (.lst acc) ∧ acc.length = rs.length ∧ LcI K G H1 D fp σ ρ (rs ++ [r]) (upd H4 D (.lst (acc ++ [v]))) := by
  obtain ⟨R, acc, F, h1, h2, h3, h4⟩ := h
  have hacc : H4 D = some (.lst acc) := e _ _ h1
  have o6 : ROk K H1 H4 fp v F2 r := by
    have o5 := ROk.back o h4
    cases r with
    | sh x => exact ⟨o5.1, o5.2.mono (hid_sub hsub)⟩
    | vw x => exact o5
    | tr s => exact o5
  have hDF2 : D ∉ F2 := fun m => by rw [o.fresh D m] at h1; cases h1
  have hdj : ∀ a, a ∈ F → a ∉ F2 ++ [] := fun a m1 m2 => by
    obtain ⟨xs, z⟩ := h2.ls a m1
    have := o.fresh a (by simpa using m2)
    rw [z] at this; cases this
  have o7 : AOk K H1 H4 fp (rs ++ [r]) (acc ++ [v]) (F ++ (F2 ++ [])) := (h2.mono e).append (.cons o6 .nil fun _ _ m => by cases m) hdj
  have hDF : D ∉ F ++ (F2 ++ []) := fun m => by
    rcases List.mem_append.mp m with m | m
    · exact h3 m
    · exact hDF2 (by simpa using m)
  refine ⟨acc, hacc, h2.len.symm, (R.grow e).updD hD hn nv hacc, _, _, upd_same, o7.updD hD hacc nvs hDF, hDF, fun a u z => ?_⟩
  rw [upd_ne (by rintro rfl; rw [hD1] at z; cases z)]
  exact e _ _ (h4 a u z)
def lcTurn2 (s : Bool) (g : MG) (mt : MT) (mi1 : MI) (g1 : MG) (mt1 : MT) (me : ME) (vs1 : List Nat) (ρ : Env) : D → Option (List R) := fun d => match g s d ρ with
  | some ρ' => match mt ρ' with
    | some true => match mi1 (killVw ρ') with
      | some (true, items1) => if vs1.all (fun i => isDead (killVw ρ')[i]?) = true then gather (lcTurn true g1 mt1 me (killVw ρ')) items1 else none
      | _ => none
    | some false => some []
    | none => none
  | none => none
def mLc2 (mi : MI) (g : MG) (mt : MT) (mi1 : MI) (g1 : MG) (mt1 : MT) (me : ME) (vs vs1 : List Nat) : ME := fun ρ => match mi ρ with
  | some (true, items) => if vs.all (fun i => isDead (killVw ρ)[i]?) = true then (match gather (lcTurn2 true g mt mi1 g1 mt1 me vs1 (killVw ρ)) items with
    | some rs => if rs.length ≤ 100000 then lcRes rs else none
    | none => none) else none
  | _ => none
theorem all_noVw_left {a b : List R} (h : (a ++ b).all noVw = true) : a.all noVw = true := by
  rw [List.all_append, Bool.and_eq_true] at h; exact h.1
theorem sim_lc2 {K : PySem.W.Frag} {wi wi1 : TI} {mi mi1 : MI} {g g1 : TG} {mg mg1 : MG} {tt tt1 : TT} {mt mt1 : MT} {te : TE} {me : ME} {own own1 vs vs1 : List Nat} (hi : SimI K wi mi) (hg : SimG K own g mg) (ht : SimT K tt mt) (hi1 : SimI K wi1 mi1) (hg1 : SimG K own1 g1 mg1) (ht1 : SimT K tt1 mt1) (he : SimE K te me)
    (ho : ∀ j ∈ own, j ∈ vs) (ho1 : ∀ j ∈ own1, j ∈ vs1) (hv : ∀ j ∈ vs1, j ∈ vs) : SimE K (tLc2 wi g tt wi1 g1 tt1 te vs vs1) (mLc2 mi mg mt mi1 mg1 mt1 me vs vs1) := by
  intro G H σ ρ fp r Q R hm q
  unfold mLc2 at hm
  split at hm
  rotate_left
  · cases hm
  rename_i items e1
  split at hm
  rotate_left
  · cases hm
  rename_i hdead
  split at hm
  rotate_left
  · cases hm
  rename_i rs0 e2
  split at hm
  rotate_left
  · cases hm
  rename_i hlen
  have hdead : ∀ i ∈ vs, (killVw ρ)[i]? = some .dead := fun i m => isDead_of (List.all_eq_true.mp hdead i m)
  have nv0 : rs0.all noVw = true := by
    unfold lcRes at hm
    split at hm
    · rename_i h; exact h
    · cases hm
  refine hi G H σ ρ fp true items _ R e1 fun J H1 x1 it => fun D hD => ?_
  rw [wall_t] at it
  have R1 : RelF K G H1 (L2.wipe σ vs) (killVw ρ) fp := ((R.grow x1).noViews).wipeD hdead
  obtain ⟨n, hn1, hn2'⟩ := big_ix (killVw ρ).length (own ++ own1)
  have hn2 : n ∉ own := fun z => hn2' (List.mem_append_left _ z)
  have hn3 : n ∉ own1 := fun z => hn2' (List.mem_append_right _ z)
  have hDf : ∀ i, D ∉ fp i := not_fp R1.ls hD
  have Dn : D ∈ fset fp n (D :: fp n) n := by rw [fset_self]; simp
  have nvr : ∀ (i : Nat) x, (killVw ρ)[i]? ≠ some (.vw x) := fun i x => killVw_no
  have hx0 : Ex (hid H1 fp) (hid (upd H1 D (.lst [])) (fset fp n (D :: fp n))) := fun a o e => by
    obtain ⟨n1, e⟩ := hid_some e
    rw [hid_at]
    · rw [upd_ne (by rintro rfl; rw [hD] at e; cases e)]; exact e
    · intro j m
      by_cases hj : j = n
      · subst hj; rw [fset_self] at m
        rcases List.mem_cons.mp m with m | m
        · subst m; rw [hD] at e; cases e
        · exact n1 j m
      · rw [fset_ne hj] at m; exact n1 j m
  have R0 : RelF K G (upd H1 D (.lst [])) (L2.wipe σ vs) (killVw ρ) (fset fp n (D :: fp n)) := by
    have e0 : Ex H1 (upd H1 D (.lst [])) := Evl.Ex.new hD
    refine ⟨R1.len, R1.ex.trans e0, fun i j a m1 m2 => ?_, fun i a m => ?_, fun i a m => ?_, fun i s h => ?_⟩
    · by_cases hi : i = n
      · by_cases hj : j = n
        · rw [hi, hj]
        · subst hi; rw [fset_self] at m1; rw [fset_ne hj] at m2
          rcases List.mem_cons.mp m1 with m1 | m1
          · subst m1; exact (hDf j m2).elim
          · exact R1.dj _ _ a m1 m2
      · rw [fset_ne hi] at m1
        by_cases hj : j = n
        · subst hj; rw [fset_self] at m2
          rcases List.mem_cons.mp m2 with m2 | m2
          · subst m2; exact (hDf i m1).elim
          · exact R1.dj _ _ a m1 m2
        · rw [fset_ne hj] at m2; exact R1.dj _ _ a m1 m2
    · by_cases hi : i = n
      · subst hi; rw [fset_self] at m
        rcases List.mem_cons.mp m with m | m
        · subst m; exact Evl.fresh_back R1.ex hD
        · exact R1.new i a m
      · rw [fset_ne hi] at m; exact R1.new i a m
    · by_cases hi : i = n
      · subst hi; rw [fset_self] at m
        rcases List.mem_cons.mp m with m | m
        · subst m; exact mo_l upd_same
        · obtain ⟨xs, e⟩ := R1.ls i a m; exact ⟨xs, e0 _ _ e⟩
      · rw [fset_ne hi] at m; obtain ⟨xs, e⟩ := R1.ls i a m; exact ⟨xs, e0 _ _ e⟩
    · have hne : i ≠ n := by
        have := (List.getElem?_eq_some_iff.mp h).1
        omega
      rw [fset_ne hne]
      have q := R1.sl i s h
      cases s with
      | dead => exact q
      | ad a => exact q
      | dc m => obtain ⟨a, q1, q2, q3⟩ := q; exact ⟨a, q1, q2, e0 _ _ q3⟩
      | sh x => obtain ⟨q0, v, q1, q2⟩ := q; exact ⟨q0, v, q1, q2.mono hx0⟩
      | fz w x => obtain ⟨q0, q1, q2⟩ := q; exact ⟨q0, q1, q2.mono hx0⟩
      | vw x => exact (nvr i x h).elim
      | tr s => obtain ⟨v, q1, q2⟩ := q; exact ⟨v, q1, q2.mono e0⟩
      | ow a s => exact ⟨q.1, q.2.mono e0⟩
  generalize hfD : fset fp n (D :: fp n) = fpD at *
  let Pv : Nat → Hp → Prop := fun i H' => ∃ rs, gather (lcTurn2 true mg mt mi1 mg1 mt1 me vs1 (killVw ρ)) (items.take i) = some rs ∧ LcI K G H1 D fpD (L2.wipe σ vs) (killVw ρ) rs H'
  refine ⟨fun i m H' => m = items.length - i ∧ i ≤ items.length ∧ Pv i H', ⟨items.length, by simp, Nat.zero_le _, [], rfl, R0, [], [], upd_same, .nil, (fun m => by cases m), Evl.Ex.new hD⟩, ?_⟩
  rintro i m H' ⟨rfl, hile, rs, hga, hI⟩
  obtain ⟨R', acc, F, hacc, hok, hDF, hex⟩ := id hI
  obtain ⟨itgo, itstop⟩ := it i H' (hid_ex.trans hex)
  obtain ⟨ra, hra, ⟨rb, hrb⟩, hnext⟩ := gather_take e2 i
  rw [hga] at hra; cases hra
  by_cases hlt : i < items.length
  · right
    obtain ⟨d, hd⟩ : ∃ d, items[i]? = some d := ⟨items[i], by simp [hlt]⟩
    obtain ⟨c, hc, hnx⟩ := hnext d hd
    have nvc : (rs ++ c).all noVw = true := by
      obtain ⟨ra2, hra2, ⟨rb2, hrb2⟩, _⟩ := gather_take e2 (i + 1)
      rw [hnx] at hra2; cases hra2
      rw [hrb2] at nv0
      exact all_noVw_left nv0
    have lenc : (rs ++ c).length ≤ 100000 := by
      obtain ⟨ra2, hra2, ⟨rb2, hrb2⟩, _⟩ := gather_take e2 (i + 1)
      rw [hnx] at hra2; cases hra2
      rw [hrb2, List.length_append] at hlen
      omega
    obtain ⟨hgo, hyld⟩ := itgo d hd
    refine ⟨hgo, fun H'' => Pv (i + 1) H'', fun H'' p => ⟨_, by omega, rfl, by omega, p⟩, fun x H2 hy => ?_⟩
    obtain ⟨x2, hdt⟩ := hyld x H2 hy
    have I2 := hI.grow x2
    have R2 := I2.1
    have hw : Dt K (wallOf true H2 fpD) x d := by
      rw [wall_t]
      refine hdt _ (fun a o e => ?_) (stb_hid R2.ls)
      obtain ⟨n1, e⟩ := hid_some e
      rw [hid_at]
      · exact x2 _ _ (hex _ _ e)
      · intro j m
        rw [← hfD] at m
        by_cases hj : j = n
        · subst hj; rw [fset_self] at m
          rcases List.mem_cons.mp m with m | m
          · subst m; rw [hD] at e; cases e
          · exact n1 j m
        · rw [fset_ne hj] at m; exact n1 j m
    unfold lcTurn2 at hc
    split at hc
    rotate_left
    · cases hc
    rename_i ρ2 e3
    refine hg G H2 (L2.wipe σ vs) (killVw ρ) _ true d x ρ2 _ R2 hw e3 fun ws fp2 R3 hfp2 => ⟨wipe_setS ho, ?_⟩
    have hdD : ∀ j ∈ vs, fpD j = [] := fun j hj => by
      have hd0 := hdead j hj
      exact R2.sl j _ hd0
    have hsub : ∀ j a, a ∈ fpD j → a ∈ fp2 j := fun j a m => by
      by_cases hj : j ∈ own
      · rw [hdD j (ho j hj)] at m; cases m
      · rw [hfp2 j hj]; exact m
    have Dn2 : D ∈ fp2 n := by rw [hfp2 n hn2]; exact Dn
    have hl2 : ρ2.length ≤ n := by
      have e5 := R3.len
      rw [setS_len] at e5
      have e6 := R2.len
      omega
    split at hc
    · rename_i e4
      refine ht G H2 _ ρ2 fp2 true _ R3 e4 fun H3 x3 => ?_
      rw [if_pos rfl]
      split at hc
      rotate_left
      · cases hc
      rename_i items1 e5
      split at hc
      rotate_left
      · cases hc
      rename_i hd1
      have hd1 : ∀ i ∈ vs1, (killVw ρ2)[i]? = some .dead := fun i m => isDead_of (List.all_eq_true.mp hd1 i m)
      have R4 := (R3.grow x3).noViews
      refine hi1 G H3 _ (killVw ρ2) fp2 true items1 _ R4 e5 fun J1 H4 x4 it1 => ?_
      rw [wall_t] at it1
      have R5 : RelF K G H4 (L2.wipe _ vs1) (killVw ρ2) fp2 := (R4.grow x4).wipeD hd1
      have hkl : (killVw ρ2).length ≤ n := by simpa [killVw] using hl2
      have I4 := (I2.grow x3).grow x4
      let Pw : Nat → Hp → Prop := fun j H' => ∃ rs1, gather (lcTurn true mg1 mt1 me (killVw ρ2)) (items1.take j) = some rs1 ∧ LcI K G H1 D fpD (L2.wipe σ vs) (killVw ρ) (rs ++ rs1) H' ∧ RelF K G H' (L2.wipe (setS (L2.wipe σ vs) own ws) vs1) (killVw ρ2) fp2 ∧ Ex (hid H4 fp2) H'
      refine ⟨fun j k H' => k = items1.length - j ∧ j ≤ items1.length ∧ Pw j H', ⟨items1.length, by simp, Nat.zero_le _, [], rfl, by rw [List.append_nil]; exact I4, R5, hid_ex⟩, ?_⟩
      rintro j k H5 ⟨rfl, hjle, rs1, hga1, I5, R6, ex5⟩
      obtain ⟨itgo1, itstop1⟩ := it1 j H5 ex5
      obtain ⟨ra1, hra1, ⟨rb1, hrb1⟩, hnext1⟩ := gather_take hc j
      rw [hga1] at hra1; cases hra1
      by_cases hlt1 : j < items1.length
      · right
        obtain ⟨d1, hd1'⟩ : ∃ d, items1[j]? = some d := ⟨items1[j], by simp [hlt1]⟩
        obtain ⟨c1, hc1, hnx1⟩ := hnext1 d1 hd1'
        obtain ⟨hgo1, hyld1⟩ := itgo1 d1 hd1'
        refine ⟨hgo1, fun H'' => Pw (j + 1) H'', fun H'' p => ⟨_, by omega, rfl, by omega, p⟩, fun y H6 hy1 => ?_⟩
        obtain ⟨x6, hdt1⟩ := hyld1 y H6 hy1
        have I6 := I5.grow x6
        have R7 := R6.grow x6
        have exw : Ex (hid H4 fp2) (hid H6 fp2) := fun a o e => by
          obtain ⟨n1, _⟩ := hid_some e
          rw [hid_at n1]; exact x6 _ _ (ex5 a o e)
        have hw1 : Dt K (wallOf true H6 fp2) y d1 := by
          rw [wall_t]; exact hdt1 _ exw (stb_hid R7.ls)
        unfold lcTurn at hc1
        split at hc1
        rotate_left
        · cases hc1
        rename_i ρ3 e6
        refine hg1 G H6 _ (killVw ρ2) fp2 true d1 y ρ3 _ R7 hw1 e6 fun ws1 fp3 R8 hfp3 => ⟨wipe_setS ho1, ?_⟩
        have hdD1 : ∀ j ∈ vs1, fp2 j = [] := fun j hj => R7.sl j _ (hd1 j hj)
        have hsub1 : ∀ j a, a ∈ fp2 j → a ∈ fp3 j := fun j a m => by
          by_cases hj : j ∈ own1
          · rw [hdD1 j (ho1 j hj)] at m; cases m
          · rw [hfp3 j hj]; exact m
        split at hc1
        · rename_i e7
          rw [Option.map_eq_some_iff] at hc1
          obtain ⟨rr, e8, rfl⟩ := hc1
          refine ht1 G H6 _ ρ3 fp3 true _ R8 e7 fun H7 x7 => ?_
          rw [if_pos rfl]
          refine he G H7 _ ρ3 fp3 rr _ (R8.grow x7) e8 fun v F2 H8 x8 o8 => ?_
          have nv1 : ((rs ++ rs1) ++ [nrm rr]).all noVw = true := by
            obtain ⟨ra2, hra2, ⟨rb2, hrb2⟩, _⟩ := gather_take hc (j + 1)
            rw [hnx1] at hra2; cases hra2
            rw [hrb2, ← List.append_assoc, ← List.append_assoc] at nvc
            exact all_noVw_left nvc
          obtain ⟨acc8, ha8, hl8, I8⟩ := LcI.push (I6.grow x7) x8 Dn (by simpa [killVw] using hn1) nvr hD (ROk.nrm (ls_mono R8.ls (x7.trans x8)) o8) (fun j a m => hsub1 j a (hsub j a m)) nv1
          have hacc6 : H7 D ≠ none := by
            obtain ⟨_, acc', F', z, _⟩ := I6.grow x7
            rw [z]; exact fun q => by cases q
          refine ⟨acc8, ha8, ?_, rs1 ++ [nrm rr], hnx1, by rw [← List.append_assoc]; exact I8, ((R7.grow x7).grow x8).updD Dn2 hkl (fun i x => killVw_no) ha8, fun a o e => ?_⟩
          · rw [hl8]
            have h1 : rs1.length + 1 ≤ c.length := by
              obtain ⟨ra2, hra2, ⟨rb2, hrb2⟩, _⟩ := gather_take hc (j + 1)
              rw [hnx1] at hra2; cases hra2
              rw [hrb2]; simp
            rw [List.length_append] at lenc ⊢
            exact Evl.sz_lt (by omega)
          · obtain ⟨n1, _⟩ := hid_some e
            rw [upd_ne (by rintro rfl; exact n1 n Dn2)]
            exact x8 _ _ (x7 _ _ (x6 _ _ (ex5 a o e)))
        · rename_i e7
          cases hc1
          refine ht1 G H6 _ ρ3 fp3 false _ R8 e7 fun H7 x7 => ?_
          rw [if_neg Bool.false_ne_true]
          rw [List.append_nil] at hnx1
          exact ⟨rs1, hnx1, I6.grow x7, R7.grow x7, ex5.trans (x6.trans x7)⟩
        · cases hc1
      · left
        have hje : j = items1.length := by omega
        subst hje
        rw [List.take_length, hc] at hga1
        cases hga1
        exact ⟨itstop1 (Nat.le_refl _), rs ++ c, hnx, I5⟩
    · rename_i e4
      cases hc
      refine ht G H2 _ ρ2 fp2 false _ R3 e4 fun H3 x3 => ?_
      rw [if_neg Bool.false_ne_true]
      rw [List.append_nil] at hnx
      exact ⟨rs, hnx, I2.grow x3⟩
    · cases hc
  · left
    have hie : i = items.length := by omega
    refine ⟨itstop (by omega), ?_⟩
    subst hie
    rw [List.take_length, e2] at hga
    cases hga
    unfold lcRes at hm
    rw [if_pos nv0] at hm
    have hfsub : ∀ j a, a ∈ fp j → a ∈ fpD j := fun j a m => by
      rw [← hfD]
      by_cases hj : j = n
      · subst hj; rw [fset_self]; exact List.mem_cons_of_mem _ m
      · rw [fset_ne hj]; exact m
    split at hm
    · rename_i ss e6; cases hm
      refine q _ (D :: F) H' (x1.trans hex) ⟨.own hacc (hok.trees e6) hDF, fun a m => ?_⟩
      rcases List.mem_cons.mp m with e | m
      · subst e; exact Evl.fresh_back x1 hD
      · exact Evl.fresh_back x1 (hok.fresh a m)
    · split at hm
      · rename_i hsh; cases hm
        exact q _ [] H' (x1.trans hex) ⟨rfl, .lst ((hid_at hDf).trans hacc) (hok.allSh hsh (hid_sub hfsub))⟩
      · cases hm
def canI (K : PySem.W.Frag) (m : MI) : TI := fun σ H Q => ∃ G ρ fp s items, RelF K G H σ ρ fp ∧ m ρ = some (s, items) ∧ ∀ J H1, Ex H H1 → ItOk K (wallOf s H1 fp) J items → Q J H1
theorem sim_canI {K : PySem.W.Frag} {m : MI} : SimI K (canI K m) m := fun G H σ ρ fp s items Q R hm q => ⟨G, ρ, fp, s, items, R, hm, q⟩
theorem XI.can {X : Cx} {tg it : Expr} {m : MI} (h : XI X tg it m) : PI X tg it (canI X.K m) := by
  obtain ⟨t, p, s⟩ := h
  exact ⟨fun pins s' σ H Q I ⟨G, ρ, fp, sh, items, R, hm, q⟩ => p.run pins s' σ H Q I (s G H σ ρ fp sh items Q R hm q)⟩
section
variable {X : Cx} {W : XK} {elt tg iter tg1 iter1 : Expr} {ifs ifs1 : List Expr} {scope : Scope} {own : List (Str × Nat)} {pos : Pos} {mi mi1 : MI} {g g1 : MG} {mt mt1 : MT} {me : ME} {ow ow1 vs1 : List Nat} {x : Str}
theorem x_lc2 (hc : X.calm = true) (hN : X.N.Nodup) (hi : XI X tg iter mi) (ok : BlkOk X.N X.env.scope scope own) (ho : ∀ j ∈ ow, j ∈ own.map (·.2)) (ho1 : ∀ j ∈ ow1, j ∈ vs1) (hv : ∀ j ∈ vs1, j ∈ own.map (·.2))
    (hg : ∀ (s : Shared) (H : Hp) (C : Addr) (cl : List (Str × Addr)) (fp : List Addr), XG (X.blk s H scope (compEnvC scope cl C X.env) fp) tg ow g)
    (ht : ∀ (s : Shared) (H : Hp) (C : Addr) (cl : List (Str × Addr)) (fp : List Addr), XTs (X.blk s H scope (compEnvC scope cl C X.env) fp) ifs mt)
    (hi1 : ∀ (s : Shared) (H : Hp) (C : Addr) (cl : List (Str × Addr)) (fp : List Addr), XI (X.blk s H scope (compEnvC scope cl C X.env) fp) tg1 iter1 mi1)
    (hg1 : ∀ (s : Shared) (H : Hp) (C : Addr) (cl : List (Str × Addr)) (fp : List Addr), XG (X.blk s H scope (compEnvC scope cl C X.env) fp) tg1 ow1 g1)
    (ht1 : ∀ (s : Shared) (H : Hp) (C : Addr) (cl : List (Str × Addr)) (fp : List Addr), XTs (X.blk s H scope (compEnvC scope cl C X.env) fp) ifs1 mt1)
    (he : ∀ (s : Shared) (H : Hp) (C : Addr) (cl : List (Str × Addr)) (fp : List Addr), XE (X.blk s H scope (compEnvC scope cl C X.env) fp) elt me)
    (hs : ∀ x, foldedSetIterable iter X.env x = pure x := by intro _; rfl) (hs1 : ∀ env x, foldedSetIterable iter1 env x = pure x := by intro _ _; rfl) :
    XE X (.ListComp elt [⟨tg, iter, ifs, 0⟩, ⟨tg1, iter1, ifs1, 0⟩] scope pos) (mLc2 mi g mt mi1 g1 mt1 me (own.map (·.2)) vs1) := by
  obtain ⟨wi, p, s⟩ := hi
  exact ⟨_, pe_lc2 hc hN p ok hv (fun s H C cl fp => (hg s H C cl fp).can) (fun s H C cl fp => (ht s H C cl fp).can) (fun s H C cl fp => (hi1 s H C cl fp).can) (fun s H C cl fp => (hg1 s H C cl fp).can) (fun s H C cl fp => (ht1 s H C cl fp).can) (fun s H C cl fp => (he s H C cl fp).can) hs hs1,
    sim_lc2 s sim_canG sim_canT sim_canI sim_canG sim_canT sim_canE ho ho1 hv⟩
theorem xs_setLc2 {i : Nat} {py spos : Pos} (hc : X.calm = true) (hN : X.N.Nodup) (hy : X.N[i]? = some x) (hyl : X.env.scope.names.lookup x = some .local)
    (hsw : swapsWith (.ListComp elt [⟨tg, iter, ifs, 0⟩, ⟨tg1, iter1, ifs1, 0⟩] scope pos) (some (.Name x py)) spos.line X.env = pure true) (hi : XI X tg iter mi) (ok : BlkOk X.N X.env.scope scope own) (ho : ∀ j ∈ ow, j ∈ own.map (·.2)) (ho1 : ∀ j ∈ ow1, j ∈ vs1) (hv : ∀ j ∈ vs1, j ∈ own.map (·.2))
    (hg : ∀ (s : Shared) (H : Hp) (C : Addr) (cl : List (Str × Addr)) (fp : List Addr), XG (X.blk s H scope (compEnvC scope cl C X.env) fp) tg ow g)
    (ht : ∀ (s : Shared) (H : Hp) (C : Addr) (cl : List (Str × Addr)) (fp : List Addr), XTs (X.blk s H scope (compEnvC scope cl C X.env) fp) ifs mt)
    (hi1 : ∀ (s : Shared) (H : Hp) (C : Addr) (cl : List (Str × Addr)) (fp : List Addr), XI (X.blk s H scope (compEnvC scope cl C X.env) fp) tg1 iter1 mi1)
    (hg1 : ∀ (s : Shared) (H : Hp) (C : Addr) (cl : List (Str × Addr)) (fp : List Addr), XG (X.blk s H scope (compEnvC scope cl C X.env) fp) tg1 ow1 g1)
    (ht1 : ∀ (s : Shared) (H : Hp) (C : Addr) (cl : List (Str × Addr)) (fp : List Addr), XTs (X.blk s H scope (compEnvC scope cl C X.env) fp) ifs1 mt1)
    (he : ∀ (s : Shared) (H : Hp) (C : Addr) (cl : List (Str × Addr)) (fp : List Addr), XE (X.blk s H scope (compEnvC scope cl C X.env) fp) elt me)
    (hs : ∀ x, foldedSetIterable iter X.env x = pure x := by intro _; rfl) (hs1 : ∀ env x, foldedSetIterable iter1 env x = pure x := by intro _ _; rfl) :
    XS X W (.Assign [.Name x py] (.ListComp elt [⟨tg, iter, ifs, 0⟩, ⟨tg1, iter1, ifs1, 0⟩] scope pos) spos) (mSet i (mLc2 mi g mt mi1 g1 mt1 me (own.map (·.2)) vs1)) := by
  obtain ⟨wi, p, s⟩ := hi
  exact ⟨_, ps_setLc2 hc hN hy hyl hsw p ok hv (fun s H C cl fp => (hg s H C cl fp).can) (fun s H C cl fp => (ht s H C cl fp).can) (fun s H C cl fp => (hi1 s H C cl fp).can) (fun s H C cl fp => (hg1 s H C cl fp).can) (fun s H C cl fp => (ht1 s H C cl fp).can) (fun s H C cl fp => (he s H C cl fp).can) hs hs1,
    sim_set (sim_lc2 s sim_canG sim_canT sim_canI sim_canG sim_canT sim_canE ho ho1 hv)⟩
end
end DL

set_option Elab.async false
set_option linter.all false
set_option maxRecDepth 100000
set_option maxHeartbeats 4000000
/-! Truth; the end of a law. -/
namespace DL
open PySem PySem.Spec PyProof.Rows L2
open Evl (Ex)
def tru : D → Option Bool
  | .non => some false
  | .bl b => some b
  | .int i => some (i != 0)
  | .lst xs => some (!xs.isEmpty)
  | .tup xs => some (!xs.isEmpty)
  | _ => none
def mTru (m : ME) : MT := fun ρ => match m ρ with
  | some r => tru r.data
  | none => none
theorem DtL.empty {K : PySem.W.Frag} {H : Hp} {vs : List V} {ds : List D} (h : DtL K H vs ds) : vs.isEmpty = ds.isEmpty := by
  cases h <;> rfl
section
variable {X : Cx} {e : Expr} {ma : ME}
theorem xt_truth (h : XE X e ma) (he : ∀ whole, isTrue e X.env whole = (do let v ← whole; standAt e.pos; holding [v] (truthy v)) := by intro _; rfl) : XT X e (mTru ma) := by
  obtain ⟨t, p, s⟩ := h
  refine ⟨_, pt_truth p he, fun G H σ ρ fp b Q R hm q => ?_⟩
  unfold mTru at hm
  split at hm
  · rename_i r e1
    refine s G H σ ρ fp r _ R e1 fun v F H1 x1 o1 => ⟨b, ?_, q H1 x1⟩
    have z := o1.data
    generalize r.data = d at z hm
    cases z with
    | non => cases hm; rfl
    | bl c => cases hm; rfl
    | int i => cases hm; rfl
    | str x => cases hm
    | lst h t => cases hm; exact .inl ⟨_, SqL.of h, by rw [t.empty]⟩
    | tup h t => cases hm; exact .inr (.inl ⟨_, .inl (.inl h), by rw [t.empty]⟩)
    | scr h _ => cases hm
    | ktp h => cases hm
  · cases hm
end
theorem noExc {P : Program} {w : World} {H : Hp} {s : Shared} {e : Value} {s' : Shared} (h : L2.CX P w [] H s (fun _ _ _ => False) e s') : False := by
  obtain ⟨_, _, _, _, _, _, _, _, _, _, _, _, z⟩ := h
  exact z
def spLaw (K : PySem.W.Frag) : Sp := fun vs H Q _ => ∃ ns : List Int, DtL K H vs [.scr ns] ∧ vs.length = 1 ∧ ns.length ≤ 63 ∧ ∀ H', Q (.bl true) H'
theorem law_end {P : Program} {w : World} {K : PySem.W.Frag} {mg : Str → Option Value} {base : Heap} {CX : CXT} {k : Nat} {f : Addr} {fd : FuncData} {ps : List Str} {g : List D → Option FO} (F : FnOk P w K mg base CX k f fd ps (spD K 1 g)) (h : ∀ ns : List Int, ns.length ≤ 63 → g [.scr ns] = some (.ret (.d (.bl true)))) : FnOk P w K mg base CX k f fd ps (spLaw K) :=
  F.imp fun vs H Q E ⟨ns, hd, h1, h2, q⟩ => ⟨h1, [.scr ns], _, hd, h ns h2, fun v F H' x r f => by
    cases r with
    | d z => cases z; exact q H'⟩
/-! order of numbers, and of tuples of numbers -/
def gOrd (f : Int → Int → Bool) (g : List Int → List Int → Bool) : D → D → Option D
  | .int i, .int j => some (.bl (f i j))
  | .tup xs, .tup ys => match ints? xs, ints? ys with
    | some ns, some ms => some (.bl (g ns ms))
    | _, _ => none
  | _, _ => none
def leTup (ns ms : List Int) : Bool := Ob.lexAt (fun j => decide (ns.getD j 0 = ms.getD j 0)) (fun j => decide (ns.getD j 0 ≤ ms.getD j 0)) (decide (ns.length ≤ ms.length)) 0 (min ns.length ms.length)
def fLe2 := flat2 (gOrd (fun i j => decide (i ≤ j)) leTup)
def fLt2 := flat2 (gOrd (fun i j => decide (i < j)) HT.lexLt)
theorem op2_le2 {K : PySem.W.Frag} : Op2 K (fun x y H Q => rI0 (fun i j => .bl (decide (i ≤ j))) x y H Q ∨ rLeT K x y H Q) fLe2 := .flat fun H x dx y dy z Q hx hy hz q => by
  unfold gOrd at hz
  split at hz
  · cases hz; cases hx; cases hy; exact .inl ⟨_, _, rfl, rfl, q _ (.bl _)⟩
  · split at hz
    · rename_i ns ms e1 e2
      cases hz
      have := ints?_some e1; subst this
      have := ints?_some e2; subst this
      cases hx with
      | tup h t => cases hy with
        | tup h' t' =>
          have := t.ints_inv; subst this
          have := t'.ints_inv; subst this
          exact .inr ⟨_, _, _, _, rfl, rfl, .inl (.inl h), .inl (.inl h'), q _ (.bl _)⟩
    · cases hz
  · cases hz
theorem op2_lt2 {K : PySem.W.Frag} : Op2 K (fun x y H Q => rI0 (fun i j => .bl (decide (i < j))) x y H Q ∨ rLtT K x y H Q) fLt2 := .flat fun H x dx y dy z Q hx hy hz q => by
  unfold gOrd at hz
  split at hz
  · cases hz; cases hx; cases hy; exact .inl ⟨_, _, rfl, rfl, q _ (.bl _)⟩
  · split at hz
    · rename_i ns ms e1 e2
      cases hz
      have := ints?_some e1; subst this
      have := ints?_some e2; subst this
      cases hx with
      | tup h t => cases hy with
        | tup h' t' =>
          have := t.ints_inv; subst this
          have := t'.ints_inv; subst this
          exact .inr ⟨_, _, _, _, rfl, rfl, .inl (.inl h), .inl (.inl h'), q _ (.bl _)⟩
    · cases hz
  · cases hz
theorem hu1 {A : Around} (h : A.units + 64 < cLine) : A.units < cLine := Nat.lt_of_le_of_lt (Nat.le_add_right _ _) h
end DL

set_option Elab.async false
set_option linter.all false
set_option maxRecDepth 100000
set_option maxHeartbeats 4000000
/-! An owned list that is held still for a while. -/
namespace DL
open PySem PySem.Spec PyProof.Rows L2
section
variable {K : PySem.W.Frag} {G H : Hp} {σ : L2.St} {ρ : Env} {fp : Nat → List Addr} {i : Nat} {ss : List S}
theorem RelF.frz (R : RelF K G H σ ρ fp) (h : ρ[i]? = some (.tr (.own ss))) :
    ∃ v, σ[i]? = some (some v) ∧ Rep K H (.own ss) v (fp i) ∧ RelF K G H σ (ρ.set i (.fz v (S.dataL ss))) (fset fp i []) ∧ RelF K G H σ (ρ.set i (.sh (.lst (S.dataL ss)))) (fset fp i []) := by
  obtain ⟨v, hv, hr⟩ := R.sl i _ h
  have hk := R.kill1 i
  have hD : Dt K (hid H (fset fp i [])) v (.lst (S.dataL ss)) := by
    have lsk := hk.ls
    have := (hr.keep (H' := DL.hid H (fset fp i [])) ⟨?_, fun a m o e => ?_⟩).data
    · exact this
    · have h1 := stb_mono (stb_hid lsk)
      rw [stb_stb] at h1
      exact h1
    · rw [hid_at]
      · exact e
      · intro j mj
        by_cases hj : j = i
        · subst hj; rw [fset_self] at mj; cases mj
        · rw [fset_ne hj] at mj; exact hj (R.dj j i a mj m)
  have hl : i < ρ.length := (List.getElem?_eq_some_iff.mp h).1
  refine ⟨v, hv, hr, ⟨by simpa using R.len, hk.ex, hk.dj, hk.new, hk.ls, fun j s hs => ?_⟩, ⟨by simpa using R.len, hk.ex, hk.dj, hk.new, hk.ls, fun j s hs => ?_⟩⟩
  · by_cases hj : j = i
    · subst hj
      rw [List.getElem?_set_self hl] at hs; cases hs
      rw [fset_self]; exact ⟨rfl, hv, hD⟩
    · rw [List.getElem?_set_ne (Ne.symm hj)] at hs
      rw [fset_ne hj]
      exact SlOk.set (hid_less i) (Evl.Ex.refl H) (R.sl j s hs)
  · by_cases hj : j = i
    · subst hj
      rw [List.getElem?_set_self hl] at hs; cases hs
      rw [fset_self]; exact ⟨rfl, v, hv, hD⟩
    · rw [List.getElem?_set_ne (Ne.symm hj)] at hs
      rw [fset_ne hj]
      exact SlOk.set (hid_less i) (Evl.Ex.refl H) (R.sl j s hs)
/-- for good -/
def mFrz (i : Nat) (m : MS) : MS := fun ρ => match ρ[i]? with
  | some (.tr (.own ss)) => m (ρ.set i (.sh (.lst (S.dataL ss))))
  | _ => none
def calmSl : Sl → Bool
  | .dead => true
  | .ad _ => true
  | .dc _ => true
  | .tr _ => true
  | .ow _ _ => true
  | .sh x => imm x
  | _ => false
def Calm (i : Nat) (ρ : Env) : Prop := ∀ j s, j ≠ i → ρ[j]? = some s → calmSl s = true
/-- for one statement -/
def Thaws (i : Nat) (m : MS) (ρ : Env) (ss : List S) (ρ2 : Env) : Prop := i < ρ2.length ∧ Calm i ρ2 ∧ ∀ v, m (ρ.set i (.fz v (S.dataL ss))) = some (.nx (ρ2.set i (.fz v (S.dataL ss))))
open Classical in
noncomputable def mThaw (i : Nat) (m : MS) : MS := fun ρ => match ρ[i]? with
  | some (.tr (.own ss)) => if h : ∃ ρ2, Thaws i m ρ ss ρ2 then some (.nx (h.choose.set i (.tr (.own ss)))) else none
  | _ => none
theorem mThaw_eval {m : MS} {ρ2 : Env} (h : ρ[i]? = some (.tr (.own ss))) (t : Thaws i m ρ ss ρ2) : mThaw i m ρ = some (.nx (ρ2.set i (.tr (.own ss)))) := by
  unfold mThaw
  simp only [h]
  rw [dif_pos ⟨ρ2, t⟩]
  have t' := (⟨ρ2, t⟩ : ∃ ρ2, Thaws i m ρ ss ρ2).choose_spec
  generalize (⟨ρ2, t⟩ : ∃ ρ2, Thaws i m ρ ss ρ2).choose = ρ3 at t'
  have e := (t'.2.2 (V.ref 0)).symm.trans (t.2.2 (V.ref 0))
  simp only [Option.some.injEq, Out.nx.injEq] at e
  have e2 : (ρ3.set i (.fz (V.ref 0) (S.dataL ss))).set i (.tr (.own ss)) = (ρ2.set i (.fz (V.ref 0) (S.dataL ss))).set i (.tr (.own ss)) := by rw [e]
  rw [List.set_set, List.set_set] at e2
  rw [e2]
theorem sim_thaw {W : XK} {t : TS} {m : MS} (hs : SimS K W t m) : SimS K W t (mThaw i m) := by
  intro G H σ ρ fp o D R hm q
  unfold mThaw at hm
  split at hm
  rotate_left
  · cases hm
  rename_i ss hi
  split at hm
  rotate_left
  · cases hm
  rename_i hex
  cases hm
  have hsp := hex.choose_spec
  generalize hex.choose = ρ2 at hsp q
  obtain ⟨hl, hc, hv0⟩ := hsp
  obtain ⟨v, hv, hr, RF, _⟩ := R.frz hi
  obtain ⟨RB, eB⟩ := RF.toWall
  refine hs _ H σ _ _ _ D RB (hv0 v) fun σ2 H2 fp2 R2 => q σ2 H2 (fset fp2 i (fp i)) ?_
  have hF : ∀ a ∈ fp i, ∃ xs, H a = some (mo xs) ∧ DL.hid H (fset fp i []) a = some (mo xs) := fun a m => by
    obtain ⟨xs, e⟩ := R.ls i a m
    refine ⟨xs, e, ?_⟩
    rw [hid_at]
    · exact e
    · intro j mj
      by_cases hj : j = i
      · subst hj; rw [fset_self] at mj; cases mj
      · rw [fset_ne hj] at mj; exact hj (R.dj j i a mj m)
  have hn : ∀ a ∈ fp i, ∀ j, a ∉ fp2 j := fun a m j mj => by
    obtain ⟨xs, _, e⟩ := hF a m
    rw [R2.new j a mj] at e; cases e
  have lsN : ∀ j a, a ∈ fset fp2 i (fp i) j → ∃ xs, H2 a = some (mo xs) := fun j a m => by
    by_cases hj : j = i
    · subst hj; rw [fset_self] at m
      obtain ⟨xs, _, e⟩ := hF a m
      exact ⟨xs, R2.ex _ _ e⟩
    · rw [fset_ne hj] at m; exact R2.ls j a m
  refine ⟨by simpa using R2.len, eB.trans R2.ex, fun j k a m1 m2 => ?_, fun j a m => ?_, lsN, fun j s h => ?_⟩
  · by_cases hj : j = i
    · by_cases hk : k = i
      · rw [hj, hk]
      · subst hj; rw [fset_self] at m1; rw [fset_ne hk] at m2; exact (hn a m1 k m2).elim
    · rw [fset_ne hj] at m1
      by_cases hk : k = i
      · subst hk; rw [fset_self] at m2; exact (hn a m2 j m1).elim
      · rw [fset_ne hk] at m2; exact R2.dj j k a m1 m2
  · by_cases hj : j = i
    · subst hj; rw [fset_self] at m; exact R.new _ a m
    · rw [fset_ne hj] at m; exact Evl.fresh_back eB (R2.new j a m)
  · by_cases hj : j = i
    · subst hj
      rw [List.getElem?_set_self hl] at h; cases h
      rw [fset_self]
      obtain ⟨_, q1, _⟩ := R2.sl j (.fz v (S.dataL ss)) (by rw [List.getElem?_set_self hl])
      refine ⟨v, q1, hr.keep ⟨?_, fun a m o e => ?_⟩⟩
      · have h1 := stb_mono (stb_hid RF.ls)
        rw [stb_stb] at h1
        exact h1.trans (stb_mono R2.ex)
      · obtain ⟨xs, e1, e2⟩ := hF a m
        rw [e1] at e; cases e
        exact R2.ex _ _ e2
    · rw [List.getElem?_set_ne (Ne.symm hj)] at h
      rw [fset_ne hj]
      have q1 := R2.sl j s (by rw [List.getElem?_set_ne (Ne.symm hj)]; exact h)
      have hcs := hc j s hj h
      cases s with
      | dead => exact q1
      | ad a => exact q1
      | dc m => exact q1
      | fz w x => cases hcs
      | vw x => cases hcs
      | tr u => exact q1
      | ow a u => exact q1
      | sh x =>
        obtain ⟨q0, w, q1, q2⟩ := q1
        refine ⟨q0, w, q1, imm_hid lsN (q2.mono hid_ex) hcs⟩
theorem xs_thaw {X : Cx} {W : XK} {st : Stmt} {m : MS} (i : Nat) (h : XS X W st m) : XS X W st (mThaw i m) := let ⟨_, p, s⟩ := h; ⟨_, p, sim_thaw s⟩
theorem xss_frz {X : Cx} {W : XK} {st : List Stmt} {m : MS} (i : Nat) (h : XSs X W st m) : XSs X W st (mFrz i m) := by
  obtain ⟨t, p, s⟩ := h
  refine ⟨_, p, fun G H σ ρ fp o D R hm q => ?_⟩
  unfold mFrz at hm
  split at hm
  · rename_i ss hi
    obtain ⟨_, _, _, _, R'⟩ := R.frz hi
    exact s G H σ _ _ o D R' hm q
  · cases hm
end
end DL

set_option Elab.async false
set_option linter.all false
set_option maxRecDepth 100000
set_option maxHeartbeats 4000000
/-! Returns that hand on what names own. -/
namespace DL
open PySem PySem.Spec PyProof.Rows L2
open Evl (Ex)
abbrev MM := Env → Option S
abbrev MMs := Env → Option (List S)
def Own (H : Hp) (fp : Nat → List Addr) (ks : List Nat) (F : List Addr) : Prop := ∀ a ∈ F, (∃ i ∈ ks, a ∈ fp i) ∨ H a = none
def SimM (K : PySem.W.Frag) (ks : List Nat) (t : TE) (m : MM) : Prop := ∀ G H σ ρ fp s (Q : VK), RelF K G H σ ρ fp → m ρ = some s → (∀ v F H1, Ex H H1 → Rep K H1 s v F → Own H fp ks F → Q v H1) → t σ H Q
def SimMs (K : PySem.W.Frag) (ks : List Nat) (t : TA) (m : MMs) : Prop := ∀ G H σ ρ fp ss (Q : List V → Hp → Prop), RelF K G H σ ρ fp → m ρ = some ss → (∀ vs F H1, Ex H H1 → RepL K H1 ss vs F → Own H fp ks F → Q vs H1) → t σ H Q
structure XM (X : Cx) (e : Expr) (ks : List Nat) (m : MM) : Prop where
  sim : ∃ t, PE X e t ∧ SimM X.K ks t m
structure XMs (X : Cx) (es : List Expr) (ks : List Nat) (m : MMs) : Prop where
  sim : ∃ t, PA X es t ∧ SimMs X.K ks t m
/-- two parts share nothing -/
theorem Own.dj {H H1 : Hp} {fp : Nat → List Addr} {k1 k2 : List Nat} {F1 F2 : List Addr} (dj : ∀ i j a, a ∈ fp i → a ∈ fp j → i = j) (ls : ∀ i a, a ∈ fp i → ∃ xs, H a = some (mo xs)) (e : Ex H H1) (o1 : Own H fp k1 F1) (o2 : Own H1 fp k2 F2) (l1 : ∀ a ∈ F1, ∃ xs, H1 a = some (mo xs)) (hk : ∀ i ∈ k1, i ∉ k2) : ∀ a ∈ F1, a ∉ F2 := fun a m1 m2 => by
  rcases o2 a m2 with ⟨j, hj, mj⟩ | h2
  · rcases o1 a m1 with ⟨i, hi, mi⟩ | h1
    · rw [dj i j a mi mj] at hi; exact hk j hi hj
    · obtain ⟨xs, z⟩ := ls j a mj
      rw [h1] at z; cases z
  · obtain ⟨xs, z⟩ := l1 a m1
    rw [h2] at z; cases z
theorem Own.back {H H1 : Hp} {fp : Nat → List Addr} {k : List Nat} {F : List Addr} (e : Ex H H1) (o : Own H1 fp k F) : Own H fp k F := fun a m => (o a m).imp id fun h => Evl.fresh_back e h
theorem Own.app {H : Hp} {fp : Nat → List Addr} {k1 k2 : List Nat} {F1 F2 : List Addr} (o1 : Own H fp k1 F1) (o2 : Own H fp k2 F2) : Own H fp (k1 ++ k2) (F1 ++ F2) := fun a m => by
  rcases List.mem_append.mp m with m | m
  · exact (o1 a m).imp (fun ⟨i, h, z⟩ => ⟨i, List.mem_append_left _ h, z⟩) id
  · exact (o2 a m).imp (fun ⟨i, h, z⟩ => ⟨i, List.mem_append_right _ h, z⟩) id
section
variable {X : Cx} {e a b : Expr} {es : List Expr} {k k1 k2 : List Nat} {ma mb : MM} {ms : MMs} {m : ME} {pos : Pos}
def mmV (i : Nat) : MM := fun ρ => match ρ[i]? with
  | some (.tr s) => some s
  | _ => none
theorem xm_v (i : Nat) {x : Str} {pos : Pos} (hN : X.N[i]? = some x := by rfl) (hv : Vis X.env.scope x := by first | exact Or.inl rfl | exact Or.inr (Or.inl rfl) | exact Or.inr (Or.inr rfl)) (hd : (x == ("__debug__" : Str)) = false := by decide)
    (hcd : (x == ("__classdict__" : Str)) = false := by decide) : XM X (.Name x pos) [i] (mmV i) := by
  refine ⟨_, pe_var hN hv hd hcd, fun G H σ ρ fp s Q R hm q => ?_⟩
  unfold mmV at hm
  split at hm
  · rename_i s' hs; cases hm
    obtain ⟨v, h1, h2⟩ := R.sl i _ hs
    exact ⟨v, h1, q v _ H (Evl.Ex.refl H) h2 fun a z => .inl ⟨i, List.mem_singleton.mpr rfl, z⟩⟩
  · cases hm
def mmE (m : ME) : MM := fun ρ => match m ρ with
  | some r => r.tree
  | none => none
theorem xm_e (h : XE X e m) : XM X e [] (mmE m) := by
  obtain ⟨t, p, s⟩ := h
  refine ⟨_, p, fun G H σ ρ fp s' Q R hm q => ?_⟩
  unfold mmE at hm
  split at hm
  · rename_i r e1
    exact s G H σ ρ fp r _ R e1 fun v F H1 x1 o1 => q v F H1 x1 (o1.tree hm) fun a z => .inr (o1.fresh a z)
  · cases hm
def mmAdd (ma mb : MM) : MM := fun ρ => match ma ρ, mb ρ with
  | some (.own xs), some (.own ys) => if xs.length + ys.length ≤ 100000 then some (.own (xs ++ ys)) else none
  | _, _ => none
theorem xm_add (ha : XM X a k1 ma) (hb : XM X b k2 mb) (hk : ∀ i ∈ k1, i ∉ k2 := by decide) : XM X (.BinOp a .Add b pos) (k1 ++ k2) (mmAdd ma mb) := by
  obtain ⟨ta, p, s⟩ := ha
  obtain ⟨tb, p', s'⟩ := hb
  refine ⟨_, pe_op (op_add.or (op_add_str.or op_cat)) p p', fun G H σ ρ fp r Q R hm q => ?_⟩
  unfold mmAdd at hm
  split at hm
  · rename_i xs ys e1 e2
    split at hm
    · rename_i hl; cases hm
      refine s G H σ ρ fp _ _ R e1 fun v F1 H1 x1 r1 o1 => ?_
      refine s' G H1 σ ρ fp _ _ (R.grow x1) e2 fun w F2 H2 x2 r2 o2 => ?_
      have l1 := r1.ls
      cases r1 with
      | own h1 t1 n1 =>
        cases r2 with
        | own h2 t2 n2 =>
          have dj := Own.dj R.dj R.ls x1 o1 o2 l1 hk
          refine .inr (.inr ⟨_, _, _, _, rfl, rfl, x2 _ _ h1, h2, ?_, fun p hp => ?_⟩)
          · rw [← t1.len, ← t2.len]; exact Evl.sz_of hl
          · have x3 : ∀ zs, Ex H2 (upd H2 p (.lst zs)) := fun _ => Evl.Ex.new hp
            have t12 := (t1.mono x2).append t2 fun a m1 m2 => dj a (List.mem_cons_of_mem _ m1) (List.mem_cons_of_mem _ m2)
            have lt := t12.ls
            refine q _ _ _ (x1.trans (x2.trans (x3 _))) (.own upd_same (t12.mono (x3 _)) fun z => ?_) fun a m => ?_
            · obtain ⟨zs, e⟩ := lt p z; rw [hp] at e; cases e
            · rcases List.mem_cons.mp m with rfl | m
              · exact .inr (Evl.fresh_back x1 (Evl.fresh_back x2 hp))
              · exact (o1.app (o2.back x1)) a (by
                  rcases List.mem_append.mp m with m | m
                  · exact List.mem_append_left _ (List.mem_cons_of_mem _ m)
                  · exact List.mem_append_right _ (List.mem_cons_of_mem _ m))
    · cases hm
  · cases hm
def mmNil : MMs := fun _ => some []
def mmCons (m : MM) (ms : MMs) : MMs := fun ρ => match m ρ, ms ρ with
  | some s, some ss => some (s :: ss)
  | _, _ => none
theorem xmn_nil : XMs X [] [] mmNil := ⟨_, pa_nil, fun G H σ ρ fp r Q R hm q => by cases hm; exact q [] [] H (Evl.Ex.refl H) .nil fun a z => by cases z⟩
theorem xmn (h : XM X e k1 ma) (hs : XMs X es k2 ms) (hk : ∀ i ∈ k1, i ∉ k2 := by decide) (hst : starEach (e :: es) X.env = (false, eval e X.env) :: starEach es X.env := by rfl) : XMs X (e :: es) (k1 ++ k2) (mmCons ma ms) := by
  obtain ⟨te, p, s⟩ := h
  obtain ⟨t, p', s'⟩ := hs
  refine ⟨_, pa_cons p p' hst, fun G H σ ρ fp r Q R hm q => ?_⟩
  unfold mmCons at hm
  split at hm
  · rename_i s1 ss e1 e2; cases hm
    refine s G H σ ρ fp _ _ R e1 fun v F1 H1 x1 r1 o1 => ?_
    refine s' G H1 σ ρ fp _ _ (R.grow x1) e2 fun vs F2 H2 x2 r2 o2 => ?_
    exact q _ _ H2 (x1.trans x2) (.cons (r1.mono x2) r2 (Own.dj R.dj R.ls x1 o1 o2 r1.ls hk)) (o1.app (o2.back x1))
  · cases hm
def mmLst (ms : MMs) : MM := fun ρ => match ms ρ with
  | some ss => if ss.length ≤ 100000 then some (.own ss) else none
  | none => none
theorem xm_lst (h : XMs X es k ms) : XM X (.List es pos) k (mmLst ms) := by
  obtain ⟨t, p, s⟩ := h
  refine ⟨_, pe_lst p, fun G H σ ρ fp r Q R hm q => ?_⟩
  unfold mmLst at hm
  split at hm
  · rename_i ss e1
    split at hm
    · rename_i hl; cases hm
      refine s G H σ ρ fp ss _ R e1 fun vs F H1 x1 r1 o1 => ⟨?_, fun p hp => ?_⟩
      · rw [← r1.len]; exact Evl.sz_of hl
      · have x2 : Ex H1 (upd H1 p (.lst vs)) := Evl.Ex.new hp
        have lt := r1.ls
        refine q _ _ _ (x1.trans x2) (.own upd_same (r1.mono x2) fun z => ?_) fun a m => ?_
        · obtain ⟨zs, e⟩ := lt p z; rw [hp] at e; cases e
        · rcases List.mem_cons.mp m with rfl | m
          · exact .inr (Evl.fresh_back x1 hp)
          · exact o1 a m
    · cases hm
  · cases hm
/-- what is handed on -/
def mRetM (m : MM) : MS := fun ρ => (m ρ).map .rt
theorem xs_retM {W : XK} (h : XM X e k ma) : XS X W (.Return (some e) pos) (mRetM ma) := by
  obtain ⟨t, p, s⟩ := h
  refine ⟨_, ps_ret p, fun G H σ ρ fp o D R hm q => ?_⟩
  unfold mRetM at hm
  rw [Option.map_eq_some_iff] at hm
  obtain ⟨s', e2, rfl⟩ := hm
  refine s G H σ ρ fp s' _ R e2 fun v F H1 x1 r1 o1 => q v F H1 (R.ex.trans x1) r1 fun a m => ?_
  rcases o1 a m with ⟨i, _, z⟩ | z
  · exact R.new i a z
  · exact Evl.fresh_back R.ex z
end
end DL

set_option Elab.async false
set_option linter.all false
set_option maxRecDepth 100000
set_option maxHeartbeats 4000000
/-! Pure lemmas about the mirrors. -/
namespace DL
open PySem PySem.Spec PyProof.Rows L2
/-! a loop, by what holds between two turns -/
theorem forGo_inv {s : Bool} {g : MG} {body : MS} {ks : List Nat} (Inv : Nat → Env → Prop) {items : List D} {ρ0 : Env} (h0 : Inv 0 ρ0)
    (step : ∀ i d ρ, items[i]? = some d → Inv i ρ → ∃ ρ1 ρ2, g s d ρ = some ρ1 ∧ (body ρ1 = some (.nx ρ2) ∨ body ρ1 = some (.ct ρ2)) ∧ Inv (i + 1) (killE ks ρ2)) :
    ∃ ρ, forGo s g body ks items ρ0 = some (.nx ρ) ∧ Inv items.length ρ := by
  induction items generalizing Inv ρ0 with
  | nil => exact ⟨ρ0, rfl, h0⟩
  | cons d ds ih =>
    obtain ⟨ρ1, ρ2, h1, h2, h3⟩ := step 0 d ρ0 rfl h0
    obtain ⟨ρ, h4, h5⟩ := ih (fun i ρ => Inv (i + 1) ρ) h3 fun i d' ρ e hi => step (i + 1) d' ρ (by simpa using e) hi
    refine ⟨ρ, ?_, h5⟩
    show (match g s d ρ0 with
      | some ρ1 => match body ρ1 with
        | some (.nx ρ2) => forGo s g body ks ds (killE ks ρ2)
        | some (.ct ρ2) => forGo s g body ks ds (killE ks ρ2)
        | some (.bk ρ2) => some (.nx ρ2)
        | o => o
      | none => none) = _
    rw [h1]
    rcases h2 with h2 | h2
    · simp only [h2]; exact h4
    · simp only [h2]; exact h4
theorem forGo_append {s : Bool} {g : MG} {body : MS} {ks : List Nat} {xs ys : List D} {ρ0 ρ1 : Env} (h : forGo s g body ks xs ρ0 = some (.nx ρ1)) (nb : ∀ ρ ρ', body ρ ≠ some (.bk ρ')) : forGo s g body ks (xs ++ ys) ρ0 = forGo s g body ks ys ρ1 := by
  induction xs generalizing ρ0 with
  | nil => cases h; rfl
  | cons d ds ih =>
    have h' : (match g s d ρ0 with
      | some ρ1 => match body ρ1 with
        | some (.nx ρ2) => forGo s g body ks ds (killE ks ρ2)
        | some (.ct ρ2) => forGo s g body ks ds (killE ks ρ2)
        | some (.bk ρ2) => some (.nx ρ2)
        | o => o
      | none => none) = some (.nx ρ1) := h
    show (match g s d ρ0 with
      | some ρ1 => match body ρ1 with
        | some (.nx ρ2) => forGo s g body ks (ds ++ ys) (killE ks ρ2)
        | some (.ct ρ2) => forGo s g body ks (ds ++ ys) (killE ks ρ2)
        | some (.bk ρ2) => some (.nx ρ2)
        | o => o
      | none => none) = _
    cases h1 : g s d ρ0 with
    | none => rw [h1] at h'; cases h'
    | some ρ2 =>
      rw [h1] at h'
      cases h2 : body ρ2 with
      | none => simp only [h2] at h'; cases h'
      | some o =>
        cases o with
        | nx ρ3 => simp only [h2] at h' ⊢; exact ih h'
        | ct ρ3 => simp only [h2] at h' ⊢; exact ih h'
        | bk ρ3 => exact (nb _ _ h2).elim
        | rt s => simp only [h2] at h'; cases h'
        | ex C => simp only [h2] at h'; cases h'
/-- over pieces -/
theorem forGo_flat {α : Type} {s : Bool} {g : MG} {body : MS} {ks : List Nat} (Inv : Nat → Env → Prop) {L : List α} {f : α → List D} {ρ0 : Env} (nb : ∀ ρ ρ', body ρ ≠ some (.bk ρ')) (h0 : Inv 0 ρ0)
    (step : ∀ k a ρ, L[k]? = some a → Inv k ρ → ∃ ρ', forGo s g body ks (f a) ρ = some (.nx ρ') ∧ Inv (k + 1) ρ') : ∃ ρ, forGo s g body ks (L.flatMap f) ρ0 = some (.nx ρ) ∧ Inv L.length ρ := by
  induction L generalizing Inv ρ0 with
  | nil => exact ⟨ρ0, rfl, h0⟩
  | cons a as ih =>
    obtain ⟨ρ1, h1, h2⟩ := step 0 a ρ0 rfl h0
    obtain ⟨ρ, h4, h5⟩ := ih (fun i ρ => Inv (i + 1) ρ) h2 fun i d' ρ e hi => step (i + 1) d' ρ (by simpa using e) hi
    refine ⟨ρ, ?_, h5⟩
    rw [List.flatMap_cons, forGo_append h1 nb]
    exact h4
theorem gather_flat {α β : Type} {f : α → Option (List β)} {h : α → List β} : ∀ {xs : List α}, (∀ x ∈ xs, f x = some (h x)) → gather f xs = some (xs.flatMap h)
  | [], _ => rfl
  | x :: xs, hx => by
    have h1 := hx x List.mem_cons_self
    have h2 := gather_flat (f := f) (h := h) (xs := xs) fun y m => hx y (List.mem_cons_of_mem _ m)
    unfold gather
    rw [h1, h2]
    simp
theorem trees_map {α : Type} {xs : List α} {f : α → R} {F : α → S} (h : ∀ x ∈ xs, (f x).tree = some (F x)) : trees (xs.map f) = some (xs.map F) := by
  induction xs with
  | nil => rfl
  | cons x xs ih =>
    have h1 := h x List.mem_cons_self
    have h2 := ih fun y m => h y (List.mem_cons_of_mem _ m)
    unfold trees
    simp only [List.map_cons, h1, h2]
theorem nrm_tree {r : R} {s : S} (h : r.tree = some s) : (nrm r).tree = some s ∧ noVw (nrm r) = true := by
  cases r with
  | sh x => exact ⟨h, rfl⟩
  | tr t => exact ⟨h, rfl⟩
  | vw x =>
    have h : (if imm x = true then some (S.d x) else none) = some s := h
    by_cases i : imm x = true
    · rw [if_pos i] at h; cases h
      show (if imm x = true then R.sh x else R.vw x).tree = _ ∧ noVw (if imm x = true then R.sh x else R.vw x) = true
      rw [if_pos i]
      refine ⟨?_, rfl⟩
      show (if imm x = true then some (S.d x) else none) = _
      rw [if_pos i]
    · rw [if_neg i] at h; cases h
theorem lcRes_map {α : Type} {xs : List α} {f : α → R} {F : α → S} (h : ∀ x ∈ xs, (f x).tree = some (F x)) : lcRes (xs.map fun x => nrm (f x)) = some (.tr (.own (xs.map F))) := by
  unfold lcRes
  have h1 : (xs.map fun x => nrm (f x)).all noVw = true := by
    rw [List.all_eq_true]
    intro r m
    obtain ⟨x, hx, rfl⟩ := List.mem_map.mp m
    exact (nrm_tree (h x hx)).2
  rw [if_pos h1, trees_map (F := F) fun x hx => (nrm_tree (h x hx)).1]
theorem flatMap_if {α β : Type} (p : α → Bool) (f : α → β) : ∀ xs : List α, (xs.flatMap fun x => if p x = true then [f x] else []) = (xs.filter p).map f
  | [] => rfl
  | x :: xs => by
    rw [List.flatMap_cons, flatMap_if p f xs, List.filter_cons]
    by_cases h : p x = true
    · rw [if_pos h, if_pos h]; rfl
    · rw [if_neg h, if_neg h]; rfl
/-- a comprehension of one clause -/
theorem mLc_eval {mi : MI} {g : MG} {mt : MT} {me : ME} {vs : List Nat} {ρ : Env} {s : Bool} {items : List D} (p : D → Bool) (f : D → R) (F : D → S) (hi : mi ρ = some (s, items)) (hl : items.length ≤ 100000) (hd : vs.all (fun i => isDead ρ[i]?) = true)
    (ht : ∀ d ∈ items, ∃ ρ', g s d ρ = some ρ' ∧ mt ρ' = some (p d) ∧ (p d = true → me ρ' = some (f d) ∧ (f d).tree = some (F d))) : mLc mi g mt me vs ρ = some (.tr (.own ((items.filter p).map F))) := by
  unfold mLc
  simp only [hi]
  rw [if_pos ⟨hl, hd⟩]
  have h1 : gather (lcTurn s g mt me ρ) items = some (items.flatMap fun d => if p d = true then [nrm (f d)] else []) := gather_flat fun d m => by
    obtain ⟨ρ', h1, h2, h3⟩ := ht d m
    unfold lcTurn
    simp only [h1, h2]
    by_cases hp : p d = true
    · rw [hp, if_pos rfl]; simp only [(h3 hp).1]; rfl
    · have : p d = false := by simpa using hp
      rw [this]; rfl
  rw [h1]
  show lcRes _ = _
  rw [flatMap_if p fun d => nrm (f d)]
  refine lcRes_map fun x m => ?_
  rw [List.mem_filter] at m
  obtain ⟨ρ', h1, h2, h3⟩ := ht x m.1
  exact (h3 m.2).2
/-- of two clauses -/
theorem mLc2_eval {mi mi1 : MI} {g g1 : MG} {mt mt1 : MT} {me : ME} {vs vs1 : List Nat} {ρ : Env} {items : List D} (p1 : D → D → Bool) (its : D → List D) (f : D → D → R) (F : D → D → S) (hi : mi ρ = some (true, items)) (hd : vs.all (fun i => isDead (killVw ρ)[i]?) = true)
    (ht : ∀ d ∈ items, ∃ ρ', g true d (killVw ρ) = some ρ' ∧ mt ρ' = some true ∧ mi1 (killVw ρ') = some (true, its d) ∧ vs1.all (fun i => isDead (killVw ρ')[i]?) = true ∧
      ∀ d1 ∈ its d, ∃ ρ1, g1 true d1 (killVw ρ') = some ρ1 ∧ mt1 ρ1 = some (p1 d d1) ∧ (p1 d d1 = true → me ρ1 = some (f d d1) ∧ (f d d1).tree = some (F d d1)))
    (hl : (items.flatMap fun d => (its d).filter (p1 d)).length ≤ 100000) : mLc2 mi g mt mi1 g1 mt1 me vs vs1 ρ = some (.tr (.own (items.flatMap fun d => ((its d).filter (p1 d)).map (F d)))) := by
  unfold mLc2
  simp only [hi]
  rw [if_pos hd]
  have h1 : gather (lcTurn2 true g mt mi1 g1 mt1 me vs1 (killVw ρ)) items = some (items.flatMap fun d => ((its d).filter (p1 d)).map fun d1 => nrm (f d d1)) := gather_flat fun d m => by
    obtain ⟨ρ', h1, h2, h3, h4, h5⟩ := ht d m
    unfold lcTurn2
    simp only [h1, h2, h3]
    rw [if_pos h4, ← flatMap_if]
    refine gather_flat fun d1 m1 => ?_
    obtain ⟨ρ1, k1, k2, k3⟩ := h5 d1 m1
    unfold lcTurn
    simp only [k1, k2]
    by_cases hp : p1 d d1 = true
    · rw [hp, if_pos rfl]; simp only [(k3 hp).1]; rfl
    · have : p1 d d1 = false := by simpa using hp
      rw [this]; rfl
  rw [h1]
  have e : (items.flatMap fun d => ((its d).filter (p1 d)).map fun d1 => nrm (f d d1)) = (items.flatMap fun d => ((its d).filter (p1 d)).map fun d1 => (d, d1)).map fun x => nrm (f x.1 x.2) := by
    rw [List.map_flatMap]; simp [Function.comp_def]
  have e2 : (items.flatMap fun d => ((its d).filter (p1 d)).map (F d)) = (items.flatMap fun d => ((its d).filter (p1 d)).map fun d1 => (d, d1)).map fun x => F x.1 x.2 := by
    rw [List.map_flatMap]; simp [Function.comp_def]
  show (if _ then _ else _) = _
  rw [if_pos]
  · rw [e, e2]
    refine lcRes_map fun x m => ?_
    obtain ⟨d, hd1, hx⟩ := List.mem_flatMap.mp m
    obtain ⟨d1, hd2, rfl⟩ := List.mem_map.mp hx
    rw [List.mem_filter] at hd2
    obtain ⟨ρ', h1, h2, h3, h4, h5⟩ := ht d hd1
    obtain ⟨ρ1, k1, k2, k3⟩ := h5 d1 hd2.1
    exact (k3 hd2.2).2
  · refine Nat.le_trans (Nat.le_of_eq ?_) hl
    simp [List.length_flatMap]
/-! what may be compared, and how -/
mutual
/-- no text, no deeper than n -/
def flt : Nat → D → Bool
  | _, .non => true
  | _, .bl _ => true
  | _, .int _ => true
  | _, .str _ => false
  | 0, .lst _ => false
  | 0, .tup _ => false
  | _, .scr _ => false
  | _, .ktp _ => false
  | n + 1, .lst xs => fltL n xs
  | n + 1, .tup xs => fltL n xs
def fltL : Nat → List D → Bool
  | _, [] => true
  | n, x :: xs => flt n x && fltL n xs
end
mutual
theorem flt_py : ∀ (n : Nat) (d : D), flt n d = true → d.py.canLay0 = true ∧ d.py.depth ≤ n
  | n, .non, _ => by simp [D.py, PyData.canLay0, PyData.depth]
  | n, .bl _, _ => by simp [D.py, PyData.canLay0, PyData.depth]
  | n, .int _, _ => by simp [D.py, PyData.canLay0, PyData.depth]
  | n, .str _, h => by cases n <;> simp [flt] at h
  | n, .scr _, h => by cases n <;> simp [flt] at h
  | n, .ktp _, h => by cases n <;> simp [flt] at h
  | 0, .lst _, h => by simp [flt] at h
  | 0, .tup _, h => by simp [flt] at h
  | n + 1, .lst xs, h => by
    have := fltL_py n xs (by simpa [flt] using h)
    simp only [D.py, PyData.canLay0, PyData.depth]
    exact ⟨this.1, by omega⟩
  | n + 1, .tup xs, h => by
    have := fltL_py n xs (by simpa [flt] using h)
    simp only [D.py, PyData.canLay0, PyData.depth]
    exact ⟨this.1, by omega⟩
theorem fltL_py : ∀ (n : Nat) (ds : List D), fltL n ds = true → PyData.canLayAll0 (D.pyL ds) = true ∧ PyData.depthAll (D.pyL ds) ≤ n
  | n, [], _ => by simp [D.pyL, PyData.canLayAll0, PyData.depthAll]
  | n, d :: ds, h => by
    have h' : flt n d = true ∧ fltL n ds = true := by simpa [fltL] using h
    have h1 := flt_py n d h'.1
    have h2 := fltL_py n ds h'.2
    simp only [D.pyL, PyData.canLayAll0, PyData.depthAll, Bool.and_eq_true]
    exact ⟨⟨h1.1, h2.1⟩, by omega⟩
end
theorem ok_flt {n : Nat} {d : D} (h : flt n d = true) (hn : n ≤ 64) : d.ok = true := by
  have := flt_py n d h
  unfold D.ok SeqAt.shaped
  rw [this.1]
  simp
  omega
theorem fltL_all {n : Nat} : ∀ {ds : List D}, (∀ d ∈ ds, flt n d = true) → fltL n ds = true
  | [], _ => by simp [fltL]
  | d :: ds, h => by
    have := fltL_all (n := n) (ds := ds) fun x m => h x (List.mem_cons_of_mem _ m)
    simp [fltL, h d List.mem_cons_self, this]
theorem flt_int {n : Nat} {i : Int} : flt n (.int i) = true := by cases n <;> rfl
@[simp] theorem gEq_int (neg : Bool) (i j : Int) : gEq neg (.int i) (.int j) = some (.bl (if neg = true then !decide (i = j) else decide (i = j))) := by
  unfold gEq
  rw [ok_flt (n := 0) flt_int (by decide), ok_flt (n := 0) flt_int (by decide)]
  have e : D.eqv (.int i) (.int j) = decide (i = j) := by simp [D.eqv, D.py, PyData.eqv, Bool.beq_eq_decide_eq]
  rw [e]; rfl
/-- the equality of lists of such -/
theorem eqvAll_map {α : Type} [DecidableEq α] {f : α → D} (h : ∀ x y, D.eqv (f x) (f y) = decide (x = y)) : ∀ xs ys : List α, PyData.eqvAll (D.pyL (xs.map f)) (D.pyL (ys.map f)) = decide (xs = ys)
  | [], [] => by simp [D.pyL, PyData.eqvAll]
  | [], _ :: _ => by simp [D.pyL, PyData.eqvAll]
  | _ :: _, [] => by simp [D.pyL, PyData.eqvAll]
  | x :: xs, y :: ys => by
    have h1 : PyData.eqv (f x).py (f y).py = decide (x = y) := h x y
    simp only [List.map_cons, D.pyL, PyData.eqvAll, h1, eqvAll_map h xs ys]
    by_cases e : x = y <;> simp [e]
theorem eqv_int (i j : Int) : D.eqv (.int i) (.int j) = decide (i = j) := by simp [D.eqv, D.py, PyData.eqv, Bool.beq_eq_decide_eq]
theorem eqv_lst {α : Type} [DecidableEq α] {f : α → D} (h : ∀ x y, D.eqv (f x) (f y) = decide (x = y)) (xs ys : List α) : D.eqv (.lst (xs.map f)) (.lst (ys.map f)) = decide (xs = ys) := by
  have := eqvAll_map h xs ys
  simpa [D.eqv, D.py, PyData.eqv] using this
theorem eqv_tup {α : Type} [DecidableEq α] {f : α → D} (h : ∀ x y, D.eqv (f x) (f y) = decide (x = y)) (xs ys : List α) : D.eqv (.tup (xs.map f)) (.tup (ys.map f)) = decide (xs = ys) := by
  have := eqvAll_map h xs ys
  simpa [D.eqv, D.py, PyData.eqv] using this
/-! rows and tables -/
def dRow (r : List Int) : D := .lst (r.map .int)
def dTab (t : List (List Int)) : D := .lst (t.map dRow)
def sRow (r : List Int) : S := .own (r.map fun n => .d (.int n))
def sTab (t : List (List Int)) : S := .own (t.map sRow)
theorem sRow_data (r : List Int) : (sRow r).data = dRow r := by
  unfold sRow dRow
  simp [S.data, S.dataL_map, Function.comp_def]
theorem sTab_data (t : List (List Int)) : (sTab t).data = dTab t := by
  unfold sTab dTab
  simp [S.data, S.dataL_map, Function.comp_def, sRow_data]
theorem eqv_tab (t u : List (List Int)) : D.eqv (dTab t) (dTab u) = decide (t = u) := eqv_lst (eqv_lst eqv_int) t u
theorem flt_row {n : Nat} (r : List Int) : flt (n + 1) (dRow r) = true := by
  show fltL n (r.map .int) = true
  exact fltL_all fun d m => by obtain ⟨i, _, rfl⟩ := List.mem_map.mp m; exact flt_int
theorem flt_tab (t : List (List Int)) : flt 2 (dTab t) = true := by
  show fltL 1 (t.map dRow) = true
  exact fltL_all fun d m => by obtain ⟨r, _, rfl⟩ := List.mem_map.mp m; exact flt_row r
theorem gEq_tab (neg : Bool) (t u : List (List Int)) : gEq neg (dTab t) (dTab u) = some (.bl (if neg = true then !decide (t = u) else decide (t = u))) := by
  unfold gEq
  rw [ok_flt (flt_tab t) (by decide), ok_flt (flt_tab u) (by decide), eqv_tab]; rfl
/-! items -/
@[simp] theorem atI_int_lt {α : Type} {xs : List α} {i : Nat} {x : α} (h : xs[i]? = some x) : atI xs (i : Int) = some x := atI_nat h
theorem imm_ints (ns : List Int) : immL (ns.map .int) = true := immL_iff.mpr fun d m => by obtain ⟨i, _, rfl⟩ := List.mem_map.mp m; rfl
end DL

set_option Elab.async false
set_option linter.all false
set_option maxRecDepth 100000
set_option maxHeartbeats 4000000
/-! Dicts held by a name; texts; x += e. -/
namespace DL
open PySem PySem.Spec PyProof.Rows L2
open Evl (Ex)
/-! ### x += e -/
section
variable {X : Cx} {W : XK} {e k v o : Expr} {ma mb mk mv me : ME} {pos : Pos} {x : Str}
def mAug (i : Nat) (f : Int → Int → Int) (m : ME) : MS := fun ρ => match ρ[i]?, m ρ with
  | some (.sh (.int a)), some r => match r.data with
    | .int b => some (.nx (ρ.set i (.sh (.int (f a b)))))
    | _ => none
  | _, _ => none
theorem sim_aug {K : PySem.W.Frag} {te : TE} {i : Nat} {f : Int → Int → Int} (s : SimE K te ma) : SimS K W (tAug i te (ipI f)) (mAug i f ma) := fun G H σ ρ fp o D R hm q => by
  unfold mAug at hm
  split at hm
  · rename_i a r h0 h1
    split at hm
    · rename_i b h2; cases hm
      obtain ⟨_, v, h3, h4⟩ := R.sl i _ h0
      cases h4
      refine ⟨_, h3, s G H σ ρ fp r _ R h1 fun w F H1 x1 o1 => ?_⟩
      have z := o1.data
      rw [h2] at z; cases z
      exact ⟨a, b, rfl, rfl, q _ H1 _ (R.set x1 (Fl.int (f a b)).rok)⟩
    · cases hm
  · cases hm
theorem xs_augAdd {i : Nat} {pos' : Pos} (hN : X.N.Nodup) (hi : X.N[i]? = some x) (hx : Loc X.env.scope x) (he : XE X e ma) (hf : X.fn x = true ∨ X.env.scope.names.lookup x = some .local := by first | exact .inl rfl | exact .inr rfl | assumption) :
    XS X W (.AugAssign (.Name x pos') .Add e pos) (mAug i (fun a b => a + b) ma) := by
  obtain ⟨t, p, s⟩ := he
  exact ⟨_, ps_aug hN hi hx p ip_add hf, sim_aug s⟩
theorem xs_augSub {i : Nat} {pos' : Pos} (hN : X.N.Nodup) (hi : X.N[i]? = some x) (hx : Loc X.env.scope x) (he : XE X e ma) (hf : X.fn x = true ∨ X.env.scope.names.lookup x = some .local := by first | exact .inl rfl | exact .inr rfl | assumption) :
    XS X W (.AugAssign (.Name x pos') .Sub e pos) (mAug i (fun a b => a - b) ma) := by
  obtain ⟨t, p, s⟩ := he
  exact ⟨_, ps_aug hN hi hx p ip_sub hf, sim_aug s⟩

/-! ### texts -/
def strs? : List D → Option (List Str)
  | [] => some []
  | .str x :: r => (strs? r).map (x :: ·)
  | _ => none
theorem strs?_inv {K : PySem.W.Frag} {H : Hp} : ∀ {ds : List D} {vs : List V} {xs : List Str}, DtL K H vs ds → strs? ds = some xs → vs = xs.map V.str
  | [], _, _, h, e => by cases h; cases e; rfl
  | .str x :: r, _, _, h, e => by
    simp only [strs?, Option.map_eq_some_iff] at e
    obtain ⟨ys, e, rfl⟩ := e
    cases h with
    | cons h1 h2 => cases h1; rw [strs?_inv h2 e]; rfl
/-- sep.join(xs), a list of texts -/
def mJoin (ma mb : ME) : ME := fun ρ => match ma ρ, mb ρ with
  | some x, some y => match x.data, y.data with
    | .str a, .lst ds => match strs? ds with
      | some ys => if (ys.map (·.length)).sum + ys.length * a.length ≤ 16777216 then some (.sh (.str (Txt.join a ys))) else none
      | none => none
    | _, _ => none
  | _, _ => none
theorem x_join {apos : Pos} (ho : XE X o ma) (he : XE X e mb) (hs : starEach [e] X.env = [(false, eval e X.env)] := by rfl) (hbase : attributeBase o "join" X.env (eval o X.env) = eval o X.env := by rfl) (hline : (apos.endLine == pos.line) = true := by rfl) :
    XE X (.Call (.Attribute o "join" apos) [e] [] pos) (mJoin ma mb) := by
  obtain ⟨t, p, s⟩ := ho
  obtain ⟨u, p2, s2⟩ := he
  refine ⟨_, pe_join p p2 hs hbase hline, fun G H σ ρ fp r Q R hm q => ?_⟩
  unfold mJoin at hm
  split at hm
  · rename_i x y e1 e2
    split at hm
    · rename_i a ds e3 e4
      split at hm
      · rename_i ys e5
        split at hm
        · rename_i hl; cases hm
          refine s G H σ ρ fp x _ R e1 fun v F H1 x1 o1 => ?_
          have z := o1.data
          rw [e3] at z; cases z
          refine ⟨⟨_, rfl⟩, s2 G H1 σ ρ fp y _ (R.grow x1) e2 fun w F2 H2 x2 o2 => ?_⟩
          have z := o2.data
          rw [e4] at z
          cases z with
          | lst h t =>
            have := strs?_inv t e5; subst this
            exact ⟨a, _, ys, rfl, rfl, .inl (SqL.of h), hl, q _ [] H2 (x1.trans x2) (Fl.str _).rok⟩
        · cases hm
      · cases hm
    · cases hm
  · cases hm
/-- s.count(t) -/
def mCount (ma mb : ME) : ME := fun ρ => match ma ρ, mb ρ with
  | some x, some y => match x.data, y.data with
    | .str a, .str b => some (.sh (.int (Txt.count a b)))
    | _, _ => none
  | _, _ => none
theorem x_count {apos : Pos} (ho : XE X o ma) (he : XE X e mb) (hs : starEach [e] X.env = [(false, eval e X.env)] := by rfl) (hbase : attributeBase o "count" X.env (eval o X.env) = eval o X.env := by rfl) (hline : (apos.endLine == pos.line) = true := by rfl) :
    XE X (.Call (.Attribute o "count" apos) [e] [] pos) (mCount ma mb) := by
  obtain ⟨t, p, s⟩ := ho
  obtain ⟨u, p2, s2⟩ := he
  refine ⟨_, pe_m1 F.slot_str_count F.type_str_count mt_count p p2 hs hbase hline, fun G H σ ρ fp r Q R hm q => ?_⟩
  unfold mCount at hm
  split at hm
  · rename_i x y e1 e2
    split at hm
    · rename_i a b e3 e4; cases hm
      refine s G H σ ρ fp x _ R e1 fun v F H1 x1 o1 => ?_
      have z := o1.data
      rw [e3] at z; cases z
      refine ⟨⟨_, rfl⟩, s2 G H1 σ ρ fp y _ (R.grow x1) e2 fun w F2 H2 x2 o2 => ?_⟩
      have z := o2.data
      rw [e4] at z; cases z
      exact ⟨a, b, rfl, rfl, q _ [] H2 (x1.trans x2) (Fl.int _).rok⟩
    · cases hm
  · cases hm

/-! ### dicts -/
def keyD : D → Option Key
  | .int i => some (.inl i)
  | .str x => some (.inr x)
  | _ => none
def keysD : List D → Option (List Key)
  | [] => some []
  | d :: r => match keyD d, keysD r with
    | some k, some ks => some (k :: ks)
    | _, _ => none
theorem keyD_inv {K : PySem.W.Frag} {H : Hp} {v : V} {d : D} {k : Key} (h : Dt K H v d) (e : keyD d = some k) : v = kV k := by
  cases h <;> cases e <;> rfl
theorem keysD_inv {K : PySem.W.Frag} {H : Hp} : ∀ {ds : List D} {vs : List V} {ks : List Key}, DtL K H vs ds → keysD ds = some ks → vs = ks.map kV
  | [], _, _, h, e => by cases h; cases e; rfl
  | d :: r, _, _, h, e => by
    unfold keysD at e
    split at e
    · rename_i k ks e1 e2; cases e
      cases h with
      | cons h1 h2 => rw [keyD_inv h1 e1, keysD_inv h2 e2]; rfl
    · cases e
/-- what stands in it at a key; none: it is no key for it -/
def getM (m : Mu) (d : D) : Option (Option V) := match m, d with
  | .k kvs, .int i => some (valV kvs (.inl i))
  | .k kvs, .str x => some (valV kvs (.inr x))
  | .t kvs, .tup ds => (keysD ds).map fun k => valV kvs k
  | _, _ => none
def putM (m : Mu) (d : D) (v : V) : Option Mu := match m, d with
  | .k kvs, .int i => if kvs.length < 100000 then some (.k (putK kvs (.inl i) v)) else none
  | .k kvs, .str x => if kvs.length < 100000 then some (.k (putK kvs (.inr x) v)) else none
  | .t kvs, .tup ds => match keysD ds with
    | some k => if kvs.length < 100000 then some (.t (putK kvs k v)) else none
    | none => none
  | _, _ => none
theorem getM_ok {K : PySem.W.Frag} {H : Hp} {a : Addr} {m : Mu} {y : V} {d : D} {r : Option V} (ha : H a = some (mo m)) (h : Dt K H y d) (e : getM m d = some r) : DGet H a y r := by
  unfold getM at e
  split at e
  · cases e; cases h; exact DGet.k (k := Sum.inl _) ha
  · cases e; cases h; exact DGet.k (k := Sum.inr _) ha
  · rw [Option.map_eq_some_iff] at e
    obtain ⟨k, e, rfl⟩ := e
    cases h with
    | tup h t =>
      have := keysD_inv t e; subst this
      exact DGet.t ha h
  · cases e
theorem size100 {n : Nat} (h : n < 100000) : n < sizeLine := Nat.lt_of_lt_of_le h (by decide)
theorem putM_ok {K : PySem.W.Frag} {H : Hp} {a : Addr} {m m' : Mu} {y v : V} {d : D} (ha : H a = some (mo m)) (h : Dt K H y d) (e : putM m d v = some m') : DPut H a y v (upd H a (mo m')) := by
  unfold putM at e
  split at e
  · split at e
    · rename_i hl; cases e; cases h; exact DPut.k (k := Sum.inl _) ha (size100 hl)
    · cases e
  · split at e
    · rename_i hl; cases e; cases h; exact DPut.k (k := Sum.inr _) ha (size100 hl)
    · cases e
  · split at e
    · rename_i k e1
      split at e
      · rename_i hl; cases e
        cases h with
        | tup h t =>
          have := keysD_inv t e1; subst this
          exact DPut.t ha h (size100 hl)
      · cases e
    · cases e
  · cases e
/-- k in d, k not in d; d a name -/
def mIn (neg : Bool) (mk : ME) (i : Nat) : ME := fun ρ => match ρ[i]?, mk ρ with
  | some (.dc m), some r => (getM m r.data).map fun o => .sh (.bl (neg != o.isSome))
  | _, _ => none
theorem mo_grow {H H' : Hp} {a : Addr} {m : Mu} (e : Ex H H') (h : H a = some (mo m)) : H' a = some (mo m) := e _ _ h
theorem x_in {i : Nat} {p : Pos} (hu : X.A.units + 1 < cLine) (hk : XE X k mk) (hN : X.N[i]? = some x := by rfl) (hv : Vis X.env.scope x := by first | exact Or.inl rfl | exact Or.inr (Or.inl rfl) | exact Or.inr (Or.inr rfl)) (hd : (x == ("__debug__" : Str)) = false := by decide)
    (hcd : (x == ("__classdict__" : Str)) = false := by decide) : XE X (.Compare k [.In] [.Name x p] pos) (mIn false mk i) := by
  obtain ⟨t, pk, s⟩ := hk
  refine ⟨_, pe_cmp (pc_din hu pk (pe_var hN hv hd hcd)), fun G H σ ρ fp r Q R hm q => ?_⟩
  unfold mIn at hm
  split at hm
  · rename_i m r' h0 e1
    rw [Option.map_eq_some_iff] at hm
    obtain ⟨o, e2, rfl⟩ := hm
    obtain ⟨a, h1, h2, h3⟩ := R.sl i _ h0
    refine s G H σ ρ fp r' _ R e1 fun v F H1 x1 o1 => ⟨.ref a, h1, a, o, rfl, getM_ok (mo_grow x1 h3) o1.data e2, ?_⟩
    have : (false != o.isSome) = o.isSome := by cases o <;> rfl
    rw [← this]
    exact q _ [] H1 x1 (Fl.bl _).rok
  · cases hm
theorem x_notin {i : Nat} {p : Pos} (hu : X.A.units + 1 < cLine) (hk : XE X k mk) (hN : X.N[i]? = some x := by rfl) (hv : Vis X.env.scope x := by first | exact Or.inl rfl | exact Or.inr (Or.inl rfl) | exact Or.inr (Or.inr rfl)) (hd : (x == ("__debug__" : Str)) = false := by decide)
    (hcd : (x == ("__classdict__" : Str)) = false := by decide) : XE X (.Compare k [.NotIn] [.Name x p] pos) (mIn true mk i) := by
  obtain ⟨t, pk, s⟩ := hk
  refine ⟨_, pe_cmp (pc_dnotin hu pk (pe_var hN hv hd hcd)), fun G H σ ρ fp r Q R hm q => ?_⟩
  unfold mIn at hm
  split at hm
  · rename_i m r' h0 e1
    rw [Option.map_eq_some_iff] at hm
    obtain ⟨o, e2, rfl⟩ := hm
    obtain ⟨a, h1, h2, h3⟩ := R.sl i _ h0
    refine s G H σ ρ fp r' _ R e1 fun v F H1 x1 o1 => ⟨.ref a, h1, a, o, rfl, getM_ok (mo_grow x1 h3) o1.data e2, ?_⟩
    have : (true != o.isSome) = !o.isSome := by cases o <;> rfl
    rw [← this]
    exact q _ [] H1 x1 (Fl.bl _).rok
  · cases hm
theorem xt_in {i : Nat} {p : Pos} (hu : X.A.units + 1 < cLine) (hk : XE X k mk) (hN : X.N[i]? = some x := by rfl) (hv : Vis X.env.scope x := by first | exact Or.inl rfl | exact Or.inr (Or.inl rfl) | exact Or.inr (Or.inr rfl)) (hd : (x == ("__debug__" : Str)) = false := by decide)
    (hcd : (x == ("__classdict__" : Str)) = false := by decide) : XT X (.Compare k [.In] [.Name x p] pos) (mTst (mIn false mk i)) := by
  obtain ⟨t, pk, s⟩ := hk
  refine ⟨_, pt_cmp (pc_din hu pk (pe_var hN hv hd hcd)), sim_B fun G H σ ρ fp r Q R hm q => ?_⟩
  unfold mIn at hm
  split at hm
  · rename_i m r' h0 e1
    rw [Option.map_eq_some_iff] at hm
    obtain ⟨o, e2, rfl⟩ := hm
    obtain ⟨a, h1, h2, h3⟩ := R.sl i _ h0
    refine s G H σ ρ fp r' _ R e1 fun v F H1 x1 o1 => ⟨.ref a, h1, a, o, rfl, getM_ok (mo_grow x1 h3) o1.data e2, ?_⟩
    have : (false != o.isSome) = o.isSome := by cases o <;> rfl
    rw [← this]
    exact q _ [] H1 x1 (Fl.bl _).rok
  · cases hm
theorem xt_notin {i : Nat} {p : Pos} (hu : X.A.units + 1 < cLine) (hk : XE X k mk) (hN : X.N[i]? = some x := by rfl) (hv : Vis X.env.scope x := by first | exact Or.inl rfl | exact Or.inr (Or.inl rfl) | exact Or.inr (Or.inr rfl)) (hd : (x == ("__debug__" : Str)) = false := by decide)
    (hcd : (x == ("__classdict__" : Str)) = false := by decide) : XT X (.Compare k [.NotIn] [.Name x p] pos) (mTst (mIn true mk i)) := by
  obtain ⟨t, pk, s⟩ := hk
  refine ⟨_, pt_cmp (pc_dnotin hu pk (pe_var hN hv hd hcd)), sim_B fun G H σ ρ fp r Q R hm q => ?_⟩
  unfold mIn at hm
  split at hm
  · rename_i m r' h0 e1
    rw [Option.map_eq_some_iff] at hm
    obtain ⟨o, e2, rfl⟩ := hm
    obtain ⟨a, h1, h2, h3⟩ := R.sl i _ h0
    refine s G H σ ρ fp r' _ R e1 fun v F H1 x1 o1 => ⟨.ref a, h1, a, o, rfl, getM_ok (mo_grow x1 h3) o1.data e2, ?_⟩
    have : (true != o.isSome) = !o.isSome := by cases o <;> rfl
    rw [← this]
    exact q _ [] H1 x1 (Fl.bl _).rok
  · cases hm
/-- what is flat -/
def flD : V → Option D
  | .non => some .non
  | .bl b => some (.bl b)
  | .int i => some (.int i)
  | .str x => some (.str x)
  | _ => none
theorem flD_ok {v : V} {d : D} (e : flD v = some d) : Fl v d := by
  unfold flD at e
  split at e <;> cases e <;> constructor
def flV : D → Option V
  | .non => some .non
  | .bl b => some (.bl b)
  | .int i => some (.int i)
  | .str x => some (.str x)
  | _ => none
theorem flV_ok {K : PySem.W.Frag} {H : Hp} {v w : V} {d : D} (h : Dt K H v d) (e : flV d = some w) : v = w := by
  cases h <;> cases e <;> rfl
/-- d[k], d a name -/
def mDGet (i : Nat) (mk : ME) : ME := fun ρ => match ρ[i]?, mk ρ with
  | some (.dc m), some r => match getM m r.data with
    | some (some v) => (flD v).map .sh
    | _ => none
  | _, _ => none
theorem x_dget {i : Nat} {p : Pos} (hu : X.A.units + 1 < cLine) (hk : XE X k mk) (hs : NoSl k := by exact fun _ _ => rfl) (hN : X.N[i]? = some x := by rfl) (hv : Vis X.env.scope x := by first | exact Or.inl rfl | exact Or.inr (Or.inl rfl) | exact Or.inr (Or.inr rfl)) (hd : (x == ("__debug__" : Str)) = false := by decide)
    (hcd : (x == ("__classdict__" : Str)) = false := by decide) : XE X (.Subscript (.Name x p) k pos) (mDGet i mk) := by
  obtain ⟨t, pk, s⟩ := hk
  refine ⟨_, pe_dget hu (pe_var hN hv hd hcd) pk hs, fun G H σ ρ fp r Q R hm q => ?_⟩
  unfold mDGet at hm
  split at hm
  · rename_i m r' h0 e1
    split at hm
    · rename_i v e2
      rw [Option.map_eq_some_iff] at hm
      obtain ⟨d, e3, rfl⟩ := hm
      obtain ⟨a, h1, h2, h3⟩ := R.sl i _ h0
      refine ⟨.ref a, h1, s G H σ ρ fp r' _ R e1 fun w F H1 x1 o1 => ⟨a, v, rfl, getM_ok (mo_grow x1 h3) o1.data e2, ?_⟩⟩
      exact q _ [] H1 x1 (flD_ok e3).rok
    · cases hm
  · cases hm
theorem stb_updm {H : Hp} {D : Addr} {m m' : Mu} (h : H D = some (mo m)) : Ex (stb H) (stb (upd H D (mo m'))) := fun a o e => by
  have n : a ≠ D := fun z => by
    subst z
    unfold stb at e; rw [h] at e; cases m <;> cases e
  unfold stb at e ⊢
  rw [upd_ne n]; exact e
theorem RelF.dput {K : PySem.W.Frag} {G H0 H : Hp} {σ : L2.St} {ρ : Env} {fp : Nat → List Addr} {i : Nat} {m m' : Mu} {a : Addr} (R : RelF K G H0 σ ρ fp) (e : Ex H0 H) (hs : ρ[i]? = some (.dc m)) (h1 : σ[i]? = some (some (.ref a))) (h2 : fp i = [a]) (h3 : H0 a = some (mo m)) :
    RelF K G (upd H a (mo m')) σ ((killVw ρ).set i (.dc m')) fp := by
  have mi : a ∈ fp i := by rw [h2]; exact List.mem_singleton_self _
  have hni : ∀ j, j ≠ i → a ∉ fp j := fun j hj m => hj (R.dj j i a m mi)
  have es : Ex (stb H) (stb (upd H a (mo m'))) := stb_updm (e _ _ h3)
  have hx : Ex (hid H0 fp) (hid (upd H a (mo m')) fp) := fun b o h => by
    obtain ⟨n1, h⟩ := hid_some h
    rw [hid_at n1, upd_ne (by rintro rfl; exact n1 i mi)]; exact e _ _ h
  refine ⟨by simpa [killVw] using R.len, fun b o h => ?_, R.dj, R.new, fun j b x => ?_, fun j t h => ?_⟩
  · rw [upd_ne]
    · exact e _ _ (R.ex _ _ h)
    · rintro rfl; rw [R.new i b mi] at h; cases h
  · by_cases hb : b = a
    · subst hb; exact ⟨m', upd_same⟩
    · obtain ⟨xs, h⟩ := R.ls j b x
      exact ⟨xs, by rw [upd_ne hb]; exact e _ _ h⟩
  · by_cases hj : j = i
    · subst hj
      have hl : j < (killVw ρ).length := by
        have := (List.getElem?_eq_some_iff.mp h).1
        simpa using this
      rw [List.getElem?_set_self hl] at h
      cases h
      exact ⟨a, h1, h2, upd_same⟩
    · rw [List.getElem?_set_ne (Ne.symm hj)] at h
      unfold killVw at h
      rw [List.getElem?_map, Option.map_eq_some_iff] at h
      obtain ⟨t0, h0, h1⟩ := h
      have q := R.sl j t0 h0
      cases t0 with
      | dead => cases h1; exact q
      | ad a => cases h1; exact q
      | dc m =>
        cases h1
        obtain ⟨b, q1, q2, q3⟩ := q
        exact ⟨b, q1, q2, by rw [upd_ne (fun z => hni j hj (by rw [q2, ← z]; exact List.mem_singleton_self _))]; exact e _ _ q3⟩
      | sh x => cases h1; obtain ⟨q0, w, q1, q2⟩ := q; exact ⟨q0, w, q1, q2.mono hx⟩
      | fz w x => cases h1; obtain ⟨q0, q1, q2⟩ := q; exact ⟨q0, q1, q2.mono hx⟩
      | vw x => cases h1; exact q.1
      | ow c u =>
        cases h1
        exact ⟨q.1, (q.2.mono e).keep ⟨es, fun b m o h => by rw [upd_ne (by rintro rfl; exact hni j hj m)]; exact h⟩⟩
      | tr u =>
        cases h1
        obtain ⟨w, q1, q2⟩ := q
        exact ⟨w, q1, (q2.mono e).keep ⟨es, fun b m o h => by rw [upd_ne (by rintro rfl; exact hni j hj m)]; exact h⟩⟩
/-- d[k] = v, d a name -/
def mDPut (i : Nat) (mk mv : ME) : MS := fun ρ => match ρ[i]?, mk ρ, mv ρ with
  | some (.dc m), some r, some z => match flV z.data with
    | some v => (putM m r.data v).map fun m' => .nx ((killVw ρ).set i (.dc m'))
    | none => none
  | _, _, _ => none
theorem xs_dput {i : Nat} {p pos' : Pos} (hu : X.A.units + 1 < cLine) (hk : XE X k mk) (hv' : XE X v mv) (hsw : swapsWith v (some (.Subscript (.Name x p) k pos')) pos.line X.env = pure false := by rfl) (hN : X.N[i]? = some x := by rfl) (hv : Vis X.env.scope x := by first | exact Or.inl rfl | exact Or.inr (Or.inl rfl) | exact Or.inr (Or.inr rfl)) (hd : (x == ("__debug__" : Str)) = false := by decide)
    (hcd : (x == ("__classdict__" : Str)) = false := by decide) : XS X W (.Assign [.Subscript (.Name x p) k pos'] v pos) (mDPut i mk mv) := by
  obtain ⟨t, pk, s⟩ := hk
  obtain ⟨u, pv, s2⟩ := hv'
  refine ⟨_, ps_dput hu (pe_var hN hv hd hcd) pk pv hsw, fun G H σ ρ fp o D R hm q => ?_⟩
  unfold mDPut at hm
  split at hm
  · rename_i m r z h0 e1 e2
    split at hm
    · rename_i w e3
      rw [Option.map_eq_some_iff] at hm
      obtain ⟨m', e4, rfl⟩ := hm
      obtain ⟨a, h1, h2, h3⟩ := R.sl i _ h0
      refine s2 G H σ ρ fp z _ R e2 fun y F H1 x1 o1 => ⟨.ref a, h1, s G H1 σ ρ fp r _ (R.grow x1) e1 fun y2 F2 H2 x2 o2 => ?_⟩
      have := flV_ok o1.data e3; subst this
      exact ⟨a, _, rfl, putM_ok (mo_grow (x1.trans x2) h3) o2.data e4, q σ _ fp (R.dput (x1.trans x2) h0 h1 h2 h3)⟩
    · cases hm
  · cases hm
theorem RelF.dnew {K : PySem.W.Frag} {G H : Hp} {σ : L2.St} {ρ : Env} {fp : Nat → List Addr} {i : Nat} {m : Mu} {a : Addr} (R : RelF K G H σ ρ fp) (ha : H a = none) : RelF K G (upd H a (mo m)) (σ.set i (some (.ref a))) (ρ.set i (.dc m)) (fset fp i [a]) := by
  have e : Ex H (upd H a (mo m)) := Evl.Ex.new ha
  have hx : Ex (hid H fp) (hid (upd H a (mo m)) (fset fp i [a])) := hid_fset (fun b mb => by rw [List.mem_singleton.mp mb]; exact ha) e i
  refine ⟨by simpa using R.len, R.ex.trans e, fun j k b m1 m2 => ?_, fun j b m1 => ?_, fun j b m1 => ?_, fun j s h => ?_⟩
  · by_cases hj : j = i
    · by_cases hk : k = i
      · rw [hj, hk]
      · subst hj; rw [fset_self] at m1; rw [fset_ne hk] at m2
        obtain ⟨xs, z⟩ := R.ls k b m2
        rw [List.mem_singleton.mp m1, ha] at z; cases z
    · rw [fset_ne hj] at m1
      by_cases hk : k = i
      · subst hk; rw [fset_self] at m2
        obtain ⟨xs, z⟩ := R.ls j b m1
        rw [List.mem_singleton.mp m2, ha] at z; cases z
      · rw [fset_ne hk] at m2; exact R.dj j k b m1 m2
  · by_cases hj : j = i
    · subst hj; rw [fset_self] at m1; rw [List.mem_singleton.mp m1]; exact Evl.fresh_back R.ex ha
    · rw [fset_ne hj] at m1; exact R.new j b m1
  · by_cases hj : j = i
    · subst hj; rw [fset_self] at m1; rw [List.mem_singleton.mp m1]; exact ⟨m, upd_same⟩
    · rw [fset_ne hj] at m1; exact (R.grow e).ls j b m1
  · by_cases hj : j = i
    · subst hj
      have hl : j < ρ.length := by
        have := (List.getElem?_eq_some_iff.mp h).1
        simpa using this
      have hl2 : j < σ.length := by rw [R.len]; exact hl
      rw [List.getElem?_set_self hl] at h
      cases h
      rw [fset_self, List.getElem?_set_self hl2]
      exact ⟨a, rfl, rfl, upd_same⟩
    · rw [List.getElem?_set_ne (Ne.symm hj)] at h
      rw [fset_ne hj, List.getElem?_set_ne (Ne.symm hj)]
      exact SlOk.set hx e (R.sl j s h)
/-- d = {} -/
def mSetM (i : Nat) (m : Mu) : MS := fun ρ => some (.nx (ρ.set i (.dc m)))
theorem xs_setDT {i : Nat} {dpos pos' : Pos} (hN : X.N.Nodup) (hi : X.N[i]? = some x) (hx : Loc X.env.scope x) (hs : swapsWith (.Dict [] [] dpos) (some (.Name x pos')) pos.line X.env = pure false := by rfl) (hf : X.fn x = true ∨ X.env.scope.names.lookup x = some .local := by first | exact .inl rfl | exact .inr rfl | assumption) :
    XS X W (.Assign [.Name x pos'] (.Dict [] [] dpos) pos) (mSetM i (.t [])) :=
  ⟨_, ps_set hN hi hx pe_dnewT hs hf, fun G H σ ρ fp o D R hm q => by cases hm; exact fun a ha => q _ _ _ (R.dnew (m := .t []) ha)⟩
theorem xs_setDK {i : Nat} {dpos pos' : Pos} (hN : X.N.Nodup) (hi : X.N[i]? = some x) (hx : Loc X.env.scope x) (hs : swapsWith (.Dict [] [] dpos) (some (.Name x pos')) pos.line X.env = pure false := by rfl) (hf : X.fn x = true ∨ X.env.scope.names.lookup x = some .local := by first | exact .inl rfl | exact .inr rfl | assumption) :
    XS X W (.Assign [.Name x pos'] (.Dict [] [] dpos) pos) (mSetM i (.k [])) :=
  ⟨_, ps_set hN hi hx pe_dnewK hs hf, fun G H σ ρ fp o D R hm q => by cases hm; exact fun a ha => q _ _ _ (R.dnew (m := .k []) ha)⟩
end
end DL

set_option Elab.async false
set_option linter.all false
set_option maxRecDepth 100000
set_option maxHeartbeats 4000000
/-! try .. except X as n; isinstance of what is caught; x in xs; xs.extend(ys). -/
namespace DL
open PySem PySem.Spec PyProof.Rows L2
open Evl (Ex)
/-! ### x in xs -/
def gIn (neg : Bool) : D → D → Option D := fun a b => match b with
  | .lst ds => if a.ok && (D.lst ds).ok then some (.bl (neg != ds.any fun z => D.eqv z a)) else none
  | _ => none
def fIn := flat2 (gIn false)
def fNotIn := flat2 (gIn true)
theorem pyL_any (a : D) : ∀ ds : List D, (D.pyL ds).any (fun z => PyData.eqv z a.py) = ds.any fun z => D.eqv z a
  | [] => rfl
  | d :: ds => by simp [D.pyL, pyL_any a ds, D.eqv]
theorem op2_in {K : PySem.W.Frag} : Op2 K (rInD K) fIn := .flat fun H x dx y dy z Q hx hy hz q => by
  unfold gIn at hz
  split at hz
  · split at hz
    · rename_i ds h; rw [Bool.and_eq_true] at h; cases hz
      refine ⟨_, D.pyL ds, hx.dp, hy.dp, h.1, h.2, q _ ?_⟩
      rw [pyL_any]
      have : (false != ds.any fun z => D.eqv z dx) = ds.any fun z => D.eqv z dx := by cases (ds.any fun z => D.eqv z dx) <;> rfl
      rw [this]; exact .bl _
    · cases hz
  · cases hz
theorem op2_notin {K : PySem.W.Frag} : Op2 K (rNotInD K) fNotIn := .flat fun H x dx y dy z Q hx hy hz q => by
  unfold gIn at hz
  split at hz
  · split at hz
    · rename_i ds h; rw [Bool.and_eq_true] at h; cases hz
      refine ⟨_, D.pyL ds, hx.dp, hy.dp, h.1, h.2, q _ ?_⟩
      rw [pyL_any]
      have : (true != ds.any fun z => D.eqv z dx) = !(ds.any fun z => D.eqv z dx) := by cases (ds.any fun z => D.eqv z dx) <;> rfl
      rw [this]; exact .bl _
    · cases hz
  · cases hz
theorem hu65 {k : Nat} {A : Around} (r : Room k A) : A.units + 65 < cLine := by have := r.un; omega
section
variable {X : Cx} {W : XK} {o e : Expr} {ma me : ME} {mp : MP} {pos apos cpos : Pos} {x n : Str}
/-! ### xs.extend(ys), ys of what can't change -/
def mExtend (mp : MP) (me : ME) : MS := fun ρ => match mp ρ, me ρ with
  | some (i, p), some r => match ρ[i]?, r.data with
    | some (.tr s), .lst ds => match S.get p s with
      | some (.own ss) => if immL ds = true ∧ ss.length + ds.length ≤ 100000 then some (.nx ((killVw ρ).set i (.tr (S.put (.own (ss ++ ds.map .d)) p s)))) else none
      | _ => none
    | _, _ => none
  | _, _ => none
theorem xs_extend (ho : XP X o mp) (he : XE X e ma)
    (hbase : attributeBase o "extend" X.env (eval o X.env) = eval o X.env := by rfl)
    (hfew : ((backTo cpos (starEach (e :: []) X.env)).all (fun x => !x.1) && (backToKw cpos (keywordEach [] X.env)).all (fun x => x.1.isSome)
      && decide ((e :: ([] : List Expr)).length + ([] : List Keyword).length + (if ([] : List Keyword).isEmpty then 0 else 1) < 30)) = true := by rfl)
    (hline : (apos.endLine == cpos.line) = true := by rfl) (hs : starEach (e :: []) X.env = (false, eval e X.env) :: starEach [] X.env := by rfl) (hplain : (backTo cpos (starEach [] X.env)).any (·.1) = false := by rfl)
    (hsw : swapsWith (.Call (.Attribute o "extend" apos) [e] [] cpos) none pos.line X.env = pure false := by rfl) : XS X W (.Expr (.Call (.Attribute o "extend" apos) [e] [] cpos) pos) (mExtend mp ma) := by
  obtain ⟨to, po, so⟩ := ho
  obtain ⟨te, pe, se⟩ := he
  refine ⟨_, ps_expr (pe_bm PySem.F.plainAttrs_list PySem.F.slot_list_extend PySem.F.type_list_extend mt_extend po (pa_cons pe pa_nil hs) hbase hfew hline hs hplain) hsw, fun G H σ ρ fp oo D R hm q => ?_⟩
  unfold mExtend at hm
  split at hm
  rotate_left
  · cases hm
  rename_i i p r e1 e2
  split at hm
  rotate_left
  · cases hm
  rename_i s ds e3 e4
  split at hm
  rotate_left
  · cases hm
  rename_i ss e5
  split at hm
  rotate_left
  · cases hm
  rename_i hl
  cases hm
  refine so G H σ ρ fp i p _ R e1 fun v a H1 s' ss' g1 g2 g3 x1 at1 => ?_
  rw [e3] at g1; cases g1
  have R1 := R.grow x1
  obtain ⟨v', h1, h2⟩ := R1.sl i _ e3
  rw [g3] at h1; cases h1
  obtain ⟨vs1, Fa1, ha1, hL1, _⟩ := h2.mut at1 e5
  refine ⟨.inl ⟨rfl, _, SqL.of ha1⟩, ?_⟩
  refine se G H1 σ ρ fp r _ R1 e2 fun w F H2 x2 o2 => ?_
  obtain ⟨vs2, Fa2, ha2, hL2, hn2, hsub2, hai, hmut⟩ := R1.mutate x2 e3 g3 (at1.mono x2) e5
  have z := o2.data
  rw [e4] at z
  cases z with
  | lst hb hd =>
    rename_i b zs
    refine ⟨a, b, vs2, zs, rfl, rfl, ha2, hb, ?_, ?_⟩
    · rw [← hL2.len, hd.len]; exact Evl.sz_of hl.2
    · have es : Ex (stb H2) (stb (upd H2 a (.lst (vs2 ++ zs)))) := stb_upd ha2
      have hd2 : DtL X.K (stb (upd H2 a (.lst (vs2 ++ zs)))) zs ds := (hd.stb hl.1).mono es
      have r1 : RepL X.K (upd H2 a (.lst (vs2 ++ zs))) (ss ++ ds.map .d) (vs2 ++ zs) (Fa2 ++ []) :=
        (hL2.keep ⟨es, fun b m u h => by rw [upd_ne (by rintro rfl; exact hn2 m)]; exact h⟩).append (RepL.leaves hd2) fun _ _ m => by cases m
      obtain ⟨fp', R'⟩ := hmut _ _ _ r1 (fun z => hn2 (by simpa using z)) (fun b m => .inl (by simpa using m))
      exact q _ _ fp' R'
/-! ### what is caught -/
/-- a def whose argument is the exception that is handled; it raises nothing -/
structure FnP (P : Program) (w : World) (K : PySem.W.Frag) (mg : Str → Option Value) (base : Heap) (a : Addr) (oe : Obj) (k : Nat) (f : Addr) (fd : FuncData) (ps : List Str) (sp : Sp) : Prop where
  len : ∀ vs H Q E, sp vs H Q E → vs.length = ps.length
  run : ∀ (A : Around) (outer : List PySem.Env) (s : Shared) (H : Hp) (args : Args) (us : List Value) (vs : List V) (Q : VK) (E : XK), L2H.RoomH k A → L2H.PinOk outer H s (a, oe) → Env0 P w K mg base A outer s H → BindsTo s fd args (ps.zip us) → Vals vs us → sp vs H Q E →
    codeAny (model P w) A (.call (.ref f) args) (CR (L2.CX P w) outer P w H s Q E) s
theorem fnP {P : Program} {w : World} {K : PySem.W.Frag} {mg : Str → Option Value} {base : Heap} {x qual : Str} {st : Stmt} {f : Addr} {fd : FuncData} {N ps : List Str} {k : Nat} {a : Addr} {oe : Obj} {m : MS} {s0 : S} {nn : Nat} (F : Fun K x qual st f fd) (S : FnScope N ps (defScope st)) (hn : ps.length = 1) (hN : N.length = nn)
    (hbody : ∀ (cdv : Value) (A : Around) (outer : List PySem.Env) (s : Shared) (H : Hp) (E : XK), L2H.RoomH k (A.deeper (envOfC qual (defScope st) s.heap.objs.size f cdv)) →
      XSs (L2H.cxH (L2.CX P w) P w K mg base N qual (defScope st) f cdv A outer s H E (a, oe)) E (defBody st) m)
    (hm : m (.ad a :: List.replicate (nn - 1) .dead) = some (.rt s0)) :
    FnP P w K mg base a oe (k + 1) f fd ps (fun vs H Q _ => vs = [.ref a] ∧ ∀ v F H', Ex H H' → Rep K H' s0 v F → (∀ b ∈ F, H b = none) → Q v H') := by
  obtain ⟨oc, od, kV, doc, pm, an, cdv, ct, osl, rfl, lk, hcd⟩ := F.ex
  refine ⟨fun vs H Q E h => by rw [h.1, hn]; rfl, fun A outer s H args us vs Q E hr hpin e0 hb r hsp => ?_⟩
  have hl : vs.length = ps.length := by rw [hsp.1, hn]; rfl
  have KX : K.In s.heap := e0.mod.kin.keeps fun b o e => (e0.bs b o e).1
  have lim : s.heap.NoLimit := e0.mod.nolimit.keeps fun b o e => (e0.bs b o e).1
  have hkind : ∀ y ∈ ps.zip us, (defScope st).names.lookup y.1 = some .local ∨ ((defScope st).names.lookup y.1 = some .cell ∧ ((cellsFrom (s.heap.objs.size + 1) (defScope st).names []).lookup y.1).isSome = true) := fun ⟨n, v⟩ hy => by
    rcases S.par n (List.of_mem_zip hy).1 with q | q
    · exact .inl q
    · exact .inr ⟨q, PySem.W.cellsFrom_some _ _ _ (.inl q)⟩
  refine codeAny_call_function hr.depth (KX _ _ lk) rfl S.co S.gen rfl (PySem.W.codeRec_of KX hcd) (hb _ _ _ _ ?_)
  refine wpAny_newFunctionEnv_cells S.kind hkind fun env he s1 x => ?_
  subst he
  refine ⟨lim.keeps x.toInCall.keep, codeAny_func ?_⟩
  obtain ⟨t, ht, sim⟩ := (hbody cdv A outer s H E (hr.deeper _)).sim
  have I : Inv (L2H.cxH (L2.CX P w) P w K mg base N qual (defScope st) f cdv A outer s H E (a, oe)) [] (L2.start N vs) H s1 := L2H.inv_startH S hpin e0 hl r x
  obtain ⟨e1, hq⟩ := hsp
  subst e1
  have hN1 : 1 ≤ N.length := by
    have := congrArg List.length S.pre
    rw [List.length_take, hn] at this; omega
  have R0 : RelF K H H (L2.start N [.ref a]) (.ad a :: List.replicate (nn - 1) .dead) fun _ => [] := by
    refine ⟨by unfold L2.start; simp; omega, Evl.Ex.refl H, (fun i j b m => by cases m), (fun i b m => by cases m), (fun i b m => by cases m), fun i sl hs => ?_⟩
    cases i with
    | zero => cases hs; exact ⟨rfl, rfl⟩
    | succ i =>
      rw [List.getElem?_cons_succ, List.getElem?_replicate] at hs
      split at hs
      · cases hs; rfl
      · cases hs
  have hq2 : t { nx := fun _ H' => Q .non H', rt := Q } (L2.start N [.ref a]) H := sim H H _ _ _ _ _ R0 hm fun v F H' x r f => hq v F H' x r f
  refine wpAny_mono (ht.run [] s1 (L2.start N [.ref a]) H _ I hq2) (fun fl s' hs => ?_) fun e s' hs => hs
  have fin : ∀ {σ' : L2.St} {H' : Hp} {v : V} {u : Value}, Inv (L2H.cxH (L2.CX P w) P w K mg base N qual (defScope st) f cdv A outer s H E (a, oe)) [] σ' H' s' → RelV v u → Q v H' → CE outer P w H s Q u s' :=
    fun {σ' H' v u} J rv q => ⟨v, H', J.os, J.bare, J.base, J.hok, rv, q⟩
  cases fl with
  | ret u =>
    obtain ⟨v, σ', H', J, rv, q⟩ := hs
    exact fin J rv q
  | next =>
    obtain ⟨σ', H', J, q⟩ := hs
    exact fin (v := V.non) (u := Value.none) J rfl q
  | brk =>
    obtain ⟨_, _, _, q⟩ := hs
    exact False.elim q
  | cont =>
    obtain ⟨_, _, _, q⟩ := hs
    exact False.elim q
/-- f(e), e what is handled -/
def mCP (i : Nat) (a : Addr) (ss : List S) : ME := fun ρ => match ρ[i]? with
  | some (.ad b) => if b = a then some (.tr (.own ss)) else none
  | _ => none
theorem x_callP {i k : Nat} {f a : Addr} {oe : Obj} {fd : FuncData} {ps : List Str} {ss : List S} {y : Str} {q p : Pos} (F : FnP X.prog X.w X.K X.mg X.base a oe k f fd ps (fun vs H Q _ => vs = [.ref a] ∧ ∀ v F H', Ex H H' → Rep X.K H' (.own ss) v F → (∀ b ∈ F, H b = none) → Q v H'))
    (hr : L2H.RoomH k X.A) (hp : (a, oe) ∈ X.pn) (hg : Gl X x) (hm : X.mg x = some (.ref f)) (hk : PySem.W.keepIn X.K (.ref f) = true) (hb : Binds X.K fd ps []) (hx : ∀ σ, PassesAt (L2.CX X.prog X.w) X σ fun _ _ _ => False)
    (hN : X.N[i]? = some y := by rfl) (hv : Vis X.env.scope y := by first | exact Or.inl rfl | exact Or.inr (Or.inl rfl) | exact Or.inr (Or.inr rfl)) (hd : (y == ("__debug__" : Str)) = false := by decide) (hcd : (y == ("__classdict__" : Str)) = false := by decide)
    (hdb : (x == ("__debug__" : Str)) = false := by decide) (he : starEach [.Name y p] X.env = (false, eval (.Name y p) X.env) :: starEach [] X.env := by rfl) (hpl : (backTo pos (starEach [] X.env)).any (·.1) = false := by rfl) :
    XE X (.Call (.Name x q) [.Name y p] [] pos) (mCP i a ss) := by
  have pe : PE X (.Call (.Name x q) [.Name y p] [] pos) (fun σ H Q => tVar i σ H fun v H1 => v = .ref a ∧ ∀ v F H', Ex H1 H' → Rep X.K H' (.own ss) v F → (∀ b ∈ F, H1 b = none) → Q v H') := by
    refine ⟨fun pins s σ H Q I h => ?_⟩
    refine wpAny_Call_Name_kw (ld_glob I hg hm ?_ hdb)
    have pa := pa_cons (pe_var (X := X) (i := i) (pos := p) hN hv hd hcd) pa_nil he
    refine PySem.W.callWith_K (h₀ := X.base) I.ok.mod.kin hk (thn (pa.run pos pins s σ H (fun vs H1 => vs = [.ref a] ∧ ∀ v F H', Ex H1 H' → Rep X.K H' (.own ss) v F → (∀ b ∈ F, H1 b = none) → Q v H') I ?_) fun us s1 ⟨vs, H1, I1, r, q⟩ => ⟨I1.kIn, ?_⟩) he hpl
    · obtain ⟨v, h1, h2, h3⟩ := h
      exact ⟨v, h1, by rw [h2], h3⟩
    · have hl : us.length = ps.length := by rw [← r.length]; exact F.len vs H1 Q (fun _ _ _ => False) q
      have b := hb s1 us I1.kIn (by rw [List.append_nil]; exact hl)
      rw [List.append_nil] at b
      have P1 := I1.pin (a, oe) (List.mem_append_left _ hp)
      have hpin : L2H.PinOk X.stack H1 s1 (a, oe) := ⟨P1.1, P1.2.1, fun hm => (List.mem_cons.mp (I1.stkSub a hm)).elim P1.2.2.1 P1.2.2.2.1, P1.2.2.2.2⟩
      refine wpAny_call (codeAny_mono (F.run X.A X.stack s1 H1 ⟨us, []⟩ us vs Q (fun _ _ _ => False) hr hpin I1.env0 b r q) fun r s' hq => ?_)
      cases r with
      | error e => exact hx σ pins H1 s1 e s' I1 hq
      | ok fl =>
        cases fl with
        | ret u => exact I1.after hq
        | next => exact False.elim hq
        | brk => exact False.elim hq
        | cont => exact False.elim hq
  refine ⟨_, pe, fun G H σ ρ fp r Q R hm q => ?_⟩
  unfold mCP at hm
  split at hm
  · rename_i b e1
    split at hm
    · rename_i hb; subst hb; cases hm
      obtain ⟨_, h1⟩ := R.sl i _ e1
      exact ⟨_, h1, rfl, fun v F H' x r f => q v F H' x ⟨r, f⟩⟩
    · cases hm
  · cases hm
/-- isinstance(e, C), e what is handled -/
theorem call_isP {X : Cx} {a C : Addr} {oe : Obj} (hp : (a, oe) ∈ X.pn) (T : ExcC X.K C) (hz : Zc (.ref C) none oe) (hf : ∃ vs, oe.data = .fields vs) : CallR X (.builtin "isinstance") (rIsE X.K C a) := by
  intro pins s σ H xs us Q I r h
  obtain ⟨c, cv, b, rfl, hcv, e, q⟩ := h
  cases r with
  | cons rx rr =>
    cases rr with
    | cons rt rr =>
      cases rr
      cases rx
      have ec := hcv _ rt
      subst ec
      obtain ⟨hget, _⟩ := I.pin (a, oe) (List.mem_append_left _ hp)
      obtain ⟨vs, hv⟩ := hf
      have J : PySem.W.InstAt s.heap a oe C none := by
        obtain ⟨oc, od, oda, osl⟩ := oe
        obtain ⟨h1, h2⟩ := hz
        dsimp only at h1 h2 hv
        subst h1 h2 hv
        exact ⟨hget, rfl, rfl, trivial⟩
      exact PySem.W.kia_one (PySem.W.handS_kitx_exc T.hg T.hk T.hs T.hd T.ha T.hn T.ht T.hm) I.kIn J e (fun z => nomatch z) fun tk => ⟨.bl b, H, I.kept (t' := tk) fun _ _ z => z, rfl, q⟩
def mIsE (i : Nat) (a : Addr) (b : Bool) : ME := fun ρ => match ρ[i]? with
  | some (.ad c) => if c = a then some (.sh (.bl b)) else none
  | _ => none
theorem x_isE0 {i : Nat} {a C : Addr} {oe : Obj} {b : Bool} {y z : Str} {v : V} {cv : Value} {p p2 p3 : Pos} (hp : (a, oe) ∈ X.pn) (T : ExcC X.K C) (hz : Zc (.ref C) none oe) (hf : ∃ vs, oe.data = .fields vs) (hg : Gl X "isinstance") (hm : X.mg "isinstance" = none)
    (hc : PE X (.Name z p2) (tC v)) (hcv : ∀ u, RelV v u → u = cv) (hk : PySem.W.kitOne X.K (.ref C) cv = some b)
    (hN : X.N[i]? = some y := by rfl) (hv : Vis X.env.scope y := by first | exact Or.inl rfl | exact Or.inr (Or.inl rfl) | exact Or.inr (Or.inr rfl)) (hd : (y == ("__debug__" : Str)) = false := by decide) (hcd : (y == ("__classdict__" : Str)) = false := by decide)
    (he : starEach [.Name y p3, .Name z p2] X.env = (false, eval (.Name y p3) X.env) :: starEach [.Name z p2] X.env := by rfl) (he2 : starEach [.Name z p2] X.env = (false, eval (.Name z p2) X.env) :: starEach [] X.env := by rfl)
    (hpl : (backTo pos (starEach [.Name z p2] X.env)).any (·.1) = false := by rfl) :
    XE X (.Call (.Name "isinstance" p) [.Name y p3, .Name z p2] [] pos) (mIsE i a b) := by
  refine ⟨_, pe_callB (call_isP hp T hz hf) hg hm PyProof.Rows.boot_isinstance (pa_cons (pe_var (X := X) (i := i) (pos := p3) hN hv hd hcd) (pa_cons hc pa_nil he2) he) (by decide) (by decide) he hpl, fun G H σ ρ fp r Q R hm q => ?_⟩
  unfold mIsE at hm
  split at hm
  · rename_i c e1
    split at hm
    · rename_i hb; subst hb; cases hm
      obtain ⟨_, h1⟩ := R.sl i _ e1
      exact ⟨_, h1, v, cv, b, rfl, hcv, hk, q _ [] H (Evl.Ex.refl H) (Fl.bl _).rok⟩
    · cases hm
  · cases hm
theorem x_isE {i : Nat} {a C D : Addr} {oe : Obj} {b : Bool} {y z : Str} {p p2 p3 : Pos} (hp : (a, oe) ∈ X.pn) (T : ExcC X.K C) (hz : Zc (.ref C) none oe) (hf : ∃ vs, oe.data = .fields vs) (hg : Gl X "isinstance") (hm : X.mg "isinstance" = none)
    (hg2 : Gl X z) (hm2 : X.mg z = some (.ref D)) (hk : PySem.W.kitOne X.K (.ref C) (.ref D) = some b) (hdb : (z == ("__debug__" : Str)) = false := by decide)
    (hN : X.N[i]? = some y := by rfl) (hv : Vis X.env.scope y := by first | exact Or.inl rfl | exact Or.inr (Or.inl rfl) | exact Or.inr (Or.inr rfl)) (hd : (y == ("__debug__" : Str)) = false := by decide) (hcd : (y == ("__classdict__" : Str)) = false := by decide)
    (he : starEach [.Name y p3, .Name z p2] X.env = (false, eval (.Name y p3) X.env) :: starEach [.Name z p2] X.env := by rfl) (he2 : starEach [.Name z p2] X.env = (false, eval (.Name z p2) X.env) :: starEach [] X.env := by rfl)
    (hpl : (backTo pos (starEach [.Name z p2] X.env)).any (·.1) = false := by rfl) :
    XE X (.Call (.Name "isinstance" p) [.Name y p3, .Name z p2] [] pos) (mIsE i a b) :=
  x_isE0 hp T hz hf hg hm (pe_glob (v := .ref D) hg2 hm2 rfl hdb) (fun u r => r) hk hN hv hd hcd he he2 hpl
theorem x_isEV {i : Nat} {a C : Addr} {oe : Obj} {b : Bool} {y : Str} {p p2 p3 : Pos} (hp : (a, oe) ∈ X.pn) (T : ExcC X.K C) (hz : Zc (.ref C) none oe) (hf : ∃ vs, oe.data = .fields vs) (hg : Gl X "isinstance") (hm : X.mg "isinstance" = none)
    (hg2 : Gl X "ValueError") (hm2 : X.mg "ValueError" = none) (hk : PySem.W.kitOne X.K (.ref C) (.type "ValueError") = some b)
    (hN : X.N[i]? = some y := by rfl) (hv : Vis X.env.scope y := by first | exact Or.inl rfl | exact Or.inr (Or.inl rfl) | exact Or.inr (Or.inr rfl)) (hd : (y == ("__debug__" : Str)) = false := by decide) (hcd : (y == ("__classdict__" : Str)) = false := by decide)
    (he : starEach [.Name y p3, .Name "ValueError" p2] X.env = (false, eval (.Name y p3) X.env) :: starEach [.Name "ValueError" p2] X.env := by rfl) (he2 : starEach [.Name "ValueError" p2] X.env = (false, eval (.Name "ValueError" p2) X.env) :: starEach [] X.env := by rfl)
    (hpl : (backTo pos (starEach [.Name "ValueError" p2] X.env)).any (·.1) = false := by rfl) :
    XE X (.Call (.Name "isinstance" p) [.Name y p3, .Name "ValueError" p2] [] pos) (mIsE i a b) :=
  x_isE0 hp T hz hf hg hm (pe_bltn (v := .ty "ValueError") hg2 hm2 (by decide +kernel) rfl) (fun u r => r) hk hN hv hd hcd he he2 hpl
theorem passLA {X : Cx} (σ : L2.St) : PassesAt (L2.CX X.prog X.w) X σ fun _ _ _ => False := fun pins H s e s' I c => passL pins σ H s e s' I c
theorem roomH_mark {k : Nat} {A : Around} {v : Option Value} (r : Room k A) : L2H.RoomH k (A.mark v) := ⟨r.dp, r.un⟩
theorem kit_eq {K : PySem.W.Frag} {a : Addr} : PySem.W.kitOne K (.ref a) (.ref a) = some true := if_pos (by simp)
theorem kit_ne {K : PySem.W.Frag} {a b : Addr} {v : Bool} (hn : (Value.ref a == Value.ref b) = false) (hd : PySem.W.hasDictIn K b = true) (ht : PySem.W.typeIn K (.ref b) = some (.type "type")) (h : PySem.W.subIn K (.ref a) (.ref b) = some v) : PySem.W.kitOne K (.ref a) (.ref b) = some v := by
  obtain ⟨cd, hc, _⟩ := PySem.W.any_some hd
  unfold PySem.W.kitOne
  rw [hn, if_neg Bool.false_ne_true]
  show (if ((PySem.W.clsIn K b).isSome && PySem.W.typeIn K (.ref b) == some (.type "type")) = true then PySem.W.subIn K (.ref a) (.ref b) else none) = _
  rw [hc, ht, if_pos (by rfl)]
  exact h
theorem kit_VE {K : PySem.W.Frag} {a : Addr} {v : Bool} (h : PySem.W.subIn K (.ref a) (.type "ValueError") = some v) : PySem.W.kitOne K (.ref a) (.type "ValueError") = some v := by
  unfold PySem.W.kitOne
  rw [show (Value.ref a == Value.type "ValueError") = false from rfl, if_neg Bool.false_ne_true]
  show (if PySem.W.kitMeta "ValueError" = true then PySem.W.subIn K (.ref a) (.type "ValueError") else none) = _
  rw [if_pos (by decide +kernel)]
  exact h
/-! ### try -/
def canS (K : PySem.W.Frag) (W : XK) (m : MS) : TS := fun D σ H => ∃ G ρ fp o, RelF K G H σ ρ fp ∧ m ρ = some o ∧ OutOk K G W D o
theorem XSs.can {b : List Stmt} {m : MS} (h : XSs X W b m) : PSs X b (canS X.K W m) := by
  obtain ⟨t, p, s⟩ := h
  exact ⟨fun pins s' σ H D I ⟨G, ρ, fp, o, R, hm, q⟩ => p.run pins s' σ H D I (s G H σ ρ fp o D R hm q)⟩
theorem takes_len {W : WX} (t : Takes X W) : Takes X fun c d _ H => ∀ σ : L2.St, σ.length = X.N.length → W c d σ H := fun u s' h => by
  obtain ⟨a, B, sI, pins, σ, H, cls, d, e, I, nb, up, sky, na, os, ag, w⟩ := h
  exact t u s' ⟨a, B, sI, pins, σ, H, cls, d, e, I, nb, up, sky, na, os, ag, w σ I.len⟩
def mTry (m : MS) (C : Addr) (s : S) : MS := fun ρ => match m ρ with
  | some (.ex C') => if C' = C then some (.rt s) else none
  | o => o
open Classical in
theorem xs_try {c : Value} {C : Addr} {s : S} {i : Nat} {body suite : List Stmt} {b₀ : Stmt} {np pos pos' : Pos} {m : MS} {m2 : Addr → MS} (hs : X.stack = X.env :: X.outer) (hf : X.env.frame = some X.env.locals) (hN : X.N.Nodup) (hi : X.N[i]? = some n) (hln : X.env.kindOf n = some .local) (hc : Names X x c)
    (hex : PySem.W.exmOne X.K (.ref C) c = some true) (tk : Takes X fun c d _ H => W c d H)
    (hb : ∀ (W' : XK) (pn : List (Addr × Obj)) (xe : Value → Shared → Prop), Takes (X.tr pn xe) (fun c d _ H => W' c d H) → PassesOwn (model X.prog X.w) X.A X.env xe → XSs (X.tr pn xe) W' body m)
    (hsu : ∀ (a : Addr) (oe : Obj) (pn : List (Addr × Obj)), Zc (.ref C) none oe → (∃ vs, oe.data = .fields vs) → XSs (X.suite a ((a, oe) :: pn)) (fun _ _ _ => False) (b₀ :: suite) (m2 a))
    (hm2 : ∀ a, m2 a ((List.replicate X.N.length .dead).set i (.ad a)) = some (.rt s)) :
    XS X W (.Try body [.ExceptHandler (some (.Name x np)) (some n) (b₀ :: suite) pos'] [] [] pos) (mTry m C s) := by
  let ts : Addr → Value → Option Addr → TS := fun a cls d => if cls = .ref C ∧ d = none then canS X.K (fun _ _ _ => False) (m2 a) else fun _ _ _ => False
  refine ⟨_, ps_try_as (i := i) (tb := fun W0 => canS X.K (fun c d H => ∀ σ : L2.St, σ.length = X.N.length → W0 c d σ H) m) (ts := ts) hs hf hN hi hln hc tk (fun W0 pn xe tk0 po => (hb _ pn xe (takes_len tk0) po).can) (fun a oe cls d pn hz hv => ?_), fun G H σ ρ fp o D R hm q => ?_⟩
  · show PSs _ _ (if cls = .ref C ∧ d = none then _ else _)
    by_cases hcd : cls = .ref C ∧ d = none
    · rw [if_pos hcd]
      obtain ⟨rfl, rfl⟩ := hcd
      exact (hsu a oe pn hz hv).can
    · rw [if_neg hcd]
      exact ⟨fun pins s' σ H D I h => h.elim⟩
  · unfold mTry at hm
    split at hm
    · rename_i C' e1
      split at hm
      · rename_i hC; subst hC; cases hm
        refine ⟨G, ρ, fp, _, R, e1, fun H' x => ?_⟩
        intro σ' hl
        refine ⟨true, hex, fun _ a ha => ?_, fun z => nomatch z⟩
        rw [show ts a (Value.ref C') none = canS X.K (fun _ _ _ => False) (m2 a) from if_pos ⟨rfl, rfl⟩]
        refine ⟨H', _, fun _ => [], _, ?_, hm2 a, fun v F H'' x2 r f => q v F H'' (x.trans x2) r fun b m => Evl.fresh_back x (f b m)⟩
        refine ⟨by simpa using hl, Evl.Ex.refl H', (fun i j b m => by cases m), (fun i b m => by cases m), (fun i b m => by cases m), fun j sl hsl => ?_⟩
        have hil : i < X.N.length := (List.getElem?_eq_some_iff.mp hi).1
        by_cases hj : j = i
        · subst hj
          rw [List.getElem?_set_self (by simpa using hil)] at hsl
          cases hsl
          exact ⟨rfl, by rw [List.getElem?_set_self (by omega)]⟩
        · rw [List.getElem?_set_ne (Ne.symm hj), List.getElem?_replicate] at hsl
          split at hsl
          · cases hsl; rfl
          · cases hsl
      · cases hm
    · rename_i o' hne
      refine ⟨G, ρ, fp, o, R, hm, ?_⟩
      cases o with
      | nx ρ => exact q
      | rt s => exact q
      | bk ρ => exact q
      | ct ρ => exact q
      | ex C' => exact (hne C' hm).elim
end
end DL

set_option Elab.async false
set_option linter.all false
set_option maxRecDepth 100000
set_option maxHeartbeats 4000000
/-! sorted: tuples of a text and two ints; ints. -/
namespace SrtT
open PySem PyProof.Rows Srt SrtO
abbrev K3 := Str × Int × Int
def key3 (k : K3) : List (Int ⊕ List Nat) := [.inr k.1.cps.toList, .inl k.2.1, .inl k.2.2]
def lt3 (a b : K3) : Bool := lexLt itemOrd (key3 a) (key3 b)
def sh3 : Nat → Bool := fun i => i == 0
theorem swo3 {α : Type} (k : α → K3) : Swo fun x y => lt3 (k x) (k y) := by
  refine ⟨fun x y h => ?_, fun x y z h1 h2 => ?_⟩
  · rcases bcase (lt3 (k y) (k x)) with q | q
    · have := lex_trans (O := itemOrd) _ _ _ h q
      rw [lex_irrefl] at this; cases this
    · exact q
  · rcases bcase (lt3 (k z) (k x)) with q | q
    · rcases lex_negTrans (O := itemOrd) _ (key3 (k y)) _ q with r | r
      · rw [show lt3 (k z) (k y) = true from r] at h2; cases h2
      · rw [show lt3 (k y) (k x) = true from r] at h1; cases h1
    · exact q
def IsTri (h : Heap) (v : Value) (k : K3) : Prop := ∃ a o t1 t2 t3 n, v = .ref a ∧ h.get? a = some o ∧ o.cls = .type "tuple" ∧ o.data = .seq #[.str k.1 t1, .int k.2.1 t2, .int k.2.2 t3] n
theorem IsTri.keeps {h h' : Heap} {v : Value} {k : K3} (p : IsTri h v k) (e : ∀ b o, h.get? b = some o → o.cls = .type "tuple" → h'.get? b = some o) : IsTri h' v k := by
  obtain ⟨a, o, t1, t2, t3, n, q, ho, hc, hd⟩ := p
  exact ⟨a, o, t1, t2, t3, n, q, e a o ho hc, hc, hd⟩
theorem IsTri.key {h : Heap} {v : Value} {k : K3} (p : IsTri h v k) : tupKey h sh3 v = some (key3 k) := by
  obtain ⟨a, o, t1, t2, t3, n, rfl, ho, hc, hd⟩ := p
  unfold tupKey
  dsimp only
  rw [ho]
  dsimp only
  rw [hd]
  rfl
theorem tups_of {h : Heap} : ∀ {vs : List Value}, (∀ v ∈ vs, ∃ k, IsTri h v k) → ∃ fs, fs.length = vs.length ∧ TupsOf h sh3 vs fs
  | [], _ => ⟨[], rfl, .nil⟩
  | v :: vs, hv => by
    obtain ⟨fs, h1, h2⟩ := tups_of fun u m => hv u (List.mem_cons_of_mem _ m)
    obtain ⟨k, a, o, t1, t2, t3, n, e, ho, hc, hd⟩ := hv v List.mem_cons_self
    exact ⟨.str k.1 t1 :: fs, by simp [h1], .cons ⟨a, o, _, n, e, ho, hc, hd, rfl, fun q => absurd q (by decide), fun _ => ⟨_, _, rfl⟩⟩ h2⟩
section
variable {prog : Program} {w : World} {A : Around} {E : Value → Shared → Prop} {s : Shared}
theorem tri_cmp {vs : List Value} {k : Value → K3} (hp : ∀ v ∈ vs, IsTri s.heap v (k v)) : Cmp prog w A s (tuples' true) (fun p => p.1 ∈ vs) (lt2 fun v u => lt3 (k v) (k u)) := by
  intro p q hm hm'
  exact tup_ltAt (shape := sh3) true A _ p.1 q.1 _ _ (hp _ hm).key (hp _ hm').key ⟨rfl, rfl⟩
theorem tris_sortableO {a : Addr} {vs : List Value} {k : Value → K3} (h0 : 0 < vs.length) (hp : ∀ v ∈ vs, IsTri s.heap v (k v)) (ha : ∀ o, s.heap.get? a = some o → o.cls ≠ .type "tuple") : SortableO prog w A s a vs fun v u => lt3 (k v) (k u) := by
  intro h' keep
  have hp' : ∀ v ∈ vs, IsTri h' v (k v) := fun v hm => (hp v hm).keeps fun b o e c => keep b o (fun z => by subst z; exact ha o e c) e
  obtain ⟨fs, h1, h2⟩ := tups_of fun v hm => ⟨_, hp' v hm⟩
  exact ⟨tuples' true, fun Q E hq => tup_kind (by omega) h2 hq, tri_cmp (s := { s with heap := h' }) hp'⟩
theorem sorted_trisO {l : Addr} {vs : List Value} {k : Value → K3} {Q : Value → Shared → Prop} (hl : s.heap.IsList l vs.toArray) (hz : vs.length ≤ sizeLine) (hp : ∀ v ∈ vs, IsTri s.heap v (k v))
    (h : ∀ (h' : Heap) (d : Addr) (out : List Value), Srtd (fun v u => lt3 (k v) (k u)) out → Stb (fun v u => lt3 (k v) (k u)) out vs → (∀ b o, s.heap.get? b = some o → h'.get? b = some o) → s.heap.objs.size ≤ d → (∃ n, h'.get? d = some (seqObj "list" out.toArray n)) → Q (.ref d) { s with heap := h' }) :
    wpAny (model prog w) A (call (.builtin "sorted") [.ref l]) Q E s := by
  refine sorted_ord (swo3 k) hl hz (fun h2 h₁ a ha kk => ?_) fun out hs hb => ?_
  · refine tris_sortableO (s := { s with heap := h₁ }) (by omega) (fun v hm => (hp v hm).keeps fun b o e _ => (kk b o e).2) fun o e => ?_
    have e' : some o = some (seqObj "list" vs.toArray 0) := e.symm.trans ha
    cases e'
    intro c
    exact absurd (Value.type.inj c) (by decide)
  · exact h _ _ out hs hb (fun b o e => sortedAll_old e) (Nat.le_succ _) (sortedAll_at s.heap vs out.toArray)
end
end SrtT
namespace L2
open PySem PySem.Spec PyProof.Rows
open SrtT (K3 lt3 swo3 sorted_trisO)
abbrev ltT (k : V → K3) (x y : V) : Bool := lt3 (k x) (k y)
/-- sorted(xs), xs a list of tuples of a text and two ints (k says which) -/
def rSortedTO (K : PySem.W.Frag) : List V → Hp → VK → Prop := fun vs H Q => ∃ (a : Addr) (xs : List V) (k : V → K3), vs = [V.ref a] ∧ SqL K H a xs ∧ (∀ x ∈ xs, ∃ t, x = V.ref t ∧ H t = some (.tup [.str (k x).1, .int (k x).2.1, .int (k x).2.2])) ∧
  ∀ ys p, SrtO.Srtd (ltT k) ys → SrtO.Stb (ltT k) ys xs → H p = none → Q (.ref p) (upd H p (.lst ys))
section
variable {X : Cx}
theorem cr_sortedTO : CallR X (.builtin "sorted") (rSortedTO X.K) := by
  intro pins s σ H vs us Q I r h
  obtain ⟨a, xs, k, rfl, hs, hx, q⟩ := h
  obtain ⟨its, rv, hl, hz⟩ := I.list hs
  obtain ⟨u, rfl, ru⟩ := vals1 r
  obtain rfl : u = Value.ref a := ru
  obtain ⟨e1, e2⟩ := refs_back rv fun x m => by
    obtain ⟨t, e, _⟩ := hx x m
    exact ⟨t, e⟩
  refine sorted_trisO (k := fun u => k (backV u)) hl.isList (by rw [← rv.length]; exact hz) (fun v hv => ?_) fun h' d out h1 h2 kp hd hn => ?_
  · obtain ⟨t, rfl⟩ := e2 v hv
    have hm : V.ref t ∈ xs := by rw [e1]; exact List.mem_map.mpr ⟨_, hv, rfl⟩
    obtain ⟨t', e, ht⟩ := hx _ hm
    cases e
    obtain ⟨_, its2, r2, o, ho, hc, n, hd⟩ := I.hok _ _ ht
    cases r2 with
    | cons ri r2 =>
      cases r2 with
      | cons rj r2 =>
        cases r2 with
        | cons rk r2 =>
          cases r2
          obtain ⟨t1, rfl⟩ := ri
          obtain ⟨t2, rfl⟩ := rj
          obtain ⟨t3, rfl⟩ := rk
          exact ⟨t, o, t1, t2, t3, n, rfl, ho, hc, hd⟩
  · have h3 : ∀ u ∈ out, ∃ a, u = Value.ref a := fun u hu => e2 u (h2.perm.mem_iff.mp hu)
    obtain ⟨n, hn⟩ := hn
    have hb : SrtO.Stb (ltT k) (out.map backV) xs := by
      rw [e1]
      exact SrtO.Stb.map (swo3 k) backV h2
    refine ⟨.ref d, upd H d (.lst (out.map backV)), I.laid (t' := s.toks) kp hd ⟨?_, out, n, vals_back h3, hn⟩, rfl, q _ d (SrtO.srtd_map h1) hb (I.hok.fresh hd)⟩
    rw [hb.len]
    exact hz
end
end L2

set_option Elab.async false
set_option linter.all false
set_option maxRecDepth 100000
set_option maxHeartbeats 4000000
/-! sorted and enumerate over data. -/
namespace DL
open PySem PySem.Spec PyProof.Rows L2
open Evl (Ex)
open SrtT (K3 lt3 key3 swo3)
def le3 (a b : K3) : Bool := !lt3 b a
theorem le3_iff {a b : K3} : le3 a b = true ↔ lt3 b a = false := by unfold le3; cases lt3 b a <;> simp
theorem le3_trans (a b c : K3) (h1 : le3 a b = true) (h2 : le3 b c = true) : le3 a c = true :=
  le3_iff.mpr ((swo3 (fun x : K3 => x)).tr a b c (le3_iff.mp h1) (le3_iff.mp h2))
theorem le3_total (a b : K3) : (le3 a b || le3 b a) = true := by
  unfold le3
  cases h : lt3 b a with
  | false => rfl
  | true => rw [(swo3 (fun x : K3 => x)).asym b a h]; rfl
theorem str_eq {x y : Str} (h : x.cps.toList = y.cps.toList) : x = y := by
  cases x; cases y
  have := Array.toList_inj.mp h
  simp_all
theorem key3_inj {a b : K3} (h : key3 a = key3 b) : a = b := by
  obtain ⟨x, i, j⟩ := a
  obtain ⟨y, k, l⟩ := b
  unfold key3 at h
  simp only [List.cons.injEq, Sum.inr.injEq, Sum.inl.injEq] at h
  obtain ⟨h1, h2, h3, _⟩ := h
  rw [str_eq h1, h2, h3]
theorem le3_anti {a b : K3} (h1 : le3 a b = true) (h2 : le3 b a = true) : a = b :=
  key3_inj (lex_total _ _ (le3_iff.mp h2) (le3_iff.mp h1))
/-- sorted -/
def srt3 (ks : List K3) : List K3 := ks.mergeSort le3
theorem srt3_perm (ks : List K3) : (srt3 ks).Perm ks := List.mergeSort_perm _ _
theorem srt3_pw (ks : List K3) : (srt3 ks).Pairwise fun a b => le3 a b = true := List.pairwise_mergeSort le3_trans le3_total ks
theorem srt3_uniq {l ks : List K3} (h : l.Pairwise fun a b => le3 a b = true) (p : l.Perm ks) : l = srt3 ks :=
  List.Perm.eq_of_pairwise (fun a b _ _ h1 h2 => le3_anti h1 h2) h (srt3_pw ks) (p.trans (srt3_perm ks).symm)
theorem srt3_congr {a b : List K3} (p : a.Perm b) : srt3 a = srt3 b := srt3_uniq (srt3_pw a) ((srt3_perm a).trans p)
def triD (k : K3) : D := .tup [.str k.1, .int k.2.1, .int k.2.2]
def tris? : List D → Option (List K3)
  | [] => some []
  | .tup [.str x, .int i, .int j] :: ds => (tris? ds).map ((x, i, j) :: ·)
  | _ => none
theorem tris?_some : ∀ {ds : List D} {ks : List K3}, tris? ds = some ks → ds = ks.map triD := by
  intro ds
  induction ds with
  | nil => intro ks h; cases h; rfl
  | cons d ds ih =>
    intro ks h
    unfold tris? at h
    split at h
    · rename_i e; cases e
    · rename_i x i j ds' e
      obtain ⟨rfl, rfl⟩ := List.cons.inj e
      rw [Option.map_eq_some_iff] at h
      obtain ⟨m, h1, rfl⟩ := h
      rw [ih h1]; rfl
    · cases h
@[simp] theorem tris?_map (ks : List K3) : tris? (ks.map triD) = some ks := by
  induction ks with
  | nil => rfl
  | cons k r ih => simp [tris?, triD, ih]
def srtI (ns : List Int) : List Int := ns.mergeSort fun a b => decide (a ≤ b)
theorem srtI_perm (ns : List Int) : (srtI ns).Perm ns := List.mergeSort_perm _ _
theorem srtI_pw (ns : List Int) : (srtI ns).Pairwise (· ≤ ·) := by
  have := List.pairwise_mergeSort (le := fun a b : Int => decide (a ≤ b)) (fun a b c h1 h2 => by simp at *; omega) (fun a b => by simp; omega) ns
  exact this.imp fun h => by simpa using h
theorem srtI_uniq {l ns : List Int} (h : l.Pairwise (· ≤ ·)) (p : l.Perm ns) : l = srtI ns :=
  List.Perm.eq_of_pairwise (fun a b _ _ h1 h2 => Int.le_antisymm h1 h2) h (srtI_pw ns) (p.trans (srtI_perm ns).symm)
def gSort : List D → Option R
  | [.lst ds] => match ints? ds with
    | some ns => some (newL ((srtI ns).map .int))
    | none => match tris? ds with
      | some ks => some (newL ((srt3 ks).map triD))
      | none => none
  | [.scr ns] => some (newL ((srtI ns).map .int))
  | _ => none
/-- what a value is as a tuple of the heap -/
def k3of (H : Hp) : V → K3
  | .ref t => match H t with
    | some (.tup [.str x, .int i, .int j]) => (x, i, j)
    | _ => (⟨#[]⟩, 0, 0)
  | _ => (⟨#[]⟩, 0, 0)
section
variable {K : PySem.W.Frag} {H : Hp}
theorem tri_dt {v : V} {k : K3} (h : Dt K H v (triD k)) : ∃ t, v = .ref t ∧ H t = some (.tup [.str k.1, .int k.2.1, .int k.2.2]) := by
  unfold triD at h
  cases h with
  | tup h t =>
    cases t with
    | cons h1 t =>
      cases t with
      | cons h2 t =>
        cases t with
        | cons h3 t =>
          cases t; cases h1; cases h2; cases h3
          exact ⟨_, rfl, h⟩
theorem tri_k3 {v : V} {k : K3} (h : Dt K H v (triD k)) : k3of H v = k := by
  obtain ⟨t, rfl, e⟩ := tri_dt h
  unfold k3of
  dsimp only
  rw [e]
theorem tris_dt : ∀ {xs : List V} {ks : List K3}, DtL K H xs (ks.map triD) → xs.map (k3of H) = ks ∧ ∀ x ∈ xs, Dt K H x (triD (k3of H x))
  | _, [], h => by cases h; exact ⟨rfl, fun x m => by cases m⟩
  | _, k :: ks, h => by
    cases h with
    | cons h1 t =>
      obtain ⟨h2, h3⟩ := tris_dt t
      have e := tri_k3 h1
      refine ⟨by rw [List.map_cons, e, h2], fun x m => ?_⟩
      rcases List.mem_cons.mp m with rfl | m
      · rw [e]; exact h1
      · exact h3 x m
theorem dtL_tris : ∀ {xs : List V}, (∀ x ∈ xs, Dt K H x (triD (k3of H x))) → DtL K H xs ((xs.map (k3of H)).map triD)
  | [], _ => .nil
  | x :: xs, h => .cons (h x List.mem_cons_self) (dtL_tris fun y m => h y (List.mem_cons_of_mem _ m))
theorem ints_vals : ∀ {xs : List V} {ns : List Int}, DtL K H xs (ns.map D.int) → xs = ns.map V.int
  | _, [], h => by cases h; rfl
  | _, n :: ns, h => by
    cases h with
    | cons h1 t => cases dt_int h1; rw [ints_vals t]; rfl
end
theorem ok_sort {K : PySem.W.Frag} : CallOk K (fun xs H Q => rSortedTO K xs H Q ∨ rSortedI K xs H Q) gSort := by
  intro H H1 fp vs ds z Q h ls ex hz q
  unfold gSort at hz
  split at hz
  · rename_i ds
    cases h with
    | cons h1 t =>
      cases t
      cases h1 with
      | lst h2 t2 =>
        split at hz
        · rename_i ns e; cases hz
          have := ints?_some e
          subst this
          cases ints_vals t2
          refine .inr ⟨_, ns, rfl, SqL.of h2, fun ns' p pm pw hp => ?_⟩
          rw [srtI_uniq pw pm]
          obtain ⟨F, o⟩ := newL_ok (fp := fp) hp ex (DtL.ints (srtI ns))
          exact q _ F _ (Evl.Ex.new hp) o
        · split at hz
          · rename_i ks e; cases hz
            have := tris?_some e
            subst this
            obtain ⟨e1, e2⟩ := tris_dt t2
            refine .inl ⟨_, _, k3of H1, rfl, SqL.of h2, fun x m => ?_, fun ys p s st hp => ?_⟩
            · obtain ⟨t, e3, e4⟩ := tri_dt (e2 x m)
              exact ⟨t, e3, e4⟩
            · have d2 := dtL_tris (K := K) (H := H1) (xs := ys) fun x m => e2 x (st.perm.mem_iff.mp m)
              have e5 : ys.map (k3of H1) = srt3 ks := by
                refine srt3_uniq (List.pairwise_map.mpr (List.Pairwise.imp (fun h => le3_iff.mpr h) s)) ?_
                rw [← e1]; exact st.perm.map _
              rw [e5] at d2
              obtain ⟨F, o⟩ := newL_ok (fp := fp) hp ex d2
              exact q _ F _ (Evl.Ex.new hp) o
          · cases hz
  · rename_i ns; cases hz
    cases h with
    | cons h1 t =>
      cases t
      cases h1 with
      | scr h2 t2 =>
        refine .inr ⟨_, ns, rfl, h2, fun ns' p pm pw hp => ?_⟩
        rw [srtI_uniq pw pm]
        obtain ⟨F, o⟩ := newL_ok (fp := fp) hp ex (DtL.ints (srtI ns))
        exact q _ F _ (Evl.Ex.new hp) o
  · cases hz
theorem cr_sort {X : Cx} : CallR X (.builtin "sorted") (fun xs H Q => rSortedTO X.K xs H Q ∨ rSortedI X.K xs H Q) := by
  intro pins s σ H vs us Q I r h
  rcases h with h | h
  · exact cr_sortedTO pins s σ H vs us Q I r h
  · exact cr_sortedI pins s σ H vs us Q I r h
end DL

set_option Elab.async false
set_option linter.all false
set_option maxRecDepth 100000
set_option maxHeartbeats 4000000
/-! enumerate over a list. -/
namespace DL
open PySem PySem.Spec PyProof.Rows L2
open Evl (Ex)
def enumD (ds : List D) : List D := ds.mapIdx fun i d => .tup [.int (i : Nat), d]
section
variable {K : PySem.W.Frag} {B : Hp} {a : Addr} {ds : List D}
theorem ite_ok (h : Dt K B (.ref a) (.lst ds)) : ItOk K B (Ite K a) (enumD ds) := by
  cases h with
  | lst h t =>
    rename_i xs
    refine fun i H' e => ⟨fun d hd => ?_, fun hl => ⟨xs, SqL.of (e _ _ h), ?_⟩⟩
    · unfold enumD at hd
      rw [List.getElem?_mapIdx, Option.map_eq_some_iff] at hd
      obtain ⟨d', hd', rfl⟩ := hd
      obtain ⟨v, h1, h2⟩ := t.get hd'
      refine ⟨⟨xs, v, SqL.of (e _ _ h), h1⟩, fun x H'' y => ?_⟩
      obtain ⟨T, x', rfl, nT, rfl, f⟩ := y
      have := f xs (SqL.of (e _ _ h))
      rw [h1] at this; cases this
      exact ⟨Evl.Ex.new nT, fun B2 e2 e3 => .tup (e3 _ _ (stb_tup upd_same)) (.cons (.int _) (.cons (h2.mono e2) .nil))⟩
    · rw [t.len]
      unfold enumD at hl
      rwa [List.length_mapIdx] at hl
end
section
variable {X : Cx} {elts : List Expr} {kk : Nat} {e : Expr} {ma : MA} {p pos tpos : Pos}
def mEnum (ma : MA) : MI := fun ρ => match ma ρ with
  | some [r] => match r.data with
    | .lst ds => some (r.fixed, enumD ds)
    | _ => none
  | _ => none
theorem xi_enum (hg : Gl X "enumerate") (hm : X.mg "enumerate" = none) (ha : XA X [e] ma) (hs : starEach [e] X.env = [(false, eval e X.env)] := by rfl) :
    XI X (.Tuple elts kk tpos) (.Call (.Name "enumerate" p) [e] [] pos) (mEnum ma) := by
  obtain ⟨t, pa, s⟩ := ha
  refine ⟨_, pi_enum hg hm pa hs, fun G H σ ρ fp fx items Q R hm q => ?_⟩
  unfold mEnum at hm
  split at hm
  · rename_i r e1
    refine s G H σ ρ fp _ _ R e1 fun vs F H1 x1 o1 => ?_
    cases o1 with
    | cons o t _ =>
      cases t
      split at hm
      · rename_i ds e2; cases hm
        have w := ROk.wall R.ls x1 o
        rw [e2] at w
        have w' := o.data; rw [e2] at w'
        cases w' with
        | lst h t => exact ⟨_, _, rfl, SqL.of h, q _ H1 x1 (ite_ok w)⟩
      · cases hm
  · cases hm
end
section
variable {X : Cx} {tg e : Expr} {ma : ME}
/-- a list or a tuple -/
def mILT (m : ME) : MI := fun ρ => match m ρ with
  | some r => match r.data with
    | .lst ds => some (r.fixed, ds)
    | .tup ds => some (r.fixed, ds)
    | _ => none
  | none => none
theorem xi_lt (h : XE X e ma) : XI X tg e (mILT ma) := by
  obtain ⟨t, p, s⟩ := h
  refine ⟨_, DL.PI.or (pi_list p) (pi_tup p), fun G H σ ρ fp fx items Q R hm q => ?_⟩
  unfold mILT at hm
  split at hm
  · rename_i r e1
    split at hm
    · rename_i ds e2; cases hm
      refine .inl (s G H σ ρ fp r _ R e1 fun v F H1 x1 o1 => ?_)
      have w := ROk.wall R.ls x1 o1
      rw [e2] at w
      have w' := o1.data; rw [e2] at w'
      cases w' with
      | lst h t => exact ⟨_, rfl, ⟨_, SqL.of h⟩, q _ H1 x1 (itl_ok w)⟩
    · rename_i ds e2; cases hm
      refine .inr (s G H σ ρ fp r _ R e1 fun v F H1 x1 o1 => ?_)
      have w := ROk.wall R.ls x1 o1
      rw [e2] at w
      have w' := o1.data; rw [e2] at w'
      cases w' with
      | tup h t => exact ⟨_, rfl, ⟨_, .inl (.inl h)⟩, q _ H1 x1 (itt_ok (tupD w))⟩
    · cases hm
  · cases hm
end
end DL

set_option Elab.async false
set_option linter.all false
set_option maxRecDepth 100000
set_option maxHeartbeats 4000000
/-! enumerate(zip(*rows)): the target a tuple. -/
namespace ZE
open PySem PySem.Spec PyProof.Rows
open Sem (wp)
open ZN
section
variable {prog : Program} {w : World} {A : Around} {E : Value → Shared → Prop} {s : Shared}
theorem nextOf_zip {z TI TO : Addr} {its ls : List Addr} {cols : List (Array Value)} {kept us : List Value} {f0 f1 : Value} {i : Nat} {Q : Value → Shared → Prop} (D : Ap z TI TO its ls)
    (hf0 : f0 = .none ∨ ∃ T : Addr, f0 = rawInt T)
    (hz : IsZ s.heap z TI TO f0 f1) (hTI : IsTu s.heap TI (its.map Value.ref)) (hTO : IsTu s.heap TO kept) (hk : kept.length = its.length) (hne : its ≠ []) (hlen : its.length ≤ 100) (hc : cols.length = its.length)
    (hg : Good its ls cols (fun _ => i) s.heap) (hus : Row cols i us)
    (hQ : ∀ h' f0' f1' kept', (f0' = .none ∨ ∃ T : Addr, f0' = rawInt T) → IsZ h' z TI TO f0' f1' → IsTu h' TO kept' → kept'.length = its.length → Good its ls cols (fun _ => i + 1) h' → IsTu h' s.heap.objs.size us → h'.objs.size = s.heap.objs.size + 1 → Chg z TO its s.heap h' → Q (.ref s.heap.objs.size) { s with heap := h' }) :
    wpAny (model prog w) A (Builtin.SmallTypes.nextOf (.ref z)) Q E s := by
  have hT : s.TypeIs (.ref z) "zip" := ⟨_, hz, rfl⟩
  unfold Builtin.SmallTypes.nextOf
  exact wpAny_bind (wpAny_callSpecial?_slot (name := Str.ofString "__next__") hT F.slot_zip_next
    (wpAny_call_entry F.slot_zip_next hT F.entry_zip_next
      (next_item D hf0 hz hTI hTO hk hne hlen hc hg hus fun h' a b c a0 a1 a2 a3 a4 a5 a6 a7 => wpAny_pure (hQ h' a b c a0 a1 a2 a3 a4 a5 a6 a7)) (F.args_zip_next_1 _)))
theorem nextOf_zip_end {z TI TO : Addr} {its ls : List Addr} {kept : List Value} {f0 f1 : Value} {i : Nat} {Q : Value → Shared → Prop} (hh : A.handled = none) (D : Ap z TI TO its ls)
    (hf0 : f0 = .none ∨ ∃ T : Addr, f0 = rawInt T)
    (hz : IsZ s.heap z TI TO f0 f1) (hTI : IsTu s.heap TI (its.map Value.ref)) (hTO : IsTu s.heap TO kept) {p l : Addr} {r : List Addr} {xs : Array Value} (hir : its = p :: r)
    (h1 : ls[0]? = some l) (h3 : s.heap.IsListIter p l i) (h4 : s.heap.IsList l xs) (hx : xs[i]? = none)
    (hE : ∀ h' e, Chg z TO its s.heap h' → (∃ o, h'.get? e = some o ∧ o.cls = .type "StopIteration") → E (.ref e) { s with heap := h' }) :
    wpAny (model prog w) A (Builtin.SmallTypes.nextOf (.ref z)) Q E s := by
  have hT : s.TypeIs (.ref z) "zip" := ⟨_, hz, rfl⟩
  unfold Builtin.SmallTypes.nextOf
  exact wpAny_bind (wpAny_callSpecial?_slot (name := Str.ofString "__next__") hT F.slot_zip_next
    (wpAny_call_entry F.slot_zip_next hT F.entry_zip_next (next_end hh D hf0 hz hTI hTO hir h1 h3 h4 hx fun h' e hk he => hE h' e hk he) (F.args_zip_next_1 _)))
/-- the cells of the enumerate object lie apart from the zip's -/
structure Eap (e z TI TO : Addr) (its ls : List Addr) : Prop where
  z : e ≠ z
  TI : e ≠ TI
  TO : e ≠ TO
  it : e ∉ its
  l : e ∉ ls
theorem enum_item {e z TI TO : Addr} {its ls : List Addr} {cols : List (Array Value)} {kept us : List Value} {f0 f1 : Value} {i : Nat} {old : Value} {Q : Value → Shared → Prop} (D : Ap z TI TO its ls) (P : Eap e z TI TO its ls)
    (he : IsEnum s.heap e z i old) (hf0 : f0 = .none ∨ ∃ T : Addr, f0 = rawInt T)
    (hz : IsZ s.heap z TI TO f0 f1) (hTI : IsTu s.heap TI (its.map Value.ref)) (hTO : IsTu s.heap TO kept) (hk : kept.length = its.length) (hne : its ≠ []) (hlen : its.length ≤ 100) (hc : cols.length = its.length)
    (hg : Good its ls cols (fun _ => i) s.heap) (hus : Row cols i us)
    (hQ : ∀ h1 f0' f1' kept', (f0' = .none ∨ ∃ T : Addr, f0' = rawInt T) → IsZ h1 z TI TO f0' f1' → IsTu h1 TO kept' → kept'.length = its.length → Good its ls cols (fun _ => i + 1) h1 → IsTu h1 s.heap.objs.size us → h1.objs.size = s.heap.objs.size + 1 → Chg z TO its s.heap h1 →
      ∀ h', IsEnumOut h' e z ((i : Int) + 1) (.ref s.heap.objs.size) h1.objs.size → h'.get? h1.objs.size = some { cls := .type "tuple", data := .seq #[.int i s.toks, .ref s.heap.objs.size] } → h'.objs.size = h1.objs.size + 1 →
      (∀ b o, b ≠ e → h1.get? b = some o → h'.get? b = some o) → Q (.ref h1.objs.size) { s with heap := h', toks := s.toks + 1 }) :
    wpAny (model prog w) A (Builtin.«enumerate.__next__» ⟨[.ref e], []⟩) (fun fin s' => ∃ v, fin = .done (.ret v) ∧ Q v s') E s := by
  obtain ⟨hp, g, d, tk, os⟩ := s
  show wpAny _ _ (field (.ref e) 2 >>= _) _ _ _
  refine wpAny_bind (wpAny_field he rfl (x := .ref z) rfl ?_)
  refine wpAny_bind (nextOf_zip D hf0 hz hTI hTO hk hne hlen hc hg hus fun h₁ f0' f1' kept' a0 a1 a2 a3 a4 a5 a6 a7 => ?_)
  have he₁ : IsEnum h₁ e z i old := a7 e _ P.z P.TO P.it he
  replace hQ := hQ h₁ f0' f1' kept' a0 a1 a2 a3 a4 a5 a6 a7
  show wpAny _ _ (field (.ref e) 3 >>= _) _ _ ⟨h₁, g, d, tk, os⟩
  refine wpAny_bind (wpAny_field he₁ rfl (x := rawInt i) rfl ?_)
  show wpAny _ _ (field (.ref e) 4 >>= _) _ _ ⟨h₁, g, d, tk, os⟩
  refine wpAny_bind (wpAny_field he₁ rfl (x := .none) rfl ?_)
  show wpAny _ _ (mkInt i >>= _) _ _ ⟨h₁, g, d, tk, os⟩
  refine wpAny_bind (wpAny_mkInt ?_)
  show wpAny _ _ (setField (.ref e) 3 (rawInt ((i : Int) + 1)) >>= _) _ _ ⟨h₁, g, d, tk + 1, os⟩
  refine wpAny_bind (wpAny_setField_rec he₁ (by simp) fun h₂ he₂ hs₂ => ?_)
  replace hs₂ : Heap.SameBut e h₁ h₂ := hs₂
  replace he₂ : IsEnum h₂ e z ((i : Int) + 1) old := he₂
  show wpAny _ _ (setField (.ref e) 4 .none >>= _) _ _ ⟨h₂, g, d, tk + 1, os⟩
  refine wpAny_bind (wpAny_setField_rec he₂ (by simp) fun h₃ he₃ hs₃ => ?_)
  replace hs₃ : Heap.SameBut e h₂ h₃ := hs₃
  replace he₃ : IsEnum h₃ e z ((i : Int) + 1) old := he₃
  show wpAny _ _ (newTuple [.int i tk, .ref hp.objs.size] >>= _) _ _ ⟨h₃, g, d, tk + 1, os⟩
  refine wpAny_bind (wpAny_newTuple ?_)
  have he₄ : IsEnum (h₃.push { cls := .type "tuple", data := .seq #[.int i tk, .ref hp.objs.size] }) e z ((i : Int) + 1) old := Heap.get?_push_of_some _ he₃
  generalize hh₄ : h₃.push { cls := .type "tuple", data := .seq #[.int i tk, .ref hp.objs.size] } = h₄ at he₄
  have hsz : h₃.objs.size = h₁.objs.size := by rw [hs₃.1, hs₂.1]
  have hel : e < h₁.objs.size := Heap.lt_size he₁
  have ht₄ : h₄.get? h₁.objs.size = some { cls := .type "tuple", data := .seq #[.int i tk, .ref hp.objs.size] } := by rw [← hh₄, ← hsz]; exact Heap.get?_push_size _ rfl
  have hz₄ : h₄.objs.size = h₁.objs.size + 1 := by rw [← hh₄, Heap.size_push, hsz]
  have hk₄ : ∀ b o, b ≠ e → h₁.get? b = some o → h₄.get? b = some o := fun b o hbe hb => by
    rw [← hh₄]; exact Heap.get?_push_of_some _ (hs₃.extBut b o hbe (hs₂.extBut b o hbe hb))
  show wpAny _ _ (Builtin.SmallTypes.ownedTupleIsFree (.ref e) >>= _) _ _ ⟨h₄, g, d, tk + 1, os⟩
  rw [hsz]
  clear hh₄ he₃ hs₃ he₂ hs₂ hsz h₃ h₂
  refine wpAny_bind ?_
  · unfold Builtin.SmallTypes.ownedTupleIsFree
    refine wpAny_bind (wpAny_field he₄ rfl (x := .none) rfl (wpAny_pure ?_))
    simp only [if_true]
    refine wpAny_bind (wpAny_rule ?_)
    refine wpAny_bind (wpAny_field he₄ rfl (x := old) rfl ?_)
    refine wpAny_bind (wpAny_setField_rec he₄ (by simp) fun h₅ he₅ hs₅ => ?_)
    replace hs₅ : Heap.SameBut e h₄ h₅ := hs₅
    replace he₅ : IsEnum h₅ e z ((i : Int) + 1) (.ref hp.objs.size) := he₅
    show wpAny _ _ (Builtin.SmallTypes.ownedTupleHandOut (.ref e) (.ref h₁.objs.size) >>= _) _ _ ⟨h₅, g, d, tk + 1, os⟩
    refine wpAny_bind ?_
    · unfold Builtin.SmallTypes.ownedTupleHandOut
      refine wpAny_bind (wpAny_setField_rec he₅ (by simp) fun h₆ he₆ hs₆ => ?_)
      replace hs₆ : Heap.SameBut e h₅ h₆ := hs₆
      replace he₆ : IsEnumOut h₆ e z ((i : Int) + 1) (.ref hp.objs.size) h₁.objs.size := he₆
      refine wpAny_setField_rec he₆ (by simp) fun h₇ he₇ hs₇ => ?_
      replace hs₇ : Heap.SameBut e h₆ h₇ := hs₇
      replace he₇ : IsEnumOut h₇ e z ((i : Int) + 1) (.ref hp.objs.size) h₁.objs.size := he₇
      refine wpAny_bind (wpAny_letGo (wpAny_pure ⟨_, rfl, hQ h₇ he₇ ?_ ?_ ?_⟩))
      · exact hs₇.extBut _ _ (Nat.ne_of_gt hel) (hs₆.extBut _ _ (Nat.ne_of_gt hel) (hs₅.extBut _ _ (Nat.ne_of_gt hel) ht₄))
      · rw [hs₇.1, hs₆.1, hs₅.1, hz₄]
      · exact fun b o hbe hb => hs₇.extBut b o hbe (hs₆.extBut b o hbe (hs₅.extBut b o hbe (hk₄ b o hbe hb)))
theorem pyNext_enum_item {e z TI TO : Addr} {its ls : List Addr} {cols : List (Array Value)} {kept us : List Value} {f0 f1 : Value} {i : Nat} {old : Value} {Q : Option Value → Shared → Prop} (D : Ap z TI TO its ls) (P : Eap e z TI TO its ls)
    (he : IsEnum s.heap e z i old) (hf0 : f0 = .none ∨ ∃ T : Addr, f0 = rawInt T)
    (hz : IsZ s.heap z TI TO f0 f1) (hTI : IsTu s.heap TI (its.map Value.ref)) (hTO : IsTu s.heap TO kept) (hk : kept.length = its.length) (hne : its ≠ []) (hlen : its.length ≤ 100) (hc : cols.length = its.length)
    (hg : Good its ls cols (fun _ => i) s.heap) (hus : Row cols i us)
    (hQ : ∀ h1 f0' f1' kept', (f0' = .none ∨ ∃ T : Addr, f0' = rawInt T) → IsZ h1 z TI TO f0' f1' → IsTu h1 TO kept' → kept'.length = its.length → Good its ls cols (fun _ => i + 1) h1 → IsTu h1 s.heap.objs.size us → h1.objs.size = s.heap.objs.size + 1 → Chg z TO its s.heap h1 →
      ∀ h', IsEnumOut h' e z ((i : Int) + 1) (.ref s.heap.objs.size) h1.objs.size → h'.get? h1.objs.size = some { cls := .type "tuple", data := .seq #[.int i s.toks, .ref s.heap.objs.size] } → h'.objs.size = h1.objs.size + 1 →
      (∀ b o, b ≠ e → h1.get? b = some o → h'.get? b = some o) → Q (some (.ref h1.objs.size)) { s with heap := h', toks := s.toks + 1 }) :
    wpAny (model prog w) A (pyNext (.ref e)) Q E s := by
  have hT : s.TypeIs (.ref e) "enumerate" := ⟨_, he, rfl⟩
  unfold pyNext
  exact wpAny_bind (wpAny_attempt (wpAny_callSpecial?_slot (name := Str.ofString "__next__") hT F.slot_enumerate_next
    (wpAny_call_entry F.slot_enumerate_next hT F.entry_enumerate_next
      (enum_item D P he hf0 hz hTI hTO hk hne hlen hc hg hus fun h1 a b c a0 a1 a2 a3 a4 a5 a6 a7 h' b0 b1 b2 b3 => wpAny_pure (hQ h1 a b c a0 a1 a2 a3 a4 a5 a6 a7 h' b0 b1 b2 b3)) (F.args_enumerate_next_1 _))))
theorem pyNext_enum_end {e z TI TO : Addr} {its ls : List Addr} {kept : List Value} {f0 f1 : Value} {i : Nat} {c : Int} {old : Value} {Q : Option Value → Shared → Prop} (hh : A.handled = none) (D : Ap z TI TO its ls)
    (he : IsEnum s.heap e z c old) (hf0 : f0 = .none ∨ ∃ T : Addr, f0 = rawInt T)
    (hz : IsZ s.heap z TI TO f0 f1) (hTI : IsTu s.heap TI (its.map Value.ref)) (hTO : IsTu s.heap TO kept) {p l : Addr} {r : List Addr} {xs : Array Value} (hir : its = p :: r)
    (h1 : ls[0]? = some l) (h3 : s.heap.IsListIter p l i) (h4 : s.heap.IsList l xs) (hx : xs[i]? = none)
    (hQ : ∀ h', Chg z TO its s.heap h' → Q none { s with heap := h' }) : wpAny (model prog w) A (pyNext (.ref e)) Q E s := by
  have hT : s.TypeIs (.ref e) "enumerate" := ⟨_, he, rfl⟩
  unfold pyNext
  refine wpAny_bind (wpAny_attempt (wpAny_callSpecial?_slot (name := Str.ofString "__next__") hT F.slot_enumerate_next
    (wpAny_call_entry F.slot_enumerate_next hT F.entry_enumerate_next ?_ (F.args_enumerate_next_1 _))))
  show wpAny _ _ (field (.ref e) 2 >>= _) _ _ _
  refine wpAny_bind (wpAny_field he rfl (x := .ref z) rfl ?_)
  refine wpAny_bind (nextOf_zip_end hh D hf0 hz hTI hTO hir h1 h3 h4 hx fun h' x he' hx' => ?_)
  obtain ⟨o, ho, hc⟩ := hx'
  refine wpAny_bind (wpAny_isInstance (T := "StopIteration") (b := true) ⟨o, ho, hc⟩ isSubtype_stop ?_)
  exact wpAny_pure (hQ _ he')
end
theorem meets_new (z : Addr) (TI TO : Addr) (f0 f1 : Value) :
    Meets (Builtin.«enumerate.__new__» ⟨[.type "enumerate", .ref z], []⟩) (fun _ R s => IsZ s.heap z TI TO f0 f1 ∧
      R (.ok (.ret (.ref s.heap.objs.size)))
        { s with heap := s.heap.push { cls := .type "enumerate", data := .fields #[.none, .bool false, .ref z, rawInt 0, .none, .none] } }) :=
  .of_wp fun prog w A R s h => by
    obtain ⟨hp, g, d, tk, os⟩ := s; obtain ⟨hl, h⟩ := h
    have hsub := sub_enumerate
    have q1 : ∀ {A' : Around} {E : Value → Shared → Prop} {Q : Value → Shared → Prop}, Q (.ref z) ⟨hp, g, d, tk, os⟩ → wpAny (model prog w) A' (pyIter (.ref z)) Q E ⟨hp, g, d, tk, os⟩ := fun q => pyIter_zip (s := ⟨hp, g, d, tk, os⟩) hl q
    wp_walk using AutoSeq1.wpAny_loadPart' hl
    refine wpAny_stack_any fun st => wpAny_pure ?_
    split
    · rename_i c _ _ _ _ _
      cases (c == Value.type "enumerate")
      · wp_walk using AutoSeq1.wpAny_loadPart' hl, q1
        exact ⟨_, rfl, h⟩
      · wp_walk using AutoSeq1.wpAny_loadPart' hl, q1
        exact ⟨_, rfl, h⟩
    · wp_walk using AutoSeq1.wpAny_loadPart' hl, q1
      exact ⟨_, rfl, h⟩
section
variable {prog : Program} {w : World} {A : Around} {E : Value → Shared → Prop} {s : Shared}
theorem call_enum_zip {z TI TO : Addr} {f0 f1 : Value} {Q : Value → Shared → Prop} (hz : IsZ s.heap z TI TO f0 f1)
    (h : ∀ h', IsEnum h' s.heap.objs.size z 0 .none → (∀ b o, s.heap.get? b = some o → h'.get? b = some o) → Q (.ref s.heap.objs.size) { s with heap := h' }) :
    wpAny (model prog w) A (call (.type "enumerate") [.ref z]) Q E s := by
  refine callType_new F.called_enumerate (by decide) (F.typeCall_enumerate_1 _) (F.newCall_enumerate_1 _) (fun obj => F.args_object_init_2 obj _) F.entry_enumerate_new
    (meets_new z TI TO f0 f1) ⟨hz, ?_⟩
  have he : IsEnum (s.heap.push { cls := .type "enumerate", data := .fields #[.none, .bool false, .ref z, rawInt 0, .none, .none] }) s.heap.objs.size z 0 .none := Heap.get?_push_size _ rfl
  exact ⟨⟨_, he, rfl⟩, h _ he fun b o x => Heap.get?_push_of_some _ x⟩
end
end ZE

set_option Elab.async false
set_option linter.all false
set_option maxRecDepth 100000
set_option maxHeartbeats 4000000
/-! enumerate(zip(*rows)) as what is walked. -/
namespace ZE
open PySem PySem.Spec PyProof.Rows L2
open Sem (wp)
open ZN
def ItzE (K : PySem.W.Frag) (as : List Addr) : It :=
  ⟨fun i H => ∃ row, Cols K H i as row,
    fun i H x H' => ∃ (T T2 : Addr) (row : List V), x = .ref T2 ∧ H T = none ∧ upd H T (.tup row) T2 = none ∧ H' = upd (upd H T (.tup row)) T2 (.tup [.int (i : Nat), .ref T]) ∧ ∀ row', Cols K H i as row' → row = row',
    fun i H => ∃ a r xs, as = a :: r ∧ SqL K H a xs ∧ xs.length ≤ i⟩
theorem turn_enumZip {P : Program} {w : World} {K : PySem.W.Frag} {elts : List Expr} {kk : Nat} {tpos : Pos} {as its : List Addr} {e z TI TO : Addr} (D : Ap z TI TO its as) (Pe : Eap e z TI TO its as) (hl : its.length = as.length) (hne : as ≠ []) (h6 : as.length ≤ 6) :
    Turn P w K (.Tuple elts kk tpos) (ItzE K as) (e :: z :: TI :: TO :: its) e (fun i h => (∃ old, IsEnum h e z ((i : Nat) : Int) old) ∧ Tn z TI TO its as i h) where
  mem := by simp
  obj := fun i h st c hc => by
    obtain ⟨⟨old, he⟩, ⟨f0, f1, _, hz⟩, hTI, ⟨kept, hTO, _⟩, hit⟩ := st
    have e' : c = e ∨ c = z ∨ c = TI ∨ c = TO ∨ c ∈ its := by simpa using hc
    rcases e' with q | q | q | q | q
    · rw [q]; exact ⟨_, he, fun v q => nomatch q⟩
    · rw [q]; exact ⟨_, hz, fun v q => nomatch q⟩
    · rw [q]; exact ⟨_, hTI, fun v q => nomatch q⟩
    · rw [q]; exact ⟨_, hTO, fun v q => nomatch q⟩
    · obtain ⟨j, hj⟩ := List.getElem?_of_mem q
      have hj2 := (List.getElem?_eq_some_iff.mp hj).1
      obtain ⟨o, e1, _, d1⟩ := hit j c as[j] hj (List.getElem?_eq_getElem (by omega))
      exact ⟨o, e1, fun v q => by rw [d1] at q; cases q⟩
  keep := fun i h h' st k => by
    obtain ⟨⟨old, he⟩, ⟨f0, f1, hf, hz⟩, hTI, ⟨kept, hTO, hk⟩, hit⟩ := st
    exact ⟨⟨old, k e (by simp) _ he⟩, ⟨f0, f1, hf, k z (by simp) _ hz⟩, k TI (by simp) _ hTI, ⟨kept, k TO (by simp) _ hTO, hk⟩, fun j p l hj hl => (hit j p l hj hl).at fun o q => k p (by simp [List.mem_of_getElem? hj]) o q⟩
  item := by
    intro X hP hw hK hc i pins s σ H E I hf st hg
    subst hP hw hK
    obtain ⟨⟨old, he⟩, ⟨f0, f1, hf0, hz⟩, hTI, ⟨kept, hTO, hk⟩, hit⟩ := st
    obtain ⟨row, hcol⟩ := hg
    obtain ⟨cols, us, hc1, hv, hrow, hls⟩ := hcol.vals I
    have hne2 : its ≠ [] := fun q => hne (by rw [q] at hl; exact List.length_eq_zero_iff.mp hl.symm)
    have good : Good its as cols (fun _ => i) s.heap := fun j p e => by
      have hj := (List.getElem?_eq_some_iff.mp e).1
      have h1 : as[j]? = some as[j] := List.getElem?_eq_getElem (by omega)
      have h2 : cols[j]? = some cols[j] := List.getElem?_eq_getElem (by omega)
      exact ⟨_, _, h1, h2, hit j p _ e h1, hls j _ _ h1 h2⟩
    have lt3 : ∀ c, c ∈ e :: z :: TI :: TO :: its → c < s.heap.objs.size := fun c hcm => by
      have e' : c = e ∨ c = z ∨ c = TI ∨ c = TO ∨ c ∈ its := by simpa using hcm
      rcases e' with q | q | q | q | q
      · rw [q]; exact Heap.lt_size he
      · rw [q]; exact Heap.lt_size hz
      · rw [q]; exact Heap.lt_size hTI
      · rw [q]; exact Heap.lt_size hTO
      · obtain ⟨j, hj⟩ := List.getElem?_of_mem q
        obtain ⟨_, _, _, _, ⟨o, e1, _⟩, _⟩ := good j c hj
        exact Heap.lt_size e1
    refine pyNext_enum_item D Pe he hf0 hz hTI hTO hk hne2 (by omega) (by omega) good hrow fun h1 f0' f1' kept' hf' z' TO' hk' good' hT hsz hch h' ho hT2 hsz2 hch2 => ?_
    refine ⟨_, rfl, wpAny_letOwnedTupleGo_enum (s := { s with heap := h', toks := s.toks + 1 }) ho fun h'' he' sb => ?_⟩
    have new : ObjOk X.prog X.w (upd H s.heap.objs.size (.tup row)) h1 s.heap.objs.size (.tup row) :=
      ⟨by rw [hcol.len]; exact Nat.le_trans h6 (by decide), us, hv, ⟨_, hT, rfl, _, rfl⟩⟩
    have I1 : Inv X pins σ (upd H s.heap.objs.size (.tup row)) { s with heap := h1 } :=
      I.turnedNew (t' := s.toks) (ch := z :: TI :: TO :: its) (fun c o hb q => hch c o (fun q' => hb (by simp [q'])) (fun q' => hb (by simp [q'])) (fun q' => hb (by simp [q'])) q) (fun b m => hf b (List.mem_cons_of_mem _ m)) (Nat.le_refl _) new
    have hsz' : h1.objs.size ≠ e := by
      rw [hsz]; exact Nat.ne_of_gt (Nat.lt_succ_of_lt (lt3 e (by simp)))
    have hT3 : h''.get? h1.objs.size = some { cls := .type "tuple", data := .seq #[.int i s.toks, .ref s.heap.objs.size] } := (sb.2 _ hsz').trans hT2
    have up : ∀ b o, b ≠ e → h1.get? b = some o → h''.get? b = some o := fun b o hb q => (sb.2 b hb).trans (hch2 b o hb q)
    have new2 : ObjOk X.prog X.w (upd (upd H s.heap.objs.size (.tup row)) h1.objs.size (.tup [.int (i : Nat), .ref s.heap.objs.size])) h'' h1.objs.size (.tup [.int (i : Nat), .ref s.heap.objs.size]) :=
      ⟨by show 2 ≤ sizeLine; decide, [.int i s.toks, .ref s.heap.objs.size], .cons ⟨_, rfl⟩ (.cons rfl .nil), ⟨_, hT3, rfl, _, rfl⟩⟩
    have fpe : FpOk X pins (upd H s.heap.objs.size (.tup row)) e := by
      obtain ⟨f0, f1, f2, f3, f4, f5⟩ := hf e (by simp)
      exact ⟨by rw [upd_ne (Nat.ne_of_lt (lt3 e (by simp)))]; exact f0, f1, f2, f3, f4, f5⟩
    have I2 : Inv X pins σ (upd (upd H s.heap.objs.size (.tup row)) h1.objs.size (.tup [.int (i : Nat), .ref s.heap.objs.size])) { s with heap := h'', toks := s.toks + 1 } :=
      I1.turnedNew (t' := s.toks + 1) (ch := [e]) (fun c o hb q => up c o (fun q' => hb (by simp [q'])) q) (fun b m => by rw [List.mem_singleton.mp m]; exact fpe) (Nat.le_refl _) new2
    refine ⟨.ref h1.objs.size, _, I2, rfl, ⟨_, _, row, rfl, I.hok.fresh (Nat.le_refl _), I1.hok.fresh (Nat.le_refl _), rfl, fun row' h => hcol.inj I h⟩, ⟨⟨.ref s.heap.objs.size, ?_⟩, ⟨f0', f1', hf', up z _ (Ne.symm Pe.z) z'⟩, up _ _ (Ne.symm Pe.TI) (hch _ _ D.TIz D.TITO D.TIi hTI), ⟨kept', up _ _ (Ne.symm Pe.TO) TO', hk'⟩, fun j p l hj hl' => ?_⟩, fun c hcm => ?_⟩
    · have e1 : ((i + 1 : Nat) : Int) = (i : Int) + 1 := by omega
      rw [e1]; exact he'
    · obtain ⟨l2, xs, q1, q2, q3, _⟩ := good' j p hj
      rw [hl'] at q1; cases q1
      have hpe : p ≠ e := fun q => Pe.it (q ▸ List.mem_of_getElem? hj)
      exact q3.at fun o q => up p o hpe q
    · have hlt := lt3 c hcm
      rw [upd_ne (by rw [hsz]; exact Nat.ne_of_lt (Nat.lt_succ_of_lt hlt)), upd_ne (Nat.ne_of_lt hlt)]
      exact (hf c hcm).1
  done := by
    intro X hP hw hK hc i pins s σ H E I hf st hg
    subst hP hw hK
    obtain ⟨⟨old, he⟩, ⟨f0, f1, hf0, hz⟩, hTI, ⟨kept, hTO, hk⟩, hit⟩ := st
    obtain ⟨a, r, xs, rfl, hqx, hend⟩ := hg
    obtain ⟨vs, rv, p, _⟩ := I.list hqx
    have l1 := rv.length
    obtain ⟨q, its', rfl⟩ : ∃ q its', its = q :: its' := by
      cases its with
      | nil => simp at hl
      | cons q its' => exact ⟨q, its', rfl⟩
    exact pyNext_enum_end (I.ok.hd hc) D he hf0 hz hTI hTO rfl (l := a) rfl (hit 0 q a rfl rfl) p.isList (by simp; omega) fun h' hch => ⟨rfl, I.turnedL (t' := s.toks) (ch := e :: z :: TI :: TO :: q :: its') (fun c o hb e =>
      hch c o (fun q' => hb (by simp [q'])) (fun q' => hb (by simp [q'])) (fun q' => hb (by
        have : c = q ∨ c ∈ its' := by simpa using q'
        rcases this with z | z <;> simp [z])) e) hf⟩
  self := fun A i s Q E st h => by
    obtain ⟨⟨old, he⟩, _⟩ := st
    exact wpAny_pyIter_enum he h
def iEnumZip (K : PySem.W.Frag) (te : TE) : TI := fun σ H R => te σ H fun x H1 => ∃ (l : Addr) (as : List Addr), x = .ref l ∧ SqL K H1 l (as.map V.ref) ∧ as ≠ [] ∧ as.length ≤ 6 ∧ (∀ a ∈ as, ∃ xs, SqL K H1 a xs) ∧ R (ItzE K as) H1
theorem pi_enumZip {X : Cx} {e : Expr} {te : TE} {elts : List Expr} {kk : Nat} {p p0 p2 pos pos0 tpos : Pos} (hg0 : Gl X "enumerate") (hm0 : X.mg "enumerate" = none) (hg : Gl X "zip") (hm : X.mg "zip" = none) (he : PE X e te) (hs : starEach [.Starred e p2] X.env = [(true, eval e X.env)] := by rfl)
    (hs0 : starEach [.Call (.Name "zip" p) [.Starred e p2] [] pos] X.env = [(false, eval (.Call (.Name "zip" p) [.Starred e p2] [] pos) X.env)] := by rfl) :
    PI X (.Tuple elts kk tpos) (.Call (.Name "enumerate" p0) [.Call (.Name "zip" p) [.Starred e p2] [] pos] [] pos0) (iEnumZip X.K te) := by
  refine ⟨fun pins s σ H R I h => ?_⟩
  refine Call_name1 hs0 (ld_blt I hg0 hm0 boot_enumerate (PySem.callWith_type1 ?_))
  refine Call_ (ld_blt I hg hm PyProof.Rows.boot_zip (callWith_tyS (thn (he.run pins s σ H _ I h) fun v s1 ⟨x, H1, I1, r1, q1⟩ => ?_) hs))
  obtain ⟨l, as, rfl, hl, hne, h6, hlists, q⟩ := q1
  obtain rfl : v = Value.ref l := r1
  refine StX.star_lst I1 hl fun us s2 I2 rv => ?_
  have hus := vals_refs rv
  subst hus
  have hcols : ∀ as' : List Addr, (∀ a ∈ as', ∃ xs, SqL X.K H1 a xs) → ∃ cols : List (Array Value), cols.length = as'.length ∧ ∀ (j : Nat) (a : Addr) (xs : Array Value), as'[j]? = some a → cols[j]? = some xs → s2.heap.IsList a xs := by
    intro as'
    induction as' with
    | nil => exact fun _ => ⟨[], rfl, fun j a xs h => by simp at h⟩
    | cons a r ih =>
      intro h
      obtain ⟨cols, h1, h2⟩ := ih fun b m => h b (List.mem_cons_of_mem _ m)
      obtain ⟨xs, hx⟩ := h a List.mem_cons_self
      obtain ⟨its, _, p, _⟩ := I2.list hx
      refine ⟨its.toArray :: cols, by simp [h1], fun j b ys e1 e2 => ?_⟩
      cases j with
      | zero => simp at e1 e2; subst e1 e2; exact p.isList
      | succ j => exact h2 j b ys (by simpa using e1) (by simpa using e2)
  obtain ⟨cols, hc1, hc2⟩ := hcols as hlists
  refine call_zip h6 hc1 hc2 fun h' z TI TO its D hz hTI hTO hil good g1 g2 g3 g4 hch => ?_
  refine call_enum_zip (s := { s2 with heap := h' }) hz fun h'' hen hch2 => wpAny_pyIter_enum hen ?_
  have I3 : Inv X pins σ H1 { s2 with heap := h'' } := I2.kept (t' := s2.toks) fun c o q => hch2 c o (hch c o q)
  have lt : ∀ c o, h'.get? c = some o → c ≠ h'.objs.size := fun c o q => Nat.ne_of_lt (Heap.lt_size q)
  have Pe : Eap h'.objs.size z TI TO its as := by
    refine ⟨Ne.symm (lt _ _ hz), Ne.symm (lt _ _ hTI), fun q => ?_, fun m => ?_, fun m => ?_⟩
    · obtain ⟨kept, hTO, _⟩ := hTO
      exact lt _ _ hTO q.symm
    · obtain ⟨j, hj⟩ := List.getElem?_of_mem m
      obtain ⟨l2, xs, q1, q2, ⟨o, q3, _⟩, _⟩ := good j _ hj
      exact lt _ _ q3 rfl
    · obtain ⟨j, hj⟩ := List.getElem?_of_mem m
      have hj2 := (List.getElem?_eq_some_iff.mp hj).1
      obtain ⟨o, ho, _⟩ := hc2 j _ cols[j] hj (List.getElem?_eq_getElem (by omega))
      exact lt _ _ (hch _ _ ho) rfl
  have hsz : s2.heap.objs.size ≤ h'.objs.size := Nat.le_of_lt (Nat.lt_of_le_of_lt g1 (Heap.lt_size hz))
  refine ⟨h'.objs.size, h'.objs.size :: z :: TI :: TO :: its, _, _, H1, rfl, I3, turn_enumZip D Pe hil hne h6, ⟨⟨.none, hen⟩, ⟨_, _, .inl rfl, hch2 _ _ hz⟩, hch2 _ _ hTI, ?_, fun j p l hj hl' => ?_⟩, fun c hcm => ?_, q⟩
  · obtain ⟨kept, hTO, hk⟩ := hTO
    exact ⟨kept, hch2 _ _ hTO, hk⟩
  · obtain ⟨l2, xs, q1, q2, q3, _⟩ := good j p hj
    rw [hl'] at q1; cases q1
    exact q3.at fun o q => hch2 p o q
  · have e' : c = h'.objs.size ∨ c = z ∨ c = TI ∨ c = TO ∨ c ∈ its := by simpa using hcm
    have hle : s2.heap.objs.size ≤ c := by
      rcases e' with q | q | q | q | q
      · rw [q]; exact hsz
      · rw [q]; exact g1
      · rw [q]; exact g2
      · rw [q]; exact g3
      · exact g4 c q
    exact I2.fpOk hle (I2.hok.fresh hle)
end ZE
namespace DL
open PySem PySem.Spec PyProof.Rows L2
open Evl (Ex)
open ZE (ItzE iEnumZip pi_enumZip)
section
variable {K : PySem.W.Frag} {B : Hp}
theorem itzE_ok {as : List Addr} {xss : List (List V)} {rs : List (List D)} {n : Nat} (h : Rws K B as xss rs) (hne : rs ≠ []) (hn : ∀ r ∈ rs, r.length = n) : ItOk K B (ItzE K as) (enumD (colsD rs n)) := by
  refine fun i H' e => ⟨fun d hd => ?_, fun hl => ?_⟩
  · unfold enumD at hd
    rw [List.getElem?_mapIdx, Option.map_eq_some_iff] at hd
    obtain ⟨d', hd, rfl⟩ := hd
    have hi : i < n := by
      have := (List.getElem?_eq_some_iff.mp hd).1
      unfold colsD at this
      simpa using this
    obtain ⟨row, h1, h2⟩ := h.cols hi e hn
    refine ⟨⟨row, h1⟩, fun x H'' y => ?_⟩
    obtain ⟨T, T2, row', rfl, nT, nT2, rfl, u⟩ := y
    have := u row h1
    subst this
    refine ⟨(Evl.Ex.new nT).trans (Evl.Ex.new nT2), fun B2 e2 e3 => ?_⟩
    unfold colsD at hd
    rw [List.getElem?_map, List.getElem?_range hi] at hd
    cases hd
    have hTT : T ≠ T2 := fun q => by subst q; rw [upd_same] at nT2; cases nT2
    refine .tup (e3 _ _ (stb_tup upd_same)) (.cons (.int _) (.cons (.tup (e3 _ _ (stb_tup ?_)) (h2.mono e2)) .nil))
    rw [upd_ne hTT]; exact upd_same
  · cases h with
    | nil => exact absurd rfl hne
    | cons h t r =>
      rename_i ds as' xss' dss
      refine ⟨_, _, _, rfl, SqL.of (e _ _ h), ?_⟩
      rw [t.len, hn ds List.mem_cons_self]
      unfold enumD colsD at hl
      simpa using hl
end
section
variable {X : Cx} {e : Expr} {ma : ME} {p p0 p2 pos pos0 tpos : Pos} {elts : List Expr} {kk : Nat}
def mEnumZip (m : ME) : MI := fun ρ => match mZipN m ρ with
  | some (f, items) => some (f, enumD items)
  | none => none
theorem xi_enumZip (hg0 : Gl X "enumerate") (hm0 : X.mg "enumerate" = none) (hg : Gl X "zip") (hm : X.mg "zip" = none) (he : XE X e ma) (hs : starEach [.Starred e p2] X.env = [(true, eval e X.env)] := by rfl)
    (hs0 : starEach [.Call (.Name "zip" p) [.Starred e p2] [] pos] X.env = [(false, eval (.Call (.Name "zip" p) [.Starred e p2] [] pos) X.env)] := by rfl) :
    XI X (.Tuple elts kk tpos) (.Call (.Name "enumerate" p0) [.Call (.Name "zip" p) [.Starred e p2] [] pos] [] pos0) (mEnumZip ma) := by
  obtain ⟨t, pt, s⟩ := he
  refine ⟨_, pi_enumZip hg0 hm0 hg hm pt hs hs0, fun G H σ ρ fp fx items Q R hm q => ?_⟩
  unfold mEnumZip mZipN at hm
  split at hm
  rotate_left
  · cases hm
  rename_i f0 items0 hm0'
  cases hm
  split at hm0'
  rotate_left
  · cases hm0'
  rename_i r e1
  split at hm0'
  rotate_left
  · cases hm0'
  rename_i ds e2
  split at hm0'
  rotate_left
  · cases hm0'
  rename_i r0 rs e3
  split at hm0'
  rotate_left
  · cases hm0'
  rename_i hc
  obtain ⟨hc5, hcl⟩ := hc
  cases hm0'
  refine s G H σ ρ fp r _ R e1 fun v F H1 x1 o1 => ?_
  have w := ROk.wall R.ls x1 o1
  have d := o1.data
  rw [e2, rows?_some e3] at w d
  cases w with
  | lst h0 t0 =>
    cases d with
    | lst h1 t1 =>
      rename_i a xs ys
      have e4 : Ex (wallOf r.fixed H1 fp) H1 := by
        cases r.fixed with
        | true => rw [wall_t]; exact hid_ex
        | false => rw [wall_f]; exact Evl.Ex.refl H1
      obtain ⟨as, xss, rfl, hr⟩ := Rws.of t0
      have hlen := hr.len
      refine ⟨a, as, rfl, SqL.of (e4 _ _ h0), fun z => ?_, ?_, fun b m => ?_, q _ H1 x1 (itzE_ok hr (fun z => by cases z) fun x m => ?_)⟩
      · subst z; simp at hlen
      · simp at hlen; omega
      · obtain ⟨xs, hx⟩ := hr.lists b m; exact ⟨xs, Evl.ex_l e4 hx⟩
      · rcases List.mem_cons.mp m with z | m
        · rw [z]
        · exact of_decide_eq_true (List.all_eq_true.mp hcl x m)
end
end DL

set_option Elab.async false
set_option linter.all false
set_option maxRecDepth 100000
set_option maxHeartbeats 4000000
/-! extend by a tuple; sorted of texts. -/
namespace PySem
open Sem (wp)
open AutoSeq1 (wpAny_loadPart')
theorem extend_tuple_any (l : Addr) (items : Array Value) (n : Nat) (b : Addr) (items2 : Array Value) (n2 : Nat) (dct : Option Addr) (sl : Array (Option Value)) (hs0 : ¬(!items.isEmpty && Builtin.List.listTooLong (items.size + items2.size)) = true) (hs1 : items.size ≤ sizeLine) (hs2 : items.size + items2.size ≤ sizeLine + 1) :
    Meets (Builtin.«list.extend» ⟨[.ref l, .ref b], []⟩) (fun _ R s => s.heap.get? l = some { cls := .type "list", dict := none, data := .seq items n, slots := #[] } ∧ s.heap.get? b = some { cls := .type "tuple", dict := dct, data := .seq items2 n2, slots := sl } ∧ R (.ok (.ret Value.none)) { s with heap := s.heap.update l (Obj.mapSeq fun x => x ++ items2), toks := s.toks }) :=
  .of_wp fun prog w A R s h => by
    obtain ⟨hp, g, d, tk, os⟩ := s; obtain ⟨hl, hb, h⟩ := h; have f1 := AutoSeq1.idx_int; have f2 := AutoSeq1.sub_tuple_tuple; have f3 := AutoSeq1.sub_list_list; have f4 := AutoSeq1.sub_tuple_list; have f5 := AutoSeq1.sub_list_tuple;
    have hz' : (items ++ items2).size ≤ sizeLine + 1 := by rw [Array.size_append]; exact hs2
    wp_walk using (wpAny_updateSeq hl rfl (hz := hs1) (_hz' := hz')), wpAny_loadPart' hl, wpAny_loadPart' hb; exact ⟨_, rfl, h⟩
end PySem
namespace L2
open PySem PySem.Spec PyProof.Rows
def rExtendT : V → List V → Hp → VK → Prop := fun x vs H Q => ∃ l b xs zs, x = .ref l ∧ vs = [.ref b] ∧ H l = some (.lst xs) ∧ H b = some (.tup zs) ∧ xs.length + zs.length ≤ sizeLine ∧ Q .non (upd H l (.lst (xs ++ zs)))
theorem mt_extendT {X : Cx} : MtM X "list.extend" rExtendT := by
  intro pins s σ H x vs v us Q I rx rv h
  obtain ⟨l, b, xs, zs, rfl, rfl, hH, hB, hz, q⟩ := h
  cases rx
  obtain ⟨u, rfl, ru⟩ := rv.one
  cases ru
  obtain ⟨z, its, n, r, hl, e⟩ := I.lstM hH
  obtain ⟨z2, its2, r2, o, e2, hc, n2, hd⟩ := I.hok b _ hB
  obtain ⟨c, dct, dt, sl⟩ := o
  replace hc : c = .type "tuple" := hc
  replace hd : dt = .seq its2.toArray n2 := hd
  subst hc hd
  have hl2 := r2.length
  have hsz : its.toArray.size + its2.toArray.size ≤ sizeLine := by rw [List.size_toArray, List.size_toArray]; omega
  have hlong : ¬ (!its.toArray.isEmpty && Builtin.List.listTooLong (its.toArray.size + its2.toArray.size)) = true := by
    rw [notLongL hsz, Bool.and_false]
    exact Bool.false_ne_true
  refine call_meets F.slot_list_extend ⟨_, e, rfl⟩ F.entry_list_extend (F.args_list_extend_2 _ _)
    (PySem.extend_tuple_any l its.toArray n b its2.toArray n2 dct sl hlong (by rw [List.size_toArray]; omega) (by omega)) ⟨e, e2, ?_⟩
  refine ⟨.non, _, I.lset (its' := its ++ its2) hH e (by simp) (r.append r2) ?_, rfl, q⟩
  rw [List.length_append]
  omega
end L2
namespace DL
open PySem PySem.Spec PyProof.Rows L2
open Evl (Ex)
section
variable {X : Cx} {W : XK} {o e : Expr} {ma me : ME} {mp : MP} {pos apos cpos : Pos} {x n : Str}
/-! ### xs.extend(t), t a tuple of what can't change -/
def mExtendT (mp : MP) (me : ME) : MS := fun ρ => match mp ρ, me ρ with
  | some (i, p), some r => match ρ[i]?, r.data with
    | some (.tr s), .tup ds => match S.get p s with
      | some (.own ss) => if immL ds = true ∧ ss.length + ds.length ≤ 100000 then some (.nx ((killVw ρ).set i (.tr (S.put (.own (ss ++ ds.map .d)) p s)))) else none
      | _ => none
    | _, _ => none
  | _, _ => none
theorem xs_extendT (ho : XP X o mp) (he : XE X e ma)
    (hbase : attributeBase o "extend" X.env (eval o X.env) = eval o X.env := by rfl)
    (hfew : ((backTo cpos (starEach (e :: []) X.env)).all (fun x => !x.1) && (backToKw cpos (keywordEach [] X.env)).all (fun x => x.1.isSome)
      && decide ((e :: ([] : List Expr)).length + ([] : List Keyword).length + (if ([] : List Keyword).isEmpty then 0 else 1) < 30)) = true := by rfl)
    (hline : (apos.endLine == cpos.line) = true := by rfl) (hs : starEach (e :: []) X.env = (false, eval e X.env) :: starEach [] X.env := by rfl) (hplain : (backTo cpos (starEach [] X.env)).any (·.1) = false := by rfl)
    (hsw : swapsWith (.Call (.Attribute o "extend" apos) [e] [] cpos) none pos.line X.env = pure false := by rfl) : XS X W (.Expr (.Call (.Attribute o "extend" apos) [e] [] cpos) pos) (mExtendT mp ma) := by
  obtain ⟨to, po, so⟩ := ho
  obtain ⟨te, pe, se⟩ := he
  refine ⟨_, ps_expr (pe_bm PySem.F.plainAttrs_list PySem.F.slot_list_extend PySem.F.type_list_extend mt_extendT po (pa_cons pe pa_nil hs) hbase hfew hline hs hplain) hsw, fun G H σ ρ fp oo D R hm q => ?_⟩
  unfold mExtendT at hm
  split at hm
  rotate_left
  · cases hm
  rename_i i p r e1 e2
  split at hm
  rotate_left
  · cases hm
  rename_i s ds e3 e4
  split at hm
  rotate_left
  · cases hm
  rename_i ss e5
  split at hm
  rotate_left
  · cases hm
  rename_i hl
  cases hm
  refine so G H σ ρ fp i p _ R e1 fun v a H1 s' ss' g1 g2 g3 x1 at1 => ?_
  rw [e3] at g1; cases g1
  have R1 := R.grow x1
  obtain ⟨v', h1, h2⟩ := R1.sl i _ e3
  rw [g3] at h1; cases h1
  obtain ⟨vs1, Fa1, ha1, hL1, _⟩ := h2.mut at1 e5
  refine ⟨.inl ⟨rfl, _, SqL.of ha1⟩, ?_⟩
  refine se G H1 σ ρ fp r _ R1 e2 fun w F H2 x2 o2 => ?_
  obtain ⟨vs2, Fa2, ha2, hL2, hn2, hsub2, hai, hmut⟩ := R1.mutate x2 e3 g3 (at1.mono x2) e5
  have z := o2.data
  rw [e4] at z
  cases z with
  | tup hb hd =>
    rename_i b zs
    refine ⟨a, b, vs2, zs, rfl, rfl, ha2, hb, ?_, ?_⟩
    · rw [← hL2.len, hd.len]; exact Evl.sz_of hl.2
    · have es : Ex (stb H2) (stb (upd H2 a (.lst (vs2 ++ zs)))) := stb_upd ha2
      have hd2 : DtL X.K (stb (upd H2 a (.lst (vs2 ++ zs)))) zs ds := (hd.stb hl.1).mono es
      have r1 : RepL X.K (upd H2 a (.lst (vs2 ++ zs))) (ss ++ ds.map .d) (vs2 ++ zs) (Fa2 ++ []) :=
        (hL2.keep ⟨es, fun b m u h => by rw [upd_ne (by rintro rfl; exact hn2 m)]; exact h⟩).append (RepL.leaves hd2) fun _ _ m => by cases m
      obtain ⟨fp', R'⟩ := hmut _ _ _ r1 (fun z => hn2 (by simpa using z)) (fun b m => .inl (by simpa using m))
      exact q _ _ fp' R'
end
/-! ### sorted of texts -/
def leS (a b : Str) : Bool := !strKind.blt b.cps.toList a.cps.toList
theorem leS_iff {a b : Str} : leS a b = true ↔ strKind.blt b.cps.toList a.cps.toList = false := by unfold leS; cases strKind.blt b.cps.toList a.cps.toList <;> simp
theorem leS_trans (a b c : Str) (h1 : leS a b = true) (h2 : leS b c = true) : leS a c = true := by
  rw [leS_iff] at *
  cases h : strKind.blt c.cps.toList a.cps.toList with
  | false => rfl
  | true =>
    rcases strKind.negTrans _ b.cps.toList _ h with q | q
    · rw [q] at h2; cases h2
    · rw [q] at h1; cases h1
theorem leS_total (a b : Str) : (leS a b || leS b a) = true := by
  unfold leS
  cases h : strKind.blt b.cps.toList a.cps.toList with
  | false => rfl
  | true =>
    cases h2 : strKind.blt a.cps.toList b.cps.toList with
    | false => rfl
    | true =>
      have := strKind.trans _ _ _ h h2
      rw [strKind.irrefl] at this; cases this
theorem leS_anti {a b : Str} (h1 : leS a b = true) (h2 : leS b a = true) : a = b := str_eq (strKind.total _ _ (leS_iff.mp h2) (leS_iff.mp h1))
def srtS (xs : List Str) : List Str := xs.mergeSort leS
theorem srtS_perm (xs : List Str) : (srtS xs).Perm xs := List.mergeSort_perm _ _
theorem srtS_pw (xs : List Str) : (srtS xs).Pairwise fun a b => leS a b = true := List.pairwise_mergeSort leS_trans leS_total xs
theorem srtS_uniq {l xs : List Str} (h : l.Pairwise fun a b => leS a b = true) (p : l.Perm xs) : l = srtS xs :=
  List.Perm.eq_of_pairwise (fun a b _ _ h1 h2 => leS_anti h1 h2) h (srtS_pw xs) (p.trans (srtS_perm xs).symm)
theorem risingS_pw : ∀ (p : Str) (r : List Str), risingS p r = true → (p :: r).Pairwise fun a b => leS a b = true
  | p, [], _ => List.pairwise_singleton _ _
  | p, x :: r, h => by
    unfold risingS at h
    rw [Bool.and_eq_true] at h
    have hx : leS p x = true := by
      unfold leS
      show (!decide (x.cps.toList < p.cps.toList)) = true
      rw [← ltCps_eq]; exact h.1
    have ih := risingS_pw x r h.2
    refine List.pairwise_cons.mpr ⟨fun y m => ?_, ih⟩
    rcases List.mem_cons.mp m with rfl | m
    · exact hx
    · exact leS_trans _ _ _ hx ((List.pairwise_cons.mp ih).1 y m)
theorem sortedS_pw {r : List Str} (h : sortedS r = true) : r.Pairwise fun a b => leS a b = true := by
  cases r with
  | nil => exact List.Pairwise.nil
  | cons x r => exact risingS_pw x r h
def strsD : List D → Option (List Str)
  | [] => some []
  | .str x :: ds => (strsD ds).map (x :: ·)
  | _ => none
theorem strsD_some : ∀ {ds : List D} {xs : List Str}, strsD ds = some xs → ds = xs.map D.str := by
  intro ds
  induction ds with
  | nil => intro xs h; cases h; rfl
  | cons d ds ih =>
    intro xs h
    unfold strsD at h
    split at h
    · rename_i e; cases e
    · rename_i x ds' e
      obtain ⟨rfl, rfl⟩ := List.cons.inj e
      rw [Option.map_eq_some_iff] at h
      obtain ⟨m, h1, rfl⟩ := h
      rw [ih h1]; rfl
    · cases h
@[simp] theorem strsD_map (xs : List Str) : strsD (xs.map D.str) = some xs := by
  induction xs with
  | nil => rfl
  | cons x r ih => simp [strsD, ih]
theorem strs_vals {K : PySem.W.Frag} {H : Hp} : ∀ {vs : List V} {xs : List Str}, DtL K H vs (xs.map D.str) → vs = xs.map V.str
  | _, [], h => by cases h; rfl
  | _, x :: xs, h => by
    cases h with
    | cons h1 t => cases h1; rw [strs_vals t]; rfl
theorem dtL_strs {K : PySem.W.Frag} {H : Hp} : ∀ xs : List Str, DtL K H (xs.map V.str) (xs.map D.str)
  | [] => .nil
  | x :: xs => .cons (.str x) (dtL_strs xs)
def gSortS : List D → Option R
  | [.lst ds] => match strsD ds with
    | some xs => if xs.length < 64 then some (newL ((srtS xs).map .str)) else none
    | none => none
  | _ => none
theorem ok_sortS {K : PySem.W.Frag} : CallOk K (rSortedS K) gSortS := by
  intro H H1 fp vs ds z Q h ls ex hz q
  unfold gSortS at hz
  split at hz
  · rename_i ds
    split at hz
    · rename_i xs e
      split at hz
      · rename_i hl; cases hz
        have := strsD_some e
        subst this
        cases h with
        | cons h1 t =>
          cases t
          cases h1 with
          | lst h2 t2 =>
            cases strs_vals t2
            refine ⟨_, xs, rfl, SqL.of h2, hl, fun ys p pm so hp => ?_⟩
            rw [srtS_uniq (sortedS_pw so) pm]
            obtain ⟨F, o⟩ := newL_ok (fp := fp) hp ex (dtL_strs (srtS xs))
            exact q _ F _ (Evl.Ex.new hp) o
      · cases hz
    · cases hz
  · cases hz
end DL

set_option Elab.async false
set_option linter.all false
set_option maxRecDepth 100000
set_option maxHeartbeats 4000000
/-! itertools.combinations(xs, 2): facts, its turns. -/
namespace PySem.F
theorem owner_combs : Manifest.owners.lookup (String.ofList ['s','n','o','i','t','a','n','i','b','m','o','c','.','s','l','o','o','t','r','e','t','i'].reverse) = some Manifest.sig_itertools_combinations := by kernel_rfl
theorem slot_combs_next : Slot "itertools.combinations" "__next__" "itertools.combinations.__next__" :=
  .of (owner := "itertools.combinations") (n := "__next__") (by rw [typeLookup_type, builtinLookup_eq_fast]; kernel_rfl) (by decide +kernel) (by decide +kernel) (by decide +kernel)
    (by first | exact .inl (by decide +kernel) | exact .inr (by decide +kernel)) (by rw [isSubtype_type]; kernel_rfl)
theorem entry_combs_next : entryFor table "itertools.combinations.__next__" = some Builtin.«itertools.combinations.__next__» := entryFor_of_tree (by kernel_rfl)
theorem args_combs_next_1 (a : Value) : argsOk "itertools.combinations.__next__" ⟨[a], []⟩ := by
  unfold argsOk; rw [signature?_of (id := "itertools.combinations.__next__") (n := ['_', '_', 't', 'x', 'e', 'n', '_', '_']) (o := ['s','n','o','i','t','a','n','i','b','m','o','c','.','s','l','o','o','t','r','e','t','i']) (by kernel_rfl) owner_combs]; kernel_rfl
theorem slot_combs_iter : Slot "itertools.combinations" "__iter__" "itertools.combinations.__iter__" :=
  .of (owner := "itertools.combinations") (n := "__iter__") (by rw [typeLookup_type, builtinLookup_eq_fast]; kernel_rfl) (by decide +kernel) (by decide +kernel) (by decide +kernel)
    (by first | exact .inl (by decide +kernel) | exact .inr (by decide +kernel)) (by rw [isSubtype_type]; kernel_rfl)
theorem entry_combs_iter : entryFor table "itertools.combinations.__iter__" = some Builtin.«dict_keyiterator.__iter__» :=
  entryFor_alias (id' := "dict_keyiterator.__iter__") (by kernel_rfl) (by first | rfl | decide +kernel | (unfold String.splitOn; simp +decide [String.splitOnAux])) (by decide +kernel) (by kernel_rfl)
theorem args_combs_iter_1 (a : Value) : argsOk "itertools.combinations.__iter__" ⟨[a], []⟩ := by
  unfold argsOk; rw [signature?_of (id := "itertools.combinations.__iter__") (n := ['_', '_', 'r', 'e', 't', 'i', '_', '_']) (o := ['s','n','o','i','t','a','n','i','b','m','o','c','.','s','l','o','o','t','r','e','t','i']) (by kernel_rfl) owner_combs]; kernel_rfl
theorem entry_combs_new : entryFor table "itertools.combinations.__new__" = some Builtin.«itertools.combinations.__new__» := entryFor_of_tree (by kernel_rfl)
theorem typeCall_combs (a b : Value) : checkTypeCall "itertools.combinations" ⟨[a, b], []⟩ = pure () := by kernel_rfl
theorem newCall_combs (a b : Value) : checkBuiltinCall "itertools.combinations.__new__" ⟨[.type "itertools.combinations", a, b], []⟩ = pure () := by kernel_rfl
theorem sub_combs : isSubtype (.type "itertools.combinations") (.type "itertools.combinations") = pure true := by rw [isSubtype_type]; kernel_rfl
theorem mro_combs : mroOf (.type "itertools.combinations") = pure [.type "itertools.combinations", .type "object"] := by rw [mroOf_type]; kernel_rfl
theorem lookup_combs_new : typeLookup (.type "itertools.combinations") "__new__" = pure (some (.builtin "itertools.combinations.__new__")) := by rw [typeLookup_type, builtinLookup_eq_fast]; kernel_rfl
theorem slot_combs_init : Slot "itertools.combinations" "__init__" "object.__init__" :=
  .of (owner := "object") (n := "__init__") (by rw [typeLookup_type, builtinLookup_eq_fast]; kernel_rfl) (by decide +kernel) (by decide +kernel) (by decide +kernel)
    (by first | exact .inl (by decide +kernel) | exact .inr (by decide +kernel)) (by rw [isSubtype_type]; kernel_rfl)
theorem called_combs : TypeCalled "itertools.combinations" "itertools.combinations.__new__" "object.__init__" :=
  ⟨by decide +kernel, by decide +kernel, ⟨_, _, mro_combs⟩, madeBy_type mro_combs lookup_combs_new (by decide +kernel), by decide +kernel, by rw [isSubtype_type]; kernel_rfl, slot_combs_init⟩
end PySem.F

set_option Elab.async false
set_option linter.all false
set_option maxRecDepth 100000
set_option maxHeartbeats 4000000
namespace ZC
open PySem PySem.Spec PyProof.Rows
open Sem (wp)
open ZN (IsTu)
/-- how the places go on -/
def stp (n : Nat) (indices : List Nat) : Option (List Nat) :=
  let r := indices.length
  match (List.range r).reverse.find? fun i => indices.getD i 0 != i + n - r with
  | none => none
  | some i => some (indices.take i ++ (List.range (r - i)).map (indices.getD i 0 + 1 + ·))
/-- the pairs of places -/
def prs (n : Nat) : List (Nat × Nat) := (List.range n).flatMap fun a => (List.range (n - 1 - a)).map fun k => (a, a + 1 + k)
def nxOk (n i : Nat) : Bool := match (prs n)[i]?, (prs n)[i + 1]? with
  | some p, some q => stp n [p.1, p.2] == some [q.1, q.2]
  | some p, none => stp n [p.1, p.2] == none
  | none, _ => true
theorem nx_all : ∀ n, n ≤ 6 → ∀ i, i < 15 → nxOk n i = true := by decide +kernel
theorem prs_len : ∀ n, n ≤ 6 → (prs n).length ≤ 15 := by decide +kernel
theorem prs_lt : ∀ n, n ≤ 6 → ∀ p ∈ prs n, p.1 < n ∧ p.2 < n := by decide +kernel
theorem prs_first : ∀ n, n ≤ 6 → 2 ≤ n → (prs n)[0]? = some (0, 1) := by decide +kernel
theorem prs_none : ∀ n, n ≤ 6 → n < 2 → prs n = [] := by decide +kernel
theorem nx_some {n i : Nat} (hn : n ≤ 6) {p q : Nat × Nat} (h1 : (prs n)[i]? = some p) (h2 : (prs n)[i + 1]? = some q) : stp n [p.1, p.2] = some [q.1, q.2] := by
  have hi : i < 15 := Nat.lt_of_lt_of_le (List.getElem?_eq_some_iff.mp h1).1 (prs_len n hn)
  have := nx_all n hn i hi
  unfold nxOk at this
  rw [h1, h2] at this
  simpa using this
theorem nx_none {n i : Nat} (hn : n ≤ 6) {p : Nat × Nat} (h1 : (prs n)[i]? = some p) (h2 : (prs n)[i + 1]? = none) : stp n [p.1, p.2] = none := by
  have hi : i < 15 := Nat.lt_of_lt_of_le (List.getElem?_eq_some_iff.mp h1).1 (prs_len n hn)
  have := nx_all n hn i hi
  unfold nxOk at this
  rw [h1, h2] at this
  simpa using this
abbrev IsC (h : Heap) (c p : Addr) (st : Int) (f2 : Value) (a b : Nat) : Prop :=
  h.get? c = some { cls := .type "itertools.combinations", dict := none, data := .fields #[.ref p, rawInt st, f2, rawInt a, rawInt b], slots := #[] }
section
variable {prog : Program} {w : World} {A : Around} {E : Value → Shared → Prop} {s : Shared}
theorem next_first {c p : Addr} {its : List Value} {f2 : Value} {a b : Nat} {x y : Value} {Q : Value → Shared → Prop} (hcp : c ≠ p) (hc : IsC s.heap c p 0 f2 a b) (hp : IsTu s.heap p its) (hx : its[a]? = some x) (hy : its[b]? = some y)
    (hQ : ∀ h' f2', IsC h' c p 1 f2' a b → IsTu h' s.heap.objs.size [x, y] → h'.objs.size = s.heap.objs.size + 1 → (∀ d o, d ≠ c → s.heap.get? d = some o → h'.get? d = some o) → Q (.ref s.heap.objs.size) { s with heap := h' }) :
    wpAny (model prog w) A (Builtin.«itertools.combinations.__next__» ⟨[.ref c], []⟩) (fun fin s' => ∃ v, fin = .done (.ret v) ∧ Q v s') E s := by
  obtain ⟨hp0, g, d, tk, os⟩ := s
  show wpAny _ _ (field (.ref c) 0 >>= _) _ _ _
  refine wpAny_bind (wpAny_field hc rfl (x := .ref p) rfl ?_)
  show wpAny _ _ (Builtin.Itertools.itNumbersFrom (.ref c) 3 >>= _) _ _ _
  refine wpAny_bind ?_
  unfold Builtin.Itertools.itNumbersFrom
  refine wpAny_bind (wpAny_load hc (wpAny_pure ?_))
  show wpAny _ _ (Builtin.Itertools.itIntField (.ref c) 1 >>= _) _ _ _
  refine wpAny_bind ?_
  unfold Builtin.Itertools.itIntField
  refine wpAny_bind (wpAny_field hc rfl (x := rawInt 0) rfl (wpAny_pure ?_))
  show wpAny _ _ (setField (.ref c) 1 (rawInt 1) >>= _) _ _ _
  refine wpAny_bind (wpAny_setField_rec hc (by simp) fun h₁ hc₁ hs₁ => ?_)
  replace hc₁ : IsC h₁ c p 1 f2 a b := hc₁
  have hp₁ : IsTu h₁ p its := (hs₁.2 p (Ne.symm hcp)).trans hp
  refine wpAny_bind ?_
  refine wpAny_bind ?_
  unfold Builtin.Itertools.itPoolItems
  refine wpAny_bind (wpAny_seqItems hp₁ rfl (wpAny_pure ?_))
  have hpk : ([a, b].map fun i => its.toArray.getD i .none) = [x, y] := by
    simp [Array.getD_eq_getD_getElem?, hx, hy]
  show wpAny _ _ (newTuple ([a, b].map fun i => its.toArray.getD i .none)) _ _ _
  rw [hpk]
  refine wpAny_newTuple ?_ (by show 2 ≤ sizeLine; decide)
  have hsz : h₁.objs.size = hp0.objs.size := hs₁.1
  have hcl : c < h₁.objs.size := Heap.lt_size hc₁
  have hc₂ : IsC (h₁.push { cls := .type "tuple", data := .seq #[x, y] }) c p 1 f2 a b := Heap.get?_push_of_some _ hc₁
  have ht₂ : (h₁.push { cls := .type "tuple", data := .seq #[x, y] }).get? h₁.objs.size = some { cls := .type "tuple", data := .seq #[x, y] } := Heap.get?_push_size _ rfl
  show wpAny _ _ (field (.ref c) 2 >>= _) _ _ _
  refine wpAny_bind (wpAny_field hc₂ rfl (x := f2) rfl ?_)
  refine wpAny_bind (wpAny_setField_rec hc₂ (by simp) fun h₃ hc₃ hs₃ => ?_)
  replace hc₃ : IsC h₃ c p 1 (.ref h₁.objs.size) a b := hc₃
  refine wpAny_bind (wpAny_letGo (wpAny_pure ⟨_, rfl, ?_⟩))
  show Q (.ref h₁.objs.size) _
  rw [hsz] at hc₃ ht₂ ⊢
  refine hQ h₃ _ hc₃ ?_ ?_ fun e o he q => hs₃.extBut e o he (Heap.get?_push_of_some _ (hs₁.extBut e o he q))
  · exact hs₃.extBut _ _ (by rw [← hsz]; exact Nat.ne_of_gt hcl) ht₂
  · rw [hs₃.1, Heap.size_push, hsz]
theorem next_more {c p : Addr} {its : List Value} {f2 : Value} {a b a' b' : Nat} {x y : Value} {Q : Value → Shared → Prop} (hcp : c ≠ p) (hc : IsC s.heap c p 1 f2 a b) (hp : IsTu s.heap p its) (hst : stp its.length [a, b] = some [a', b']) (hx : its[a']? = some x) (hy : its[b']? = some y)
    (hQ : ∀ h' f2', IsC h' c p 1 f2' a' b' → IsTu h' s.heap.objs.size [x, y] → h'.objs.size = s.heap.objs.size + 1 → (∀ d o, d ≠ c → s.heap.get? d = some o → h'.get? d = some o) → Q (.ref s.heap.objs.size) { s with heap := h' }) :
    wpAny (model prog w) A (Builtin.«itertools.combinations.__next__» ⟨[.ref c], []⟩) (fun fin s' => ∃ v, fin = .done (.ret v) ∧ Q v s') E s := by
  obtain ⟨hp0, g, d, tk, os⟩ := s
  show wpAny _ _ (field (.ref c) 0 >>= _) _ _ _
  refine wpAny_bind (wpAny_field hc rfl (x := .ref p) rfl ?_)
  show wpAny _ _ (Builtin.Itertools.itNumbersFrom (.ref c) 3 >>= _) _ _ _
  refine wpAny_bind ?_
  unfold Builtin.Itertools.itNumbersFrom
  refine wpAny_bind (wpAny_load hc (wpAny_pure ?_))
  show wpAny _ _ (Builtin.Itertools.itIntField (.ref c) 1 >>= _) _ _ _
  refine wpAny_bind ?_
  unfold Builtin.Itertools.itIntField
  refine wpAny_bind (wpAny_field hc rfl (x := rawInt 1) rfl (wpAny_pure ?_))
  show wpAny _ _ (Builtin.Itertools.itPoolItems (.ref p) >>= _) _ _ _
  refine wpAny_bind ?_
  unfold Builtin.Itertools.itPoolItems
  refine wpAny_bind (wpAny_seqItems hp rfl (wpAny_pure ?_))
  have hz : its.toArray.size = its.length := List.size_toArray ..
  show wpAny _ _ (match stp its.toArray.size [a, b] with
    | some next => _
    | none => _) _ _ _
  rw [hz, hst]
  show wpAny _ _ (Builtin.Itertools.itSetNumbersFrom (.ref c) 3 [a', b'] >>= _) _ _ _
  refine wpAny_bind ?_
  unfold Builtin.Itertools.itSetNumbersFrom
  refine wpAny_updateFields hc rfl ?_ (by show 5 ≤ sizeLine + 3; decide)
  have hs₁ : Heap.SameBut c hp0 (hp0.update c (Obj.mapFields fun fs => fs.extract 0 3 ++ ([a', b'].map fun (n : Nat) => rawInt n).toArray)) := Heap.SameBut.update ..
  have hc₁ : IsC (hp0.update c (Obj.mapFields fun fs => fs.extract 0 3 ++ ([a', b'].map fun (n : Nat) => rawInt n).toArray)) c p 1 f2 a' b' := by
    exact (Heap.get?_update_self _ hc rfl).trans rfl
  generalize hp0.update c (Obj.mapFields fun fs => fs.extract 0 3 ++ ([a', b'].map fun (n : Nat) => rawInt n).toArray) = h₁ at hs₁ hc₁ ⊢
  have hp₁ : IsTu h₁ p its := (hs₁.2 p (Ne.symm hcp)).trans hp
  refine wpAny_bind ?_
  refine wpAny_bind ?_
  unfold Builtin.Itertools.itPoolItems
  refine wpAny_bind (wpAny_seqItems hp₁ rfl (wpAny_pure ?_))
  have hpk : ([a', b'].map fun i => its.toArray.getD i .none) = [x, y] := by
    simp [Array.getD_eq_getD_getElem?, hx, hy]
  show wpAny _ _ (newTuple ([a', b'].map fun i => its.toArray.getD i .none)) _ _ _
  rw [hpk]
  refine wpAny_newTuple ?_ (by show 2 ≤ sizeLine; decide)
  have hsz : h₁.objs.size = hp0.objs.size := hs₁.1
  have hcl : c < h₁.objs.size := Heap.lt_size hc₁
  have hc₂ : IsC (h₁.push { cls := .type "tuple", data := .seq #[x, y] }) c p 1 f2 a' b' := Heap.get?_push_of_some _ hc₁
  have ht₂ : (h₁.push { cls := .type "tuple", data := .seq #[x, y] }).get? h₁.objs.size = some { cls := .type "tuple", data := .seq #[x, y] } := Heap.get?_push_size _ rfl
  show wpAny _ _ (field (.ref c) 2 >>= _) _ _ _
  refine wpAny_bind (wpAny_field hc₂ rfl (x := f2) rfl ?_)
  refine wpAny_bind (wpAny_setField_rec hc₂ (by simp) fun h₃ hc₃ hs₃ => ?_)
  replace hc₃ : IsC h₃ c p 1 (.ref h₁.objs.size) a' b' := hc₃
  refine wpAny_bind (wpAny_letGo (wpAny_pure ⟨_, rfl, ?_⟩))
  show Q (.ref h₁.objs.size) _
  rw [hsz] at hc₃ ht₂ ⊢
  refine hQ h₃ _ hc₃ ?_ ?_ fun e o he q => hs₃.extBut e o he (Heap.get?_push_of_some _ (hs₁.extBut e o he q))
  · exact hs₃.extBut _ _ (by rw [← hsz]; exact Nat.ne_of_gt hcl) ht₂
  · rw [hs₃.1, Heap.size_push, hsz]
theorem stop_ok {α : Type} {Q : α → Shared → Prop} (hh : A.handled = none) (hE : ∀ h' e, (∀ d o, s.heap.get? d = some o → h'.get? d = some o) → (∃ o, h'.get? e = some o ∧ o.cls = .type "StopIteration") → E (.ref e) { s with heap := h' }) :
    wpAny (model prog w) A (Builtin.Itertools.itStop : Sem α) Q E s := by
  unfold Builtin.Itertools.itStop
  show wpAny _ _ (newExc (.type "StopIteration") [] >>= _) _ _ _
  refine wpAny_bind ?_
  simp only [newExc, newTuple]
  refine wpAny_bind (wpAny_newObj_type ?_ (by size_fits))
  refine wpAny_bind (m := firstArgMember _ _) (wpAny_of_eq (a := Value.none) (by first | rfl | (simp only [firstArgMember]; rfl)) ?_)
  refine wpAny_newObj_type ?_ (by size_fits)
  simp only [raiseNew]
  refine wpAny_bind (wpAny_handled ?_)
  rw [hh]
  refine wpAny_bind (wpAny_pure (wpAny_throw ?_))
  exact hE _ _ (fun d o q => Heap.get?_push_of_some _ (Heap.get?_push_of_some _ q)) ⟨_, Heap.get?_push_size _ rfl, rfl⟩
theorem next_end {c p : Addr} {its : List Value} {f2 : Value} {a b : Nat} {Q : Fin → Shared → Prop} (hh : A.handled = none) (hc : IsC s.heap c p 1 f2 a b) (hp : IsTu s.heap p its) (hst : stp its.length [a, b] = none)
    (hE : ∀ h' e, (∀ d o, d ≠ c → s.heap.get? d = some o → h'.get? d = some o) → (∃ o, h'.get? e = some o ∧ o.cls = .type "StopIteration") → E (.ref e) { s with heap := h' }) :
    wpAny (model prog w) A (Builtin.«itertools.combinations.__next__» ⟨[.ref c], []⟩) Q E s := by
  obtain ⟨hp0, g, d, tk, os⟩ := s
  show wpAny _ _ (field (.ref c) 0 >>= _) _ _ _
  refine wpAny_bind (wpAny_field hc rfl (x := .ref p) rfl ?_)
  show wpAny _ _ (Builtin.Itertools.itNumbersFrom (.ref c) 3 >>= _) _ _ _
  refine wpAny_bind ?_
  unfold Builtin.Itertools.itNumbersFrom
  refine wpAny_bind (wpAny_load hc (wpAny_pure ?_))
  show wpAny _ _ (Builtin.Itertools.itIntField (.ref c) 1 >>= _) _ _ _
  refine wpAny_bind ?_
  unfold Builtin.Itertools.itIntField
  refine wpAny_bind (wpAny_field hc rfl (x := rawInt 1) rfl (wpAny_pure ?_))
  show wpAny _ _ (Builtin.Itertools.itPoolItems (.ref p) >>= _) _ _ _
  refine wpAny_bind ?_
  unfold Builtin.Itertools.itPoolItems
  refine wpAny_bind (wpAny_seqItems hp rfl (wpAny_pure ?_))
  have hz : its.toArray.size = its.length := List.size_toArray ..
  show wpAny _ _ (match stp its.toArray.size [a, b] with
    | some next => _
    | none => _) _ _ _
  rw [hz, hst]
  show wpAny _ _ (setField (.ref c) 1 (rawInt 2) >>= _) _ _ _
  refine wpAny_bind (wpAny_setField_rec hc (by simp) fun h₁ hc₁ hs₁ => ?_)
  exact stop_ok (s := ⟨h₁, g, d, tk, os⟩) hh fun h' e k he => hE h' e (fun d o hd q => k d o (hs₁.extBut d o hd q)) he
theorem next_over {c p : Addr} {f2 : Value} {a b : Nat} {Q : Fin → Shared → Prop} (hh : A.handled = none) (hc : IsC s.heap c p 2 f2 a b)
    (hE : ∀ h' e, (∀ d o, d ≠ c → s.heap.get? d = some o → h'.get? d = some o) → (∃ o, h'.get? e = some o ∧ o.cls = .type "StopIteration") → E (.ref e) { s with heap := h' }) :
    wpAny (model prog w) A (Builtin.«itertools.combinations.__next__» ⟨[.ref c], []⟩) Q E s := by
  obtain ⟨hp0, g, d, tk, os⟩ := s
  show wpAny _ _ (field (.ref c) 0 >>= _) _ _ _
  refine wpAny_bind (wpAny_field hc rfl (x := .ref p) rfl ?_)
  show wpAny _ _ (Builtin.Itertools.itNumbersFrom (.ref c) 3 >>= _) _ _ _
  refine wpAny_bind ?_
  unfold Builtin.Itertools.itNumbersFrom
  refine wpAny_bind (wpAny_load hc (wpAny_pure ?_))
  show wpAny _ _ (Builtin.Itertools.itIntField (.ref c) 1 >>= _) _ _ _
  refine wpAny_bind ?_
  unfold Builtin.Itertools.itIntField
  refine wpAny_bind (wpAny_field hc rfl (x := rawInt 2) rfl (wpAny_pure ?_))
  show wpAny _ _ (rule "itertools.combinations.ended" >>= _) _ _ _
  refine wpAny_bind (wpAny_rule ?_)
  exact stop_ok (s := ⟨hp0, g, d, tk, os⟩) hh fun h' e k he => hE h' e (fun d o _ q => k d o q) he
end
end ZC

set_option Elab.async false
set_option linter.all false
set_option maxRecDepth 100000
set_option maxHeartbeats 4000000
namespace ZC
open PySem PySem.Spec PyProof.Rows
open Sem (wp)
open ZN (IsTu)
section
variable {prog : Program} {w : World} {A : Around} {E : Value → Shared → Prop} {s : Shared}
/-- the items of a list or a tuple; the heap only grows -/
theorem collect_sz {Q : List Value → Shared → Prop} {l : Addr} {T : String} {o : Obj} {xs : Array Value} {n : Nat} (hT : T = "list" ∨ T = "tuple") (ho : s.heap.get? l = some o) (hc : o.cls = .type T) (hd : o.data = .seq xs n) (hz : xs.size ≤ sizeLine)
    (hQ : ∀ h', (∀ b u, s.heap.get? b = some u → h'.get? b = some u) → s.heap.objs.size ≤ h'.objs.size → Q xs.toList { s with heap := h' }) : wpAny (model prog w) A (collect (.ref l)) Q E s := by
  let S := s.heap.objs.size
  let h₀ := s.heap.push { cls := .type "list", data := .seq ([] : List Value).toArray }
  let h₁ := h₀.update S (Obj.mapSeq (· ++ xs))
  have g₀ : h₀.get? S = some { cls := .type "list", data := .seq #[] 0 } := Heap.get?_push_size _ rfl
  have g₁ := Heap.get?_update_self (Obj.mapSeq (· ++ xs)) g₀ rfl
  have last : wpAny (model prog w) A (load S >>= fun u => match u.data with
      | .seq ys _ => pure ys.toList
      | _ => unsupported "internal:collect") Q E { s with heap := h₁ } := by
    refine wpAny_bind (wpAny_load g₁ (wpAny_pure ?_))
    have e : ((#[] : Array Value) ++ xs).toList = xs.toList := by simp
    show Q ((#[] : Array Value) ++ xs).toList _
    rw [e]
    refine hQ h₁ (fun b u q => (Heap.get?_update_other _ _ (Nat.ne_of_gt (Heap.lt_size q))).trans (Heap.get?_push_of_some _ q)) ?_
    show s.heap.objs.size ≤ (h₀.update S _).objs.size
    rw [Heap.size_update, Heap.size_push]
    exact Nat.le_succ _
  have ext := wpAny_extend_seq (prog := prog) (w := w) (hsz := hz) (A := A) (R := fun r s' => r = .ok (.ret (.ref S)) ∧ s' = { s with heap := h₁ }) (s := { s with heap := h₀ }) S l (.ref S) 0 hT g₀ (Heap.get?_push_of_some _ ho) hc hd ⟨rfl, rfl⟩
  unfold collect
  refine wpAny_bind (wpAny_runValue (codeAny_builtin F.entry_proto_collect ?_))
  rw [Around.under_plainId F.plain_proto_collect _]
  refine wpAny_bind (m := newList []) (wpAny_newObj_type (wpAny_pure ⟨plainId_quiet F.plain_list_iadd _, codeAny_builtin F.entry_list_iadd ?_⟩))
  rw [Around.under_plainId F.plain_list_iadd _]
  refine wpAny_mono ext (fun fin s' h => ?_) fun e s' h => absurd h.1 (by simp)
  cases fin with
  | done f =>
    obtain ⟨e, rfl⟩ := h
    cases e
    exact last
  | again c' => exact ⟨h.1, codeAny_mono h.2 fun r s'' hr => by obtain ⟨rfl, rfl⟩ := hr; exact last⟩
theorem index_int {n : Int} {t : Tok} {Q : Int → Shared → Prop} (h : Q n s) : wpAny (model prog w) A (asIndex (.int n t)) Q E s := by
  unfold asIndex
  refine wpAny_bind ?_
  unfold asInt?
  wp_walk
  exact h
end
theorem bind_named (a b : Value) : Builtin.Itertools.itBindNamed "combinations" ["iterable", "r"] 2 2 [a, b] [] = pure [some a, some b] := by first | rfl | kernel_rfl
theorem has_dict : typeHasDict (.type "itertools.combinations") = false := by first | rfl | kernel_rfl | decide +kernel
theorem meets_new {prog : Program} {w : World} (l : Addr) (its : List Value) (t : Tok) (T : String) (hT : T = "list" ∨ T = "tuple") (hn : its.length ≤ 6) :
    MeetsIn prog w (Builtin.«itertools.combinations.__new__» ⟨[.type "itertools.combinations", .ref l, .int 2 t], []⟩) (fun _ R s => (∃ o n, s.heap.get? l = some o ∧ o.cls = .type T ∧ o.data = .seq its.toArray n) ∧
      ∀ h' c p, c ≠ p → IsC h' c p (if its.length < 2 then 2 else 0) .none 0 1 → IsTu h' p its → s.heap.objs.size ≤ c → s.heap.objs.size ≤ p → (∀ d o, s.heap.get? d = some o → h'.get? d = some o) → R (.ok (.ret (.ref c))) { s with heap := h' }) := by
  refine .of_wp fun A R s h => ?_
  obtain ⟨hp, g, d, tk, os⟩ := s; obtain ⟨⟨o, n, ho, hc, hd⟩, h⟩ := h
  have hsub := PySem.F.sub_combs
  unfold Builtin.«itertools.combinations.__new__»
  refine wpAny_bind ?_
  show wpAny _ _ (Builtin.Itertools.itClassAndRest "combinations" _ >>= _) _ _ _
  refine wpAny_bind ?_
  unfold Builtin.Itertools.itClassAndRest
  dsimp only
  rw [show ("itertools." ++ "combinations" : String) = "itertools.combinations" from rfl, hsub]
  refine wpAny_bind (wpAny_pure ?_)
  simp only [Bool.not_true, Bool.false_eq_true, if_false]
  refine wpAny_bind (wpAny_pure ?_)
  simp only [Bool.not_true, Bool.false_eq_true, if_false]
  refine wpAny_pure ?_
  dsimp only
  rw [bind_named]
  refine wpAny_bind (wpAny_pure ?_)
  dsimp only
  show wpAny _ _ (Builtin.Itertools.itSsizeArg (.int 2 t) >>= _) _ _ _
  refine wpAny_bind ?_
  unfold Builtin.Itertools.itSsizeArg
  refine wpAny_bind (index_int ?_)
  dsimp only
  rw [if_neg (by decide)]
  refine wpAny_pure ?_
  refine wpAny_bind (collect_sz hT ho hc hd (by rw [List.size_toArray]; exact Nat.le_trans hn (by decide)) fun h₁ k₁ z₁ => ?_)
  rw [if_neg (by decide), if_neg (by decide)]
  show wpAny _ _ (newTuple its >>= _) _ _ _
  refine wpAny_bind (wpAny_newTuple ?_ (Nat.le_trans hn (by decide)))
  refine wpAny_pure ?_
  refine wpAny_bind ?_
  unfold Builtin.Itertools.itNewRecord
  rw [has_dict]
  simp only [Bool.not_false, if_true]
  refine wpAny_newObj_type ?_ (by show 5 ≤ _; decide)
  refine wpAny_pure ⟨_, rfl, ?_⟩
  have hsz : (h₁.push { cls := .type "tuple", data := .seq its.toArray }).objs.size = h₁.objs.size + 1 := Heap.size_push ..
  have hst : (rawInt (if 2 > its.length then 2 else 0) : Value) = rawInt (if its.length < 2 then 2 else 0) := rfl
  refine h _ _ h₁.objs.size ?_ ?_ ?_ ?_ z₁ fun d o q => Heap.get?_push_of_some _ (Heap.get?_push_of_some _ (k₁ d o q))
  · rw [hsz]; exact Nat.succ_ne_self _
  · exact Heap.get?_push_size _ rfl
  · exact Heap.get?_push_of_some _ (Heap.get?_push_size _ rfl)
  · rw [hsz]; exact Nat.le_succ_of_le z₁
end ZC

set_option Elab.async false
set_option linter.all false
set_option maxRecDepth 100000
set_option maxHeartbeats 4000000
/-! itertools.combinations(xs, 2) as what is walked. -/
namespace ZC
open PySem PySem.Spec PyProof.Rows L2
open Sem (wp)
open ZN (IsTu)
/-- the pairs of what stood in the sequence, each in a new tuple -/
def ItC (vs : List V) : It :=
  ⟨fun i _ => i < (prs vs.length).length,
    fun i H x H' => ∃ (T : Addr) (p : Nat × Nat) (a b : V), x = .ref T ∧ H T = none ∧ (prs vs.length)[i]? = some p ∧ vs[p.1]? = some a ∧ vs[p.2]? = some b ∧ H' = upd H T (.tup [a, b]),
    fun i _ => (prs vs.length).length ≤ i⟩
structure Tc (c p : Addr) (its : List Value) (i : Nat) (h : Heap) : Prop where
  pool : IsTu h p its
  at_ : (i = 0 ∧ ∃ f2, IsC h c p (if its.length < 2 then 2 else 0) f2 0 1) ∨ ∃ k q f2, i = k + 1 ∧ (prs its.length)[k]? = some q ∧ IsC h c p 1 f2 q.1 q.2
section
variable {prog : Program} {w : World} {A : Around} {E : Value → Shared → Prop} {s : Shared}
theorem Tc.get {c p : Addr} {its : List Value} {i : Nat} {h : Heap} (t : Tc c p its i h) : ∃ st f2 a b, IsC h c p st f2 a b := by
  rcases t.at_ with ⟨_, f2, e⟩ | ⟨k, q, f2, _, _, e⟩
  · exact ⟨_, _, _, _, e⟩
  · exact ⟨_, _, _, _, e⟩
theorem next_item {c p : Addr} {its : List Value} {i : Nat} {q : Nat × Nat} {x y : Value} {Q : Value → Shared → Prop} (hcp : c ≠ p) (hn : its.length ≤ 6) (t : Tc c p its i s.heap) (hi : (prs its.length)[i]? = some q) (hx : its[q.1]? = some x) (hy : its[q.2]? = some y)
    (hQ : ∀ h', Tc c p its (i + 1) h' → IsTu h' s.heap.objs.size [x, y] → h'.objs.size = s.heap.objs.size + 1 → (∀ d o, d ≠ c → s.heap.get? d = some o → h'.get? d = some o) → Q (.ref s.heap.objs.size) { s with heap := h' }) :
    wpAny (model prog w) A (Builtin.«itertools.combinations.__next__» ⟨[.ref c], []⟩) (fun fin s' => ∃ v, fin = .done (.ret v) ∧ Q v s') E s := by
  rcases t.at_ with ⟨rfl, f2, hc⟩ | ⟨k, r, f2, rfl, hk, hc⟩
  · have h2 : 2 ≤ its.length := by
      by_cases z : 2 ≤ its.length
      · exact z
      · rw [prs_none _ hn (by omega)] at hi; cases hi
    rw [if_neg (by omega)] at hc
    rw [prs_first _ hn h2] at hi
    cases hi
    exact next_first hcp hc t.pool hx hy fun h' f2' a1 a2 a3 a4 => hQ h' ⟨a4 _ _ (Ne.symm hcp) t.pool, .inr ⟨0, (0, 1), f2', rfl, prs_first _ hn h2, a1⟩⟩ a2 a3 a4
  · exact next_more hcp hc t.pool (nx_some hn hk hi) hx hy fun h' f2' a1 a2 a3 a4 => hQ h' ⟨a4 _ _ (Ne.symm hcp) t.pool, .inr ⟨k + 1, q, f2', rfl, hi, a1⟩⟩ a2 a3 a4
theorem pyNext_item {c p : Addr} {its : List Value} {i : Nat} {q : Nat × Nat} {x y : Value} {Q : Option Value → Shared → Prop} (hcp : c ≠ p) (hn : its.length ≤ 6) (t : Tc c p its i s.heap) (hi : (prs its.length)[i]? = some q) (hx : its[q.1]? = some x) (hy : its[q.2]? = some y)
    (hQ : ∀ h', Tc c p its (i + 1) h' → IsTu h' s.heap.objs.size [x, y] → h'.objs.size = s.heap.objs.size + 1 → (∀ d o, d ≠ c → s.heap.get? d = some o → h'.get? d = some o) → Q (some (.ref s.heap.objs.size)) { s with heap := h' }) :
    wpAny (model prog w) A (pyNext (.ref c)) Q E s := by
  obtain ⟨st, f2, a, b, hc⟩ := t.get
  have hT : s.TypeIs (.ref c) "itertools.combinations" := ⟨_, hc, rfl⟩
  unfold pyNext
  exact wpAny_bind (wpAny_attempt (wpAny_callSpecial?_slot (name := Str.ofString "__next__") hT F.slot_combs_next
    (wpAny_call_entry F.slot_combs_next hT F.entry_combs_next
      (next_item hcp hn t hi hx hy fun h' a1 a2 a3 a4 => wpAny_pure (hQ h' a1 a2 a3 a4)) (F.args_combs_next_1 _))))
theorem pyNext_end {c p : Addr} {its : List Value} {i : Nat} {Q : Option Value → Shared → Prop} (hh : A.handled = none) (hn : its.length ≤ 6) (t : Tc c p its i s.heap) (hi : (prs its.length).length ≤ i)
    (hQ : ∀ h', (∀ d o, d ≠ c → s.heap.get? d = some o → h'.get? d = some o) → Q none { s with heap := h' }) : wpAny (model prog w) A (pyNext (.ref c)) Q E s := by
  obtain ⟨st, f2, a, b, hc0⟩ := t.get
  have hT : s.TypeIs (.ref c) "itertools.combinations" := ⟨_, hc0, rfl⟩
  have fin : ∀ h' e, (∀ d o, d ≠ c → s.heap.get? d = some o → h'.get? d = some o) → (∃ o, h'.get? e = some o ∧ o.cls = .type "StopIteration") →
      wpAny (model prog w) A (do if (← isInstance (.ref e) (.type "StopIteration")) = true then pure none else throw (.ref e)) Q E { s with heap := h' } := fun h' e k he => by
    obtain ⟨o, ho, hc⟩ := he
    refine wpAny_bind (wpAny_isInstance (T := "StopIteration") (b := true) ⟨o, ho, hc⟩ isSubtype_stop ?_)
    exact wpAny_pure (hQ _ k)
  unfold pyNext
  refine wpAny_bind (wpAny_attempt (wpAny_callSpecial?_slot (name := Str.ofString "__next__") hT F.slot_combs_next
    (wpAny_call_entry F.slot_combs_next hT F.entry_combs_next ?_ (F.args_combs_next_1 _))))
  rcases t.at_ with ⟨rfl, f2, hc⟩ | ⟨k, r, f2, rfl, hk, hc⟩
  · have h2 : its.length < 2 := by
      by_cases z : its.length < 2
      · exact z
      · have := List.getElem?_eq_some_iff.mp (prs_first _ hn (by omega)) |>.1
        omega
    rw [if_pos h2] at hc
    exact next_over hh hc fun h' e k he => fin h' e k he
  · exact next_end hh hc t.pool (nx_none hn hk (List.getElem?_eq_none hi)) fun h' e k he => fin h' e k he
theorem pyIter_ok {c p : Addr} {st : Int} {f2 : Value} {a b : Nat} {Q : Value → Shared → Prop} (hc : IsC s.heap c p st f2 a b) (h : Q (.ref c) s) : wpAny (model prog w) A (pyIter (.ref c)) Q E s := by
  have hT : s.TypeIs (.ref c) "itertools.combinations" := ⟨_, hc, rfl⟩
  refine wpAny_pyIter_slot hT F.slot_combs_iter (wpAny_call_entry F.slot_combs_iter hT F.entry_combs_iter ?_ (F.args_combs_iter_1 _))
  show wpAny _ _ (ret (.ref c)) _ _ s
  exact wpAny_pure ⟨_, rfl, "itertools.combinations", _, hT, F.slot_combs_next.lookup, h⟩
end
theorem turn_combs {P : Program} {w : World} {K : PySem.W.Frag} {tg : Expr} {vs : List V} {its : List Value} {c p : Addr} (hcp : c ≠ p) (hv : Vals vs its) (hn : vs.length ≤ 6) : Turn P w K tg (ItC vs) [c, p] c (Tc c p its) where
  mem := by simp
  obj := fun i h t b hb => by
    have e' : b = c ∨ b = p := by simpa using hb
    obtain ⟨st, f2, x, y, hc⟩ := t.get
    rcases e' with z | z
    · rw [z]; exact ⟨_, hc, fun v q => nomatch q⟩
    · rw [z]; exact ⟨_, t.pool, fun v q => nomatch q⟩
  keep := fun i h h' t k => ⟨k p (by simp) _ t.pool, by
    rcases t.at_ with ⟨e, f2, hc⟩ | ⟨j, q, f2, e, hk, hc⟩
    · exact .inl ⟨e, f2, k c (by simp) _ hc⟩
    · exact .inr ⟨j, q, f2, e, hk, k c (by simp) _ hc⟩⟩
  item := by
    intro X hP hw hK hcalm i pins s σ H E I hf t hg
    subst hP hw hK
    have hl := hv.length
    have hi : (prs its.length)[i]? = some ((prs vs.length)[i]) := by
      rw [← hl]; exact List.getElem?_eq_getElem hg
    have lt := prs_lt _ hn _ (List.getElem_mem hg)
    obtain ⟨u1, hu1, r1⟩ := hv.get (List.getElem?_eq_getElem lt.1)
    obtain ⟨u2, hu2, r2⟩ := hv.get (List.getElem?_eq_getElem lt.2)
    refine pyNext_item hcp (by omega) t hi hu1 hu2 fun h' t' hT hsz hch => ?_
    obtain ⟨st, f2, x, y, hc'⟩ := t'.get
    refine ⟨_, rfl, go_of hc' rfl rfl (by decide) ?_⟩
    have new : ObjOk X.prog X.w (upd H s.heap.objs.size (.tup [vs[((prs vs.length)[i]).1], vs[((prs vs.length)[i]).2]])) h' s.heap.objs.size (.tup [vs[((prs vs.length)[i]).1], vs[((prs vs.length)[i]).2]]) :=
      ⟨by show 2 ≤ sizeLine; decide, [u1, u2], .cons r1 (.cons r2 .nil), ⟨_, hT, rfl, _, rfl⟩⟩
    have I1 := I.turnedNew (t' := s.toks) (ch := [c, p]) (fun b o hb q => hch b o (fun z => hb (by simp [z])) q) hf (Nat.le_refl _) new
    refine ⟨.ref s.heap.objs.size, _, I1, rfl, ⟨_, _, _, _, rfl, I.hok.fresh (Nat.le_refl _), List.getElem?_eq_getElem hg, List.getElem?_eq_getElem lt.1, List.getElem?_eq_getElem lt.2, rfl⟩, t', fun b hb => ?_⟩
    obtain ⟨st0, f20, x0, y0, hc0⟩ := t.get
    have hb' : b < s.heap.objs.size := by
      have e' : b = c ∨ b = p := by simpa using hb
      rcases e' with z | z
      · rw [z]; exact Heap.lt_size hc0
      · rw [z]; exact Heap.lt_size t.pool
    rw [upd_ne (Nat.ne_of_lt hb')]
    exact (hf b hb).1
  done := by
    intro X hP hw hK hcalm i pins s σ H E I hf t hg
    subst hP hw hK
    have hl := hv.length
    exact pyNext_end (I.ok.hd hcalm) (by omega) t (by rw [← hl]; exact hg) fun h' hch => ⟨rfl, I.turnedL (t' := s.toks) (ch := [c, p]) (fun b o hb q => hch b o (fun z => hb (by simp [z])) q) hf⟩
  self := fun A i s Q E t h => by
    obtain ⟨st, f2, x, y, hc⟩ := t.get
    exact pyIter_ok hc h
section
variable {prog : Program} {w : World} {A : Around} {E : Value → Shared → Prop} {s : Shared}
theorem call_combs {l : Addr} {its : List Value} {t : Tok} {T : String} {o : Obj} {n : Nat} {Q : Value → Shared → Prop} (hT : T = "list" ∨ T = "tuple") (hn : its.length ≤ 6) (ho : s.heap.get? l = some o) (hc : o.cls = .type T) (hd : o.data = .seq its.toArray n)
    (h : ∀ h' c p, c ≠ p → Tc c p its 0 h' → s.heap.objs.size ≤ c → s.heap.objs.size ≤ p → (∀ d o, s.heap.get? d = some o → h'.get? d = some o) → Q (.ref c) { s with heap := h' }) :
    wpAny (model prog w) A (call (.type "itertools.combinations") [.ref l, .int 2 t]) Q E s := by
  refine callType_newIn F.called_combs (by decide) (F.typeCall_combs _ _) (F.newCall_combs _ _) (fun obj => F.args_object_init_3 obj _ _) F.entry_combs_new (meets_new l its t T hT hn) ⟨⟨o, n, ho, hc, hd⟩, fun h' c p hcp hC hp z1 z2 hk => ?_⟩
  exact ⟨⟨_, hC, rfl⟩, h h' c p hcp ⟨hp, .inl ⟨rfl, _, hC⟩⟩ z1 z2 hk⟩
end
def iCombs (K : PySem.W.Frag) (ta : TA) : TI := fun σ H R => ta σ H fun vs H1 => ∃ (a : Addr) (xs : List V), vs = [.ref a, .int 2] ∧ (SqL K H1 a xs ∨ SqT K H1 a xs) ∧ xs.length ≤ 6 ∧ R (ItC xs) H1
theorem pi_combs {X : Cx} {tg e e2 : Expr} {x : Str} {ta : TA} {p pos : Pos} (hg : Gl X x) (hm : X.mg x = some (.type "itertools.combinations")) (ha : PA X [e, e2] ta) (hdb : (x == ("__debug__" : Str)) = false := by decide)
    (hs : starEach [e, e2] X.env = (false, eval e X.env) :: starEach [e2] X.env := by rfl) (hpl : (backTo pos (starEach [e2] X.env)).any (·.1) = false := by rfl) :
    PI X tg (.Call (.Name x p) [e, e2] [] pos) (iCombs X.K ta) := by
  refine ⟨fun pins s σ H R I h => ?_⟩
  refine Call_ (ld_glob I hg hm (PyProof.Rows.callWith_type1 (thn (ha.run pos pins s σ H _ I h) fun us s1 ⟨vs, H1, I1, r1, q1⟩ => ?_) hs hpl) hdb)
  obtain ⟨a, xs, ex, hq, h6, q⟩ := q1
  subst ex
  cases r1 with
  | cons r rr =>
    cases rr with
    | cons r' rr =>
      cases rr
      cases r
      obtain ⟨tk, rfl⟩ := r'
      have seq : ∃ (its : List Value) (T : String) (o : Obj) (n : Nat), Vals xs its ∧ (T = "list" ∨ T = "tuple") ∧ s1.heap.get? a = some o ∧ o.cls = .type T ∧ o.data = .seq its.toArray n := by
        rcases hq with hq | hq
        · obtain ⟨its, rv, pl, _⟩ := I1.list hq
          obtain ⟨o, ho, hc, n, hd⟩ := pl.isList
          exact ⟨its, "list", o, n, rv, .inl rfl, ho, hc, hd⟩
        · obtain ⟨its, rv, ⟨o, ho, hc, n, hd⟩, _⟩ := I1.tuple hq
          exact ⟨its, "tuple", o, n, rv, .inr rfl, ho, hc, hd⟩
      obtain ⟨its, T, o, n, rv, hT, ho, hc, hd⟩ := seq
      have hl := rv.length
      refine call_combs hT (by omega) ho hc hd fun h' c p hcp t z1 z2 hk => ?_
      obtain ⟨st, f2, x0, y0, hC⟩ := t.get
      refine pyIter_ok hC ?_
      have I2 : Inv X pins σ H1 { s1 with heap := h' } := I1.kept (t' := s1.toks) hk
      refine ⟨c, [c, p], _, _, H1, rfl, I2, turn_combs hcp rv h6, t, fun b hb => ?_, q⟩
      have hle : s1.heap.objs.size ≤ b := by
        have e' : b = c ∨ b = p := by simpa using hb
        rcases e' with z | z
        · rw [z]; exact z1
        · rw [z]; exact z2
      exact I1.fpOk hle (I1.hok.fresh hle)
end ZC

set_option Elab.async false
set_option linter.all false
set_option maxRecDepth 100000
set_option maxHeartbeats 4000000
/-! combinations(xs, 2), comb over data. -/
namespace DL
open PySem PySem.Spec PyProof.Rows L2
open Evl (Ex)
open PySem.W (mcComb mc_comb)
open ZC (ItC iCombs pi_combs prs prs_lt)
def prsD (ds : List D) : List D := (prs ds.length).map fun p => .tup [ds.getD p.1 .non, ds.getD p.2 .non]
section
variable {K : PySem.W.Frag} {B : Hp}
theorem itC_ok {vs : List V} {ds : List D} (h : DtL K B vs ds) (hn : ds.length ≤ 6) : ItOk K B (ItC vs) (prsD ds) := by
  have hl := h.len
  refine fun i H' e => ⟨fun d hd => ?_, fun hz => ?_⟩
  · unfold prsD at hd
    rw [List.getElem?_map, Option.map_eq_some_iff] at hd
    obtain ⟨p, hp, rfl⟩ := hd
    have lt := prs_lt _ hn p (List.mem_of_getElem? hp)
    have e1 : ds[p.1]? = some (ds.getD p.1 .non) := by simp [lt.1]
    have e2 : ds[p.2]? = some (ds.getD p.2 .non) := by simp [lt.2]
    obtain ⟨v1, h1, h2⟩ := h.get e1
    obtain ⟨v2, h3, h4⟩ := h.get e2
    refine ⟨by show i < (prs vs.length).length; rw [hl]; exact (List.getElem?_eq_some_iff.mp hp).1, fun x H'' y => ?_⟩
    obtain ⟨T, q, a, b, rfl, nT, hq, ha, hb, rfl⟩ := y
    rw [hl, hp] at hq
    cases hq
    rw [h1] at ha; cases ha
    rw [h3] at hb; cases hb
    exact ⟨Evl.Ex.new nT, fun B2 e2 e3 => .tup (e3 _ _ (stb_tup upd_same)) (.cons (h2.mono e2) (.cons (h4.mono e2) .nil))⟩
  · show (prs vs.length).length ≤ i
    unfold prsD at hz
    rw [List.length_map] at hz
    rw [hl]; exact hz
end
section
variable {X : Cx} {tg e e2 : Expr} {x : Str} {ma : MA} {p pos : Pos}
def mCombs (ma : MA) : MI := fun ρ => match ma ρ with
  | some [r, k] => match r.data, k.data with
    | .lst ds, .int 2 => if ds.length ≤ 6 then some (r.fixed, prsD ds) else none
    | .tup ds, .int 2 => if ds.length ≤ 6 then some (r.fixed, prsD ds) else none
    | _, _ => none
  | _ => none
theorem xi_combs (hg : Gl X x) (hm : X.mg x = some (.type "itertools.combinations")) (ha : XA X [e, e2] ma) (hdb : (x == ("__debug__" : Str)) = false := by decide)
    (hs : starEach [e, e2] X.env = (false, eval e X.env) :: starEach [e2] X.env := by rfl) (hpl : (backTo pos (starEach [e2] X.env)).any (·.1) = false := by rfl) :
    XI X tg (.Call (.Name x p) [e, e2] [] pos) (mCombs ma) := by
  obtain ⟨t, pa, s⟩ := ha
  refine ⟨_, pi_combs hg hm pa hdb hs hpl, fun G H σ ρ fp fx items Q R hm q => ?_⟩
  unfold mCombs at hm
  split at hm
  rotate_left
  · cases hm
  rename_i r k e1
  refine s G H σ ρ fp _ _ R e1 fun vs F H1 x1 o1 => ?_
  cases o1 with
  | cons o t _ =>
    cases t with
    | cons o2 t _ =>
      cases t
      have w := ROk.wall R.ls x1 o
      have w' := o.data
      have k' := o2.data
      split at hm
      · rename_i ds e2 e3
        split at hm
        · rename_i hl; cases hm
          rw [e2] at w w'
          rw [e3] at k'; cases k'
          cases w' with
          | lst h t =>
            cases w with
            | lst h' t' =>
              have ex : Ex (wallOf r.fixed H1 fp) H1 := by
                cases r.fixed with
                | true => rw [wall_t]; exact hid_ex
                | false => rw [wall_f]; exact Evl.Ex.refl H1
              have := ex _ _ h'
              rw [h] at this
              cases this
              exact ⟨_, _, rfl, .inl (SqL.of h), by rw [t.len]; exact hl, q _ H1 x1 (itC_ok t' hl)⟩
        · cases hm
      · rename_i ds e2 e3
        split at hm
        · rename_i hl; cases hm
          rw [e2] at w w'
          rw [e3] at k'; cases k'
          cases w' with
          | tup h t =>
            cases w with
            | tup h' t' =>
              have ex : Ex (wallOf r.fixed H1 fp) H1 := by
                cases r.fixed with
                | true => rw [wall_t]; exact hid_ex
                | false => rw [wall_f]; exact Evl.Ex.refl H1
              have := ex _ _ h'
              rw [h] at this
              cases this
              exact ⟨_, _, rfl, .inr (.inl (.inl h)), by rw [t.len]; exact hl, q _ H1 x1 (itC_ok t' hl)⟩
        · cases hm
      · cases hm
end
/-! ### comb -/
def rComb : List V → Hp → VK → Prop := fun vs H Q => ∃ a b : Int, vs = [.int a, .int b] ∧ 0 ≤ a ∧ 0 ≤ b ∧ a ≤ 18000 ∧ Q (.int (mcComb a b)) H
theorem cr_comb {X : Cx} : CallR X (.builtin "math.comb") rComb := by
  intro pins s σ H vs us Q I r h
  obtain ⟨a, b, rfl, h1, h2, h3, q⟩ := h
  cases r with
  | cons r1 r =>
    cases r with
    | cons r2 r =>
      cases r
      obtain ⟨t1, rfl⟩ := r1
      obtain ⟨t2, rfl⟩ := r2
      refine mc_comb h1 h2 (by omega) (.inr h3) fun _ => ?_
      exact ⟨.int (mcComb a b), H, I.tok _, ⟨_, rfl⟩, q⟩
def gComb : List D → Option R
  | [.int a, .int b] => if 0 ≤ a ∧ 0 ≤ b ∧ a ≤ 18000 then some (.sh (.int (mcComb a b))) else none
  | _ => none
theorem ok_comb {K : PySem.W.Frag} : CallOk K rComb gComb := by
  intro H H1 fp vs ds z Q h ls ex hz q
  unfold gComb at hz
  split at hz
  · rename_i a b
    split at hz
    · rename_i hc; cases hz
      cases h with
      | cons h1 t =>
        cases t with
        | cons h2 t =>
          cases t
          cases dt_int h1; cases dt_int h2
          exact ⟨a, b, rfl, hc.1, hc.2.1, hc.2.2, q _ [] H1 (Evl.Ex.refl H1) (Fl.int _).rok⟩
    · cases hz
  · cases hz
section
variable {X : Cx} {e : Expr} {es : List Expr} {ms : MA} {pos : Pos}
/-- a built-in function that the module has under a name of its own -/
theorem xcallG {id : String} {r : List V → Hp → VK → Prop} {f : List D → Option R} {x : Str} {p : Pos} (hc : CallR X (.builtin id) r) (hr : CallOk X.K r f) (hg : Gl X x) (hm : X.mg x = some (.builtin id)) (ha : XA X (e :: es) ms) (hdb : (x == ("__debug__" : Str)) = false := by decide)
    (he : starEach (e :: es) X.env = (false, eval e X.env) :: starEach es X.env := by rfl) (hpl : (backTo pos (starEach es X.env)).any (·.1) = false := by rfl) : XE X (.Call (.Name x p) (e :: es) [] pos) (mCB f ms) := by
  obtain ⟨t, pa, s⟩ := ha
  refine ⟨tCB r t, ⟨fun pins s σ H Q I h => ?_⟩, sim_CB hr s⟩
  refine wpAny_Call_Name_kw (ld_glob I hg hm ?_ hdb)
  exact PyProof.Rows.callWith_builtin1 (thn (pa.run pos pins s σ H _ I h) fun us s1 ⟨vs, H1, I1, r1, q1⟩ => hc pins s1 σ H1 vs us Q I1 r1 q1) he hpl
end
end DL

set_option Elab.async false
set_option linter.all false
set_option maxRecDepth 100000
set_option maxHeartbeats 4000000
/-! a.append(b.pop(e)): both lists of what this function owns. -/
namespace DL
open PySem PySem.Spec PyProof.Rows L2
open Evl (Ex)
theorem RepL.erase {K : PySem.W.Frag} {H : Hp} : ∀ {ss : List S} {vs : List V} {F : List Addr} {k : Nat} {d : D}, RepL K H ss vs F → ss[k]? = some (.d d) →
    ∃ y F', vs[k]? = some y ∧ Dt K (stb H) y d ∧ RepL K H (ss.eraseIdx k) (vs.eraseIdx k) F' ∧ ∀ a ∈ F', a ∈ F
  | [], _, _, _, _, _, e => by simp at e
  | s :: ss, _, _, 0, d, .cons (F1 := F1) (F2 := F2) h t n, e => by
    simp only [List.getElem?_cons_zero, Option.some.injEq] at e
    subst e
    cases h with
    | d h => exact ⟨_, F2, rfl, h, t, fun a m => List.mem_append_right _ m⟩
  | s :: ss, _, _, k + 1, d, .cons (F1 := F1) (F2 := F2) h t n, e => by
    simp only [List.getElem?_cons_succ] at e
    obtain ⟨y, F', h1, h2, h3, h4⟩ := RepL.erase t e
    refine ⟨y, F1 ++ F', by simpa using h1, h2, .cons h h3 fun a m z => n a m (h4 a z), fun a m => ?_⟩
    rcases List.mem_append.mp m with m | m
    · exact List.mem_append_left _ m
    · exact List.mem_append_right _ (h4 a m)
theorem seqIx_nat {k n : Nat} (h : k < n) : seqIndex? (k : Int) n = some k := by
  unfold seqIndex?
  have h0 : ¬ ((k : Int) < 0) := by omega
  simp only [if_neg h0]
  rw [if_pos (by simp; omega)]
  simp
section
variable {X : Cx} {W : XK} {e : Expr} {ma : ME} {pos apos bpos cpos dpos p1 p2 : Pos} {x y : Str}
def mAppPop (i j : Nat) (me : ME) : MS := fun ρ => match ρ[i]?, ρ[j]?, me ρ with
  | some (.tr (.own ss)), some (.tr (.own ts)), some r => match r.data with
    | .int n => if i ≠ j ∧ 0 ≤ n ∧ n ≤ 100000 ∧ ss.length < 100000 then (match ts[n.toNat]? with
      | some (.d d) => some (.nx ((killVw ((killVw ρ).set j (.tr (.own (ts.eraseIdx n.toNat))))).set i (.tr (.own (ss ++ [.d d])))))
      | _ => none) else none
    | _ => none
  | _, _, _ => none
theorem mpV_own {ρ : Env} {i : Nat} {ss : List S} (h : ρ[i]? = some (.tr (.own ss))) : mpV i ρ = some (i, []) := by unfold mpV; rw [h]
theorem xs_appPop {i j : Nat} (ho : XP X (.Name x p1) (mpV i)) (hb : XP X (.Name y p2) (mpV j)) (he : XE X e ma)
    (hbase : attributeBase (.Name x p1) "append" X.env (eval (.Name x p1) X.env) = eval (.Name x p1) X.env := by rfl)
    (hbase2 : attributeBase (.Name y p2) "pop" X.env (eval (.Name y p2) X.env) = eval (.Name y p2) X.env := by rfl)
    (hfew2 : ((backTo dpos (starEach (e :: []) X.env)).all (fun x => !x.1) && (backToKw dpos (keywordEach [] X.env)).all (fun x => x.1.isSome)
      && decide ((e :: ([] : List Expr)).length + ([] : List Keyword).length + (if ([] : List Keyword).isEmpty then 0 else 1) < 30)) = true := by rfl)
    (hline2 : (bpos.endLine == dpos.line) = true := by rfl) (hs2 : starEach (e :: []) X.env = (false, eval e X.env) :: starEach [] X.env := by rfl) (hplain2 : (backTo dpos (starEach [] X.env)).any (·.1) = false := by rfl)
    (hfew : ((backTo cpos (starEach (.Call (.Attribute (.Name y p2) "pop" bpos) [e] [] dpos :: []) X.env)).all (fun x => !x.1) && (backToKw cpos (keywordEach [] X.env)).all (fun x => x.1.isSome)
      && decide ((.Call (.Attribute (.Name y p2) "pop" bpos) [e] [] dpos :: ([] : List Expr)).length + ([] : List Keyword).length + (if ([] : List Keyword).isEmpty then 0 else 1) < 30)) = true := by rfl)
    (hline : (apos.endLine == cpos.line) = true := by rfl) (hs : starEach (.Call (.Attribute (.Name y p2) "pop" bpos) [e] [] dpos :: []) X.env = (false, eval (.Call (.Attribute (.Name y p2) "pop" bpos) [e] [] dpos) X.env) :: starEach [] X.env := by rfl) (hplain : (backTo cpos (starEach [] X.env)).any (·.1) = false := by rfl)
    (hsw : swapsWith (.Call (.Attribute (.Name x p1) "append" apos) [.Call (.Attribute (.Name y p2) "pop" bpos) [e] [] dpos] [] cpos) none pos.line X.env = pure false := by rfl) :
    XS X W (.Expr (.Call (.Attribute (.Name x p1) "append" apos) [.Call (.Attribute (.Name y p2) "pop" bpos) [e] [] dpos] [] cpos) pos) (mAppPop i j ma) := by
  obtain ⟨to, po, so⟩ := ho
  obtain ⟨tb, pb, sb⟩ := hb
  obtain ⟨te, pe, se⟩ := he
  refine ⟨_, ps_expr (pe_bm PySem.F.plainAttrs_list PySem.F.slot_list_append PySem.F.type_list_append mt_append po (pa_cons (pe_bm PySem.F.plainAttrs_list PySem.F.slot_list_pop PySem.F.type_list_pop mt_popAt pb (pa_cons pe pa_nil hs2) hbase2 hfew2 hline2 hs2 hplain2) pa_nil hs) hbase hfew hline hs hplain) hsw, fun G H σ ρ fp oo D R hm q => ?_⟩
  unfold mAppPop at hm
  split at hm
  rotate_left
  · cases hm
  rename_i ss ts r e1 e2 e3
  split at hm
  rotate_left
  · cases hm
  rename_i n e4
  split at hm
  rotate_left
  · cases hm
  rename_i hc
  obtain ⟨hij, hn0, hn1, hl⟩ := hc
  split at hm
  rotate_left
  · cases hm
  rename_i d e5
  cases hm
  refine so G H σ ρ fp i [] _ R (mpV_own e1) fun v a H1 s' ss' g1 g2 g3 x1 at1 => ?_
  rw [e1] at g1; cases g1
  have R1 := R.grow x1
  obtain ⟨v', h1, h2⟩ := R1.sl i _ e1
  rw [g3] at h1; cases h1
  obtain ⟨vs1, Fa1, ha1, hL1, _⟩ := h2.mut at1 rfl
  refine ⟨.inl ⟨rfl, _, SqL.of ha1⟩, ?_⟩
  refine sb G H1 σ ρ fp j [] _ R1 (mpV_own e2) fun v2 b H2 s2 ss2 k1 k2 k3 x2 at2 => ?_
  rw [e2] at k1; cases k1
  have R2 := R1.grow x2
  obtain ⟨v2', h3, h4⟩ := R2.sl j _ e2
  rw [k3] at h3; cases h3
  obtain ⟨vs2, Fa2, ha2, hL2, _⟩ := h4.mut at2 rfl
  refine ⟨.inl ⟨rfl, _, SqL.of ha2⟩, ?_⟩
  refine se G H2 σ ρ fp r _ R2 e3 fun w F H3 x3 o3 => ?_
  have hw := o3.data
  rw [e4] at hw
  cases dt_int hw
  obtain ⟨vs3, Fa3, ha3, hL3, hn3, hsub3, hai3, hmut3⟩ := R2.mutate x3 e2 k3 (at2.mono x3) rfl
  obtain ⟨y0, F', hy1, hy2, hy3, hy4⟩ := hL3.erase e5
  have hk : n.toNat < vs3.length := (List.getElem?_eq_some_iff.mp hy1).1
  have hnn : n = ((n.toNat : Nat) : Int) := by omega
  refine ⟨b, vs3, n, n.toNat, y0, rfl, rfl, ha3, by omega, by omega, by have z := seqIx_nat hk; rw [← hnn] at z; exact z, hy1, ?_⟩
  have es : Ex (stb H3) (stb (upd H3 b (.lst (vs3.eraseIdx n.toNat)))) := stb_upd ha3
  have r3 : RepL X.K (upd H3 b (.lst (vs3.eraseIdx n.toNat))) (ts.eraseIdx n.toNat) (vs3.eraseIdx n.toNat) F' :=
    hy3.keep ⟨es, fun c m u h => by rw [upd_ne (by rintro rfl; exact hn3 (hy4 _ m))]; exact h⟩
  obtain ⟨fp3, R3⟩ := hmut3 _ _ _ r3 (fun z => hn3 (hy4 _ z)) (fun c m => .inl (hy4 c m))
  -- the append
  have hi3 : ((killVw ρ).set j (.tr (S.put (.own (ts.eraseIdx n.toNat)) [] (.own ts))))[i]? = some (.tr (.own ss)) := by
    rw [List.getElem?_set_ne (Ne.symm hij)]
    unfold killVw
    rw [List.getElem?_map, e1]; rfl
  have at3 : AtP (upd H3 b (.lst (vs3.eraseIdx n.toNat))) [] v a := at1
  obtain ⟨vs4, Fa4, ha4, hL4, hn4, hsub4, hai4, hmut4⟩ := R3.mutate (Evl.Ex.refl _) hi3 g3 at3 rfl
  refine ⟨a, vs4, y0, rfl, rfl, ha4, ?_, ?_⟩
  · rw [← hL4.len]; exact Evl.sz_lt hl
  · have es4 : Ex (stb (upd H3 b (.lst (vs3.eraseIdx n.toNat)))) (stb (upd (upd H3 b (.lst (vs3.eraseIdx n.toNat))) a (.lst (vs4 ++ [y0])))) := stb_upd ha4
    have hT : Rep X.K (upd (upd H3 b (.lst (vs3.eraseIdx n.toNat))) a (.lst (vs4 ++ [y0]))) (.d d) y0 [] := .d ((hy2.mono es).mono es4)
    have r1 : RepL X.K (upd (upd H3 b (.lst (vs3.eraseIdx n.toNat))) a (.lst (vs4 ++ [y0]))) (ss ++ [.d d]) (vs4 ++ [y0]) (Fa4 ++ ([] ++ [])) :=
      (hL4.keep ⟨es4, fun c m u h => by rw [upd_ne (by rintro rfl; exact hn4 m)]; exact h⟩).snoc hT fun _ _ m => by cases m
    obtain ⟨fp', R'⟩ := hmut4 _ _ _ r1 (fun z => hn4 (by simpa using z)) (fun c m => .inl (by simpa using m))
    exact q _ _ fp' R'
end
end DL

set_option Elab.async false
set_option linter.all false
set_option maxRecDepth 100000
set_option maxHeartbeats 4000000
/-! list(range(n)). -/
namespace DL
open PySem PySem.Spec PyProof.Rows L2
open Evl (Ex)
section
variable {X : Cx} {e : Expr} {ma : ME} {p p2 pos pos2 : Pos}
def mListRg (m : ME) : ME := fun ρ => match m ρ with
  | some r => match r.data with
    | .int n => if 0 ≤ n ∧ n ≤ 100000 then some (newL (rg 0 n.toNat)) else none
    | _ => none
  | none => none
theorem dtL_rg {K : PySem.W.Frag} {H : Hp} (n : Int) : DtL K H (rgV 0 n) (rg 0 n.toNat) := by
  have : rgV 0 n = ((List.range n.toNat).map fun (k : Nat) => (0 + (k : Int))).map V.int := by
    unfold rgV
    rw [List.map_map]
    simp
  have e2 : rg 0 n.toNat = ((List.range n.toNat).map fun (k : Nat) => (0 + (k : Int))).map D.int := by
    unfold rg
    rw [List.map_map]; rfl
  rw [this, e2]
  exact DtL.ints _
theorem x_listRg (hc : X.calm = true) (hg : Gl X "list") (hm : X.mg "list" = none) (hg2 : Gl X "range") (hm2 : X.mg "range" = none) (ha : XE X e ma) (na : starEach [e] X.env = (false, eval e X.env) :: starEach [] X.env := by rfl)
    (na2 : starEach [.Call (.Name "range" p2) [e] [] pos2] X.env = (false, eval (.Call (.Name "range" p2) [e] [] pos2) X.env) :: starEach [] X.env := by rfl) :
    XE X (.Call (.Name "list" p) [.Call (.Name "range" p2) [e] [] pos2] [] pos) (mListRg ma) := by
  obtain ⟨t, pa, s⟩ := ha
  refine ⟨_, pe_listRg hc hg hm (prg_1 hg2 hm2 pa na) na2, fun G H σ ρ fp r Q R hm q => ?_⟩
  unfold mListRg at hm
  split at hm
  rotate_left
  · cases hm
  rename_i r0 e1
  split at hm
  rotate_left
  · cases hm
  rename_i n e2
  split at hm
  rotate_left
  · cases hm
  rename_i hn
  cases hm
  refine s G H σ ρ fp r0 _ R e1 fun v F H1 x1 o1 => ?_
  have z := o1.data
  rw [e2] at z
  cases dt_int z
  refine ⟨n, rfl, RgOk.of_le (Int.le_refl 0) (by omega) (by omega) hn.1, fun l hl => ?_⟩
  obtain ⟨F2, o⟩ := newL_ok (fp := fp) hl x1 (dtL_rg n)
  exact q _ F2 _ (x1.trans (Evl.Ex.new hl)) o
end
end DL

set_option Elab.async false
set_option linter.all false
set_option maxRecDepth 100000
set_option maxHeartbeats 4000000
/-! itertools.permutations(xs): facts, its turns. -/
namespace PySem.F
theorem owner_perms : Manifest.owners.lookup (String.ofList ['s','n','o','i','t','a','t','u','m','r','e','p','.','s','l','o','o','t','r','e','t','i'].reverse) = some Manifest.sig_itertools_permutations := by kernel_rfl
theorem slot_perms_next : Slot "itertools.permutations" "__next__" "itertools.permutations.__next__" :=
  .of (owner := "itertools.permutations") (n := "__next__") (by rw [typeLookup_type, builtinLookup_eq_fast]; kernel_rfl) (by decide +kernel) (by decide +kernel) (by decide +kernel)
    (by first | exact .inl (by decide +kernel) | exact .inr (by decide +kernel)) (by rw [isSubtype_type]; kernel_rfl)
theorem entry_perms_next : entryFor table "itertools.permutations.__next__" = some Builtin.«itertools.permutations.__next__» := entryFor_of_tree (by kernel_rfl)
theorem args_perms_next_1 (a : Value) : argsOk "itertools.permutations.__next__" ⟨[a], []⟩ := by
  unfold argsOk; rw [signature?_of (id := "itertools.permutations.__next__") (n := ['_', '_', 't', 'x', 'e', 'n', '_', '_']) (o := ['s','n','o','i','t','a','t','u','m','r','e','p','.','s','l','o','o','t','r','e','t','i']) (by kernel_rfl) owner_perms]; kernel_rfl
theorem slot_perms_iter : Slot "itertools.permutations" "__iter__" "itertools.permutations.__iter__" :=
  .of (owner := "itertools.permutations") (n := "__iter__") (by rw [typeLookup_type, builtinLookup_eq_fast]; kernel_rfl) (by decide +kernel) (by decide +kernel) (by decide +kernel)
    (by first | exact .inl (by decide +kernel) | exact .inr (by decide +kernel)) (by rw [isSubtype_type]; kernel_rfl)
theorem entry_perms_iter : entryFor table "itertools.permutations.__iter__" = some Builtin.«dict_keyiterator.__iter__» :=
  entryFor_alias (id' := "dict_keyiterator.__iter__") (by kernel_rfl) (by first | rfl | decide +kernel | (unfold String.splitOn; simp +decide [String.splitOnAux])) (by decide +kernel) (by kernel_rfl)
theorem args_perms_iter_1 (a : Value) : argsOk "itertools.permutations.__iter__" ⟨[a], []⟩ := by
  unfold argsOk; rw [signature?_of (id := "itertools.permutations.__iter__") (n := ['_', '_', 'r', 'e', 't', 'i', '_', '_']) (o := ['s','n','o','i','t','a','t','u','m','r','e','p','.','s','l','o','o','t','r','e','t','i']) (by kernel_rfl) owner_perms]; kernel_rfl
theorem entry_perms_new : entryFor table "itertools.permutations.__new__" = some Builtin.«itertools.permutations.__new__» := entryFor_of_tree (by kernel_rfl)
theorem typeCall_perms (a : Value) : checkTypeCall "itertools.permutations" ⟨[a], []⟩ = pure () := by kernel_rfl
theorem newCall_perms (a : Value) : checkBuiltinCall "itertools.permutations.__new__" ⟨[.type "itertools.permutations", a], []⟩ = pure () := by kernel_rfl
theorem sub_perms : isSubtype (.type "itertools.permutations") (.type "itertools.permutations") = pure true := by rw [isSubtype_type]; kernel_rfl
theorem mro_perms : mroOf (.type "itertools.permutations") = pure [.type "itertools.permutations", .type "object"] := by rw [mroOf_type]; kernel_rfl
theorem lookup_perms_new : typeLookup (.type "itertools.permutations") "__new__" = pure (some (.builtin "itertools.permutations.__new__")) := by rw [typeLookup_type, builtinLookup_eq_fast]; kernel_rfl
theorem slot_perms_init : Slot "itertools.permutations" "__init__" "object.__init__" :=
  .of (owner := "object") (n := "__init__") (by rw [typeLookup_type, builtinLookup_eq_fast]; kernel_rfl) (by decide +kernel) (by decide +kernel) (by decide +kernel)
    (by first | exact .inl (by decide +kernel) | exact .inr (by decide +kernel)) (by rw [isSubtype_type]; kernel_rfl)
theorem called_perms : TypeCalled "itertools.permutations" "itertools.permutations.__new__" "object.__init__" :=
  ⟨by decide +kernel, by decide +kernel, ⟨_, _, mro_perms⟩, madeBy_type mro_perms lookup_perms_new (by decide +kernel), by decide +kernel, by rw [isSubtype_type]; kernel_rfl, slot_perms_init⟩
end PySem.F

set_option Elab.async false
set_option linter.all false
set_option maxRecDepth 100000
set_option maxHeartbeats 4000000
namespace ZP
open PySem PySem.Spec PyProof.Rows
open Sem (wp)
open ZN (IsTu)
/-- how indices and cycles go on -/
def stp (n : Nat) : Nat → List Nat → List Nat → Option (List Nat × List Nat)
  | 0, _, _ => none
  | i + 1, indices, cycles =>
    let c := cycles.getD i 0 - 1
    if c == 0 then stp n i (indices.take i ++ indices.drop (i + 1) ++ [indices.getD i 0]) (cycles.set i (n - i))
    else some ((indices.set i (indices.getD (n - c) 0)).set (n - c) (indices.getD i 0), cycles.set i c)
/-- a walk by f, at most so many steps -/
def walkL {α : Type} (f : α → Option α) : Nat → α → List α
  | 0, _ => []
  | k + 1, a => a :: (match f a with
    | some b => walkL f k b
    | none => [])
theorem walkL_next {α : Type} {f : α → Option α} : ∀ {k i : Nat} {a x : α}, (walkL f k a)[i]? = some x → (walkL f k a).length < k → f x = (walkL f k a)[i + 1]?
  | 0, _, _, _, h, _ => by simp [walkL] at h
  | k + 1, 0, a, x, h, hl => by
    simp only [walkL, List.getElem?_cons_zero, Option.some.injEq] at h
    subst h
    simp only [walkL, List.getElem?_cons_succ] at hl ⊢
    cases hf : f a with
    | none => simp
    | some b =>
      rw [hf] at hl
      cases k with
      | zero => simp [walkL] at hl
      | succ k => simp [walkL]
  | k + 1, i + 1, a, x, h, hl => by
    simp only [walkL, List.getElem?_cons_succ] at h hl ⊢
    cases hf : f a with
    | none => rw [hf] at h; simp at h
    | some b =>
      rw [hf] at h hl
      exact walkL_next h (by simpa using hl)
/-- the states of the walk over n things -/
def sts (n : Nat) : List (List Nat × List Nat) := walkL (fun s => stp n n s.1 s.2) 721 (List.range n, (List.range n).map fun i => n - i)
/-- the orders, as they come -/
def pms (n : Nat) : List (List Nat) := (sts n).map Prod.fst
theorem sts_len : ∀ n, n ≤ 6 → (sts n).length < 721 := by decide +kernel
theorem sts_ok : ∀ n, n ≤ 6 → ((sts n).all fun s => decide (s.1.length = n) && decide (s.2.length = n) && s.1.all fun i => decide (i < n)) = true := by decide +kernel
theorem sts_first (n : Nat) : (sts n)[0]? = some (List.range n, (List.range n).map fun i => n - i) := rfl
theorem sts_next {n i : Nat} (hn : n ≤ 6) {s : List Nat × List Nat} (h : (sts n)[i]? = some s) : stp n n s.1 s.2 = (sts n)[i + 1]? := walkL_next h (sts_len n hn)
theorem sts_at {n i : Nat} (hn : n ≤ 6) {s : List Nat × List Nat} (h : (sts n)[i]? = some s) : s.1.length = n ∧ s.2.length = n ∧ ∀ j ∈ s.1, j < n := by
  have := List.all_eq_true.mp (sts_ok n hn) s (List.mem_of_getElem? h)
  simp only [Bool.and_eq_true, decide_eq_true_eq, List.all_eq_true] at this
  exact ⟨this.1.1, this.1.2, this.2⟩
end ZP

set_option Elab.async false
set_option linter.all false
set_option maxRecDepth 100000
set_option maxHeartbeats 4000000
namespace ZP
open PySem PySem.Spec PyProof.Rows
open Sem (wp)
open ZN (IsTu)
def nums (l : List Nat) : List Value := l.map fun (i : Nat) => rawInt i
abbrev IsP (h : Heap) (c p : Addr) (st : Int) (n : Nat) (f3 : Value) (ns : List Nat) : Prop :=
  h.get? c = some { cls := .type "itertools.permutations", dict := none, data := .fields (Value.ref p :: rawInt st :: rawInt (n : Int) :: f3 :: nums ns).toArray, slots := #[] }
theorem nums_back (l : List Nat) : ((nums l).map fun | .int n _ => n.toNat | _ => 0) = l := by
  unfold nums
  rw [List.map_map]
  induction l with
  | nil => rfl
  | cons x l ih => rw [List.map_cons, ih]; rfl
section
variable {prog : Program} {w : World} {A : Around} {E : Value → Shared → Prop} {s : Shared}
theorem hand_out {c p : Addr} {its : List Value} {n : Nat} {f3 : Value} {ns idx : List Nat} {us : List Value} {hp0 h₁ : Heap} {g d tk os} {Q : Value → Shared → Prop} (hc₁ : IsP h₁ c p 1 n f3 ns) (hl : us.length ≤ 6) (hpk : ((idx.take n).map fun i => its.toArray.getD i .none) = us)
    (hs₁ : ∀ e o, e ≠ c → hp0.get? e = some o → h₁.get? e = some o) (hsz : h₁.objs.size = hp0.objs.size)
    (hQ : ∀ h' f3', IsP h' c p 1 n f3' ns → IsTu h' hp0.objs.size us → h'.objs.size = hp0.objs.size + 1 → (∀ e o, e ≠ c → hp0.get? e = some o → h'.get? e = some o) → Q (.ref hp0.objs.size) ⟨h', g, d, tk, os⟩) :
    wpAny (model prog w) A (do
      let t ← newTuple ((idx.take n).map fun i => its.toArray.getD i .none)
      let before ← field (.ref c) 3
      setField (.ref c) 3 t
      letGo [before] [t]
      (ret t : Sem Fin)) (fun fin s' => ∃ v, fin = .done (.ret v) ∧ Q v s') E ⟨h₁, g, d, tk, os⟩ := by
  rw [hpk]
  refine wpAny_bind (wpAny_newTuple ?_ (Nat.le_trans hl (by decide)))
  have hcl : c < h₁.objs.size := Heap.lt_size hc₁
  have hc₂ : IsP (h₁.push { cls := .type "tuple", data := .seq us.toArray }) c p 1 n f3 ns := Heap.get?_push_of_some _ hc₁
  have ht₂ : (h₁.push { cls := .type "tuple", data := .seq us.toArray }).get? h₁.objs.size = some { cls := .type "tuple", data := .seq us.toArray } := Heap.get?_push_size _ rfl
  refine wpAny_bind (wpAny_field hc₂ rfl (x := f3) (by simp) ?_)
  refine wpAny_bind (wpAny_setField_rec hc₂ (by simp) fun h₃ hc₃ hs₃ => ?_)
  have hc₃' : IsP h₃ c p 1 n (.ref h₁.objs.size) ns := by
    refine hc₃.trans ?_
    simp
  refine wpAny_bind (wpAny_letGo (wpAny_pure ⟨_, rfl, ?_⟩))
  show Q (.ref h₁.objs.size) _
  rw [hsz] at hc₃' ht₂ ⊢
  refine hQ h₃ _ hc₃' ?_ ?_ fun e o he q => hs₃.extBut e o he (Heap.get?_push_of_some _ (hs₁ e o he q))
  · exact hs₃.extBut _ _ (by rw [← hsz]; exact Nat.ne_of_gt hcl) ht₂
  · rw [hs₃.1, Heap.size_push, hsz]
end
end ZP

set_option Elab.async false
set_option linter.all false
set_option maxRecDepth 100000
set_option maxHeartbeats 4000000
namespace ZP
open PySem PySem.Spec PyProof.Rows
open Sem (wp)
open ZN (IsTu)
section
variable {prog : Program} {w : World} {A : Around} {E : Value → Shared → Prop} {s : Shared}
theorem F_stp {F : Nat → Nat → List Nat → List Nat → Option (List Nat × List Nat)} (z : ∀ n a b, F n 0 a b = none) (u : ∀ n i a b, F n (i + 1) a b = if (b.getD i 0 - 1 == 0) = true then F n i (a.take i ++ a.drop (i + 1) ++ [a.getD i 0]) (b.set i (n - i)) else some ((a.set i (a.getD (n - (b.getD i 0 - 1)) 0)).set (n - (b.getD i 0 - 1)) (a.getD i 0), b.set i (b.getD i 0 - 1))) (n : Nat) : ∀ i a b, F n i a b = stp n i a b
  | 0, a, b => z n a b
  | i + 1, a, b => by
    rw [u, F_stp z u n i]; rfl
theorem head_of {c : Addr} {its : List Value} {st : Int} {ns N : List Nat} {zz rr : Nat} {Q : Fin → Shared → Prop} {F : Nat → Nat → List Nat → List Nat → Option (List Nat × List Nat)} (z : ∀ n a b, F n 0 a b = none) (u : ∀ n i a b, F n (i + 1) a b = if (b.getD i 0 - 1 == 0) = true then F n i (a.take i ++ a.drop (i + 1) ++ [a.getD i 0]) (b.set i (n - i)) else some ((a.set i (a.getD (n - (b.getD i 0 - 1)) 0)).set (n - (b.getD i 0 - 1)) (a.getD i 0), b.set i (b.getD i 0 - 1)))
    (e1 : N = ns) (e2 : zz = its.length) (e3 : rr = its.length)
    (h : wpAny (model prog w) A (match st with
      | 0 => do
        setField (.ref c) 1 (rawInt 1)
        let t ← newTuple ((ns.take its.length).map fun i => its.toArray.getD i .none)
        let before ← field (.ref c) 3
        setField (.ref c) 3 t
        letGo [before] [t]
        ret t
      | 1 => match stp its.length its.length (ns.take its.length) (ns.drop its.length) with
        | some (indices, cycles) => do
          Builtin.Itertools.itSetNumbersFrom (.ref c) 4 (indices ++ cycles)
          let t ← newTuple ((indices.take its.length).map fun i => its.toArray.getD i .none)
          let before ← field (.ref c) 3
          setField (.ref c) 3 t
          letGo [before] [t]
          ret t
        | none => do
          setField (.ref c) 1 (rawInt 2)
          Builtin.Itertools.itStop
      | _ => do
        rule "itertools.permutations.ended"
        Builtin.Itertools.itStop) Q E s) :
    wpAny (model prog w) A (match st with
      | 0 => do
        setField (.ref c) 1 (rawInt 1)
        let t ← newTuple ((N.take rr).map fun i => its.toArray.getD i .none)
        let before ← field (.ref c) 3
        setField (.ref c) 3 t
        letGo [before] [t]
        ret t
      | 1 => match F zz rr (N.take zz) (N.drop zz) with
        | some (indices, cycles) => do
          Builtin.Itertools.itSetNumbersFrom (.ref c) 4 (indices ++ cycles)
          let t ← newTuple ((indices.take rr).map fun i => its.toArray.getD i .none)
          let before ← field (.ref c) 3
          setField (.ref c) 3 t
          letGo [before] [t]
          ret t
        | none => do
          setField (.ref c) 1 (rawInt 2)
          Builtin.Itertools.itStop
      | _ => do
        rule "itertools.permutations.ended"
        Builtin.Itertools.itStop) Q E s := by
  subst e1 e2 e3
  rw [F_stp z u]
  exact h
/-- up to where the state is asked -/
theorem next_head {c p : Addr} {its : List Value} {st : Int} {f3 : Value} {ns : List Nat} {Q : Fin → Shared → Prop} (hc : IsP s.heap c p st its.length f3 ns) (hp : IsTu s.heap p its)
    (h : wpAny (model prog w) A (match st with
      | 0 => do
        setField (.ref c) 1 (rawInt 1)
        let t ← newTuple ((ns.take its.length).map fun i => its.toArray.getD i .none)
        let before ← field (.ref c) 3
        setField (.ref c) 3 t
        letGo [before] [t]
        ret t
      | 1 => match stp its.length its.length (ns.take its.length) (ns.drop its.length) with
        | some (indices, cycles) => do
          Builtin.Itertools.itSetNumbersFrom (.ref c) 4 (indices ++ cycles)
          let t ← newTuple ((indices.take its.length).map fun i => its.toArray.getD i .none)
          let before ← field (.ref c) 3
          setField (.ref c) 3 t
          letGo [before] [t]
          ret t
        | none => do
          setField (.ref c) 1 (rawInt 2)
          Builtin.Itertools.itStop
      | _ => do
        rule "itertools.permutations.ended"
        Builtin.Itertools.itStop) Q E s) :
    wpAny (model prog w) A (Builtin.«itertools.permutations.__next__» ⟨[.ref c], []⟩) Q E s := by
  obtain ⟨hp0, g, d, tk, os⟩ := s
  show wpAny _ _ (field (.ref c) 0 >>= _) _ _ _
  refine wpAny_bind (wpAny_field hc rfl (x := .ref p) (by simp) ?_)
  show wpAny _ _ (Builtin.Itertools.itPoolItems (.ref p) >>= _) _ _ _
  refine wpAny_bind ?_
  unfold Builtin.Itertools.itPoolItems
  refine wpAny_bind (wpAny_seqItems hp rfl (wpAny_pure ?_))
  show wpAny _ _ (Builtin.Itertools.itIntField (.ref c) 2 >>= _) _ _ _
  refine wpAny_bind ?_
  unfold Builtin.Itertools.itIntField
  refine wpAny_bind (wpAny_field hc rfl (x := rawInt (its.length : Int)) (by simp) (wpAny_pure ?_))
  show wpAny _ _ (Builtin.Itertools.itNumbersFrom (.ref c) 4 >>= _) _ _ _
  refine wpAny_bind ?_
  unfold Builtin.Itertools.itNumbersFrom
  refine wpAny_bind (wpAny_load hc (wpAny_pure ?_))
  show wpAny _ _ (Builtin.Itertools.itIntField (.ref c) 1 >>= _) _ _ _
  refine wpAny_bind ?_
  unfold Builtin.Itertools.itIntField
  refine wpAny_bind (wpAny_field hc rfl (x := rawInt st) (by simp) (wpAny_pure ?_))
  have e1 : (((Value.ref p :: rawInt st :: rawInt (its.length : Int) :: f3 :: nums ns).toArray.toList.drop 4).map fun | .int n _ => n.toNat | _ => 0) = ns := nums_back ns
  have e2 : its.toArray.size = its.length := List.size_toArray ..
  have e3 : ((its.length : Int)).toNat = its.length := Int.toNat_natCast _
  refine head_of (F := ?F) ?z ?u e1 e2 e3 h
  case z => exact fun _ _ _ => rfl
  case u => exact fun _ _ _ _ => rfl
end
end ZP

set_option Elab.async false
set_option linter.all false
set_option maxRecDepth 100000
set_option maxHeartbeats 4000000
namespace ZP
open PySem PySem.Spec PyProof.Rows
open Sem (wp)
open ZN (IsTu)
section
variable {prog : Program} {w : World} {A : Around} {E : Value → Shared → Prop} {s : Shared}
theorem next_first {c p : Addr} {its us : List Value} {f3 : Value} {ns : List Nat} {Q : Value → Shared → Prop} (hcp : c ≠ p) (hc : IsP s.heap c p 0 its.length f3 ns) (hp : IsTu s.heap p its) (hl : us.length ≤ 6) (hpk : (((ns.take its.length).take its.length).map fun i => its.toArray.getD i .none) = us)
    (hQ : ∀ h' f3', IsP h' c p 1 its.length f3' ns → IsTu h' s.heap.objs.size us → h'.objs.size = s.heap.objs.size + 1 → (∀ d o, d ≠ c → s.heap.get? d = some o → h'.get? d = some o) → Q (.ref s.heap.objs.size) { s with heap := h' }) :
    wpAny (model prog w) A (Builtin.«itertools.permutations.__next__» ⟨[.ref c], []⟩) (fun fin s' => ∃ v, fin = .done (.ret v) ∧ Q v s') E s := by
  refine next_head hc hp ?_
  obtain ⟨hp0, g, d, tk, os⟩ := s
  show wpAny _ _ (setField (.ref c) 1 (rawInt 1) >>= _) _ _ _
  refine wpAny_bind (wpAny_setField_rec hc (by simp) fun h₁ hc₁ hs₁ => ?_)
  have hc₁' : IsP h₁ c p 1 its.length f3 ns := by
    refine hc₁.trans ?_
    simp
  rw [List.take_take, Nat.min_self] at hpk
  exact hand_out (idx := ns) hc₁' hl hpk (fun e o he q => hs₁.extBut e o he q) hs₁.1 hQ
theorem next_more {c p : Addr} {its us : List Value} {f3 : Value} {ns i' c' : List Nat} {Q : Value → Shared → Prop} (hcp : c ≠ p) (hc : IsP s.heap c p 1 its.length f3 ns) (hp : IsTu s.heap p its) (h6 : (i' ++ c').length ≤ 12) (hst : stp its.length its.length (ns.take its.length) (ns.drop its.length) = some (i', c')) (hl : us.length ≤ 6) (hpk : ((i'.take its.length).map fun i => its.toArray.getD i .none) = us)
    (hQ : ∀ h' f3', IsP h' c p 1 its.length f3' (i' ++ c') → IsTu h' s.heap.objs.size us → h'.objs.size = s.heap.objs.size + 1 → (∀ d o, d ≠ c → s.heap.get? d = some o → h'.get? d = some o) → Q (.ref s.heap.objs.size) { s with heap := h' }) :
    wpAny (model prog w) A (Builtin.«itertools.permutations.__next__» ⟨[.ref c], []⟩) (fun fin s' => ∃ v, fin = .done (.ret v) ∧ Q v s') E s := by
  refine next_head hc hp ?_
  obtain ⟨hp0, g, d, tk, os⟩ := s
  show wpAny _ _ (match stp its.length its.length (ns.take its.length) (ns.drop its.length) with
    | some (indices, cycles) => _
    | none => _) _ _ _
  rw [hst]
  show wpAny _ _ (Builtin.Itertools.itSetNumbersFrom (.ref c) 4 (i' ++ c') >>= _) _ _ _
  refine wpAny_bind ?_
  unfold Builtin.Itertools.itSetNumbersFrom
  have hfs : (fun fs : Array Value => fs.extract 0 4 ++ ((i' ++ c').map fun (n : Nat) => rawInt n).toArray) (Value.ref p :: rawInt 1 :: rawInt (its.length : Int) :: f3 :: nums ns).toArray = (Value.ref p :: rawInt 1 :: rawInt (its.length : Int) :: f3 :: nums (i' ++ c')).toArray := by
    simp [nums]
  dsimp only at hfs
  refine wpAny_updateFields hc rfl ?_ ?_
  rotate_left
  · rw [hfs]
    simp only [List.size_toArray, List.length_cons, nums, List.length_map]
    exact Nat.le_trans (Nat.add_le_add_right (Nat.add_le_add_right (Nat.add_le_add_right (Nat.add_le_add_right h6 1) 1) 1) 1) (by show 16 ≤ sizeLine + 3; decide)
  have hs₁ : Heap.SameBut c hp0 (hp0.update c (Obj.mapFields fun fs => fs.extract 0 4 ++ ((i' ++ c').map fun (n : Nat) => rawInt n).toArray)) := Heap.SameBut.update ..
  have hc₁ : IsP (hp0.update c (Obj.mapFields fun fs => fs.extract 0 4 ++ ((i' ++ c').map fun (n : Nat) => rawInt n).toArray)) c p 1 its.length f3 (i' ++ c') := by
    refine (Heap.get?_update_self _ hc rfl).trans ?_
    rw [← hfs]; rfl
  generalize hp0.update c (Obj.mapFields fun fs => fs.extract 0 4 ++ ((i' ++ c').map fun (n : Nat) => rawInt n).toArray) = h₁ at hs₁ hc₁ ⊢
  exact hand_out (idx := i') hc₁ hl hpk (fun e o he q => hs₁.extBut e o he q) hs₁.1 hQ
theorem next_end {c p : Addr} {its : List Value} {f3 : Value} {ns : List Nat} {Q : Fin → Shared → Prop} (hh : A.handled = none) (hc : IsP s.heap c p 1 its.length f3 ns) (hp : IsTu s.heap p its) (hst : stp its.length its.length (ns.take its.length) (ns.drop its.length) = none)
    (hE : ∀ h' e, (∀ d o, d ≠ c → s.heap.get? d = some o → h'.get? d = some o) → (∃ o, h'.get? e = some o ∧ o.cls = .type "StopIteration") → E (.ref e) { s with heap := h' }) :
    wpAny (model prog w) A (Builtin.«itertools.permutations.__next__» ⟨[.ref c], []⟩) Q E s := by
  refine next_head hc hp ?_
  obtain ⟨hp0, g, d, tk, os⟩ := s
  show wpAny _ _ (match stp its.length its.length (ns.take its.length) (ns.drop its.length) with
    | some (indices, cycles) => _
    | none => _) _ _ _
  rw [hst]
  show wpAny _ _ (setField (.ref c) 1 (rawInt 2) >>= _) _ _ _
  refine wpAny_bind (wpAny_setField_rec hc (by simp) fun h₁ hc₁ hs₁ => ?_)
  exact ZC.stop_ok (s := ⟨h₁, g, d, tk, os⟩) hh fun h' e k he => hE h' e (fun d o hd q => k d o (hs₁.extBut d o hd q)) he
end
end ZP

set_option Elab.async false
set_option linter.all false
set_option maxRecDepth 100000
set_option maxHeartbeats 4000000
/-! itertools.permutations(xs) as what is walked. -/
namespace ZP
open PySem PySem.Spec PyProof.Rows L2
open Sem (wp)
open ZN (IsTu)
/-- the orders of what stood in the sequence, each in a new tuple -/
def ItP (vs : List V) : It :=
  ⟨fun i _ => i < (sts vs.length).length,
    fun i H x H' => ∃ (T : Addr) (q : List Nat × List Nat), x = .ref T ∧ H T = none ∧ (sts vs.length)[i]? = some q ∧ H' = upd H T (.tup (q.1.map fun j => vs.getD j .non)),
    fun i _ => (sts vs.length).length ≤ i⟩
structure Tp (c p : Addr) (its : List Value) (i : Nat) (h : Heap) : Prop where
  pool : IsTu h p its
  at_ : (i = 0 ∧ ∃ f3, IsP h c p 0 its.length f3 (List.range its.length ++ (List.range its.length).map fun i => its.length - i)) ∨ ∃ k q f3, i = k + 1 ∧ (sts its.length)[k]? = some q ∧ IsP h c p 1 its.length f3 (q.1 ++ q.2)
theorem vals_pick {vs : List V} {its : List Value} (hv : Vals vs its) : ∀ {idx : List Nat}, (∀ j ∈ idx, j < vs.length) → Vals (idx.map fun j => vs.getD j .non) (idx.map fun j => its.toArray.getD j .none)
  | [], _ => .nil
  | j :: idx, h => by
    have hj := h j List.mem_cons_self
    have e1 : vs[j]? = some (vs.getD j .non) := by simp [hj]
    obtain ⟨u, hu, r⟩ := hv.get e1
    have e2 : its.toArray.getD j .none = u := by
      rw [Array.getD_eq_getD_getElem?]; simp [hu]
    exact .cons (by show RelV _ (its.toArray.getD j .none); rw [e2]; exact r) (vals_pick hv fun k m => h k (List.mem_cons_of_mem _ m))
section
variable {prog : Program} {w : World} {A : Around} {E : Value → Shared → Prop} {s : Shared}
theorem Tp.get {c p : Addr} {its : List Value} {i : Nat} {h : Heap} (t : Tp c p its i h) : ∃ st f3 ns, IsP h c p st its.length f3 ns := by
  rcases t.at_ with ⟨_, f3, e⟩ | ⟨k, q, f3, _, _, e⟩
  · exact ⟨_, _, _, e⟩
  · exact ⟨_, _, _, e⟩
theorem next_item {c p : Addr} {its us : List Value} {i : Nat} {q : List Nat × List Nat} {Q : Value → Shared → Prop} (hcp : c ≠ p) (hn : its.length ≤ 6) (t : Tp c p its i s.heap) (hi : (sts its.length)[i]? = some q) (hpk : (q.1.map fun j => its.toArray.getD j .none) = us)
    (hQ : ∀ h', Tp c p its (i + 1) h' → IsTu h' s.heap.objs.size us → h'.objs.size = s.heap.objs.size + 1 → (∀ d o, d ≠ c → s.heap.get? d = some o → h'.get? d = some o) → Q (.ref s.heap.objs.size) { s with heap := h' }) :
    wpAny (model prog w) A (Builtin.«itertools.permutations.__next__» ⟨[.ref c], []⟩) (fun fin s' => ∃ v, fin = .done (.ret v) ∧ Q v s') E s := by
  obtain ⟨l1, l2, _⟩ := sts_at hn hi
  have hl : us.length ≤ 6 := by rw [← hpk, List.length_map, l1]; exact hn
  rcases t.at_ with ⟨rfl, f3, hc⟩ | ⟨k, r, f3, rfl, hk, hc⟩
  · rw [sts_first] at hi
    cases hi
    refine next_first hcp hc t.pool hl ?_ fun h' f3' a1 a2 a3 a4 => hQ h' ⟨a4 _ _ (Ne.symm hcp) t.pool, .inr ⟨0, _, f3', rfl, sts_first _, a1⟩⟩ a2 a3 a4
    rw [← hpk]
    congr 1
    rw [List.take_take, Nat.min_self]
    exact List.take_left' (by simp)
  · obtain ⟨k1, k2, _⟩ := sts_at hn hk
    have hst := sts_next hn hk
    rw [hi] at hst
    refine next_more hcp hc t.pool (i' := q.1) (c' := q.2) (by rw [List.length_append]; omega) ?_ hl ?_ fun h' f3' a1 a2 a3 a4 => hQ h' ⟨a4 _ _ (Ne.symm hcp) t.pool, .inr ⟨k + 1, q, f3', rfl, hi, a1⟩⟩ a2 a3 a4
    · rw [List.take_left' k1, List.drop_left' k1]; exact hst
    · rw [← hpk, List.take_of_length_le (by omega)]
theorem pyNext_item {c p : Addr} {its us : List Value} {i : Nat} {q : List Nat × List Nat} {Q : Option Value → Shared → Prop} (hcp : c ≠ p) (hn : its.length ≤ 6) (t : Tp c p its i s.heap) (hi : (sts its.length)[i]? = some q) (hpk : (q.1.map fun j => its.toArray.getD j .none) = us)
    (hQ : ∀ h', Tp c p its (i + 1) h' → IsTu h' s.heap.objs.size us → h'.objs.size = s.heap.objs.size + 1 → (∀ d o, d ≠ c → s.heap.get? d = some o → h'.get? d = some o) → Q (some (.ref s.heap.objs.size)) { s with heap := h' }) :
    wpAny (model prog w) A (pyNext (.ref c)) Q E s := by
  obtain ⟨st, f3, ns, hc⟩ := t.get
  have hT : s.TypeIs (.ref c) "itertools.permutations" := ⟨_, hc, rfl⟩
  unfold pyNext
  exact wpAny_bind (wpAny_attempt (wpAny_callSpecial?_slot (name := Str.ofString "__next__") hT F.slot_perms_next
    (wpAny_call_entry F.slot_perms_next hT F.entry_perms_next
      (next_item hcp hn t hi hpk fun h' a1 a2 a3 a4 => wpAny_pure (hQ h' a1 a2 a3 a4)) (F.args_perms_next_1 _))))
theorem pyNext_end {c p : Addr} {its : List Value} {i : Nat} {Q : Option Value → Shared → Prop} (hh : A.handled = none) (hn : its.length ≤ 6) (t : Tp c p its i s.heap) (hi : (sts its.length).length ≤ i)
    (hQ : ∀ h', (∀ d o, d ≠ c → s.heap.get? d = some o → h'.get? d = some o) → Q none { s with heap := h' }) : wpAny (model prog w) A (pyNext (.ref c)) Q E s := by
  obtain ⟨st, f3, ns, hc0⟩ := t.get
  have hT : s.TypeIs (.ref c) "itertools.permutations" := ⟨_, hc0, rfl⟩
  unfold pyNext
  refine wpAny_bind (wpAny_attempt (wpAny_callSpecial?_slot (name := Str.ofString "__next__") hT F.slot_perms_next
    (wpAny_call_entry F.slot_perms_next hT F.entry_perms_next ?_ (F.args_perms_next_1 _))))
  rcases t.at_ with ⟨rfl, f3, hc⟩ | ⟨k, r, f3, rfl, hk, hc⟩
  · have := (List.getElem?_eq_some_iff.mp (sts_first its.length)).1
    omega
  · obtain ⟨k1, k2, _⟩ := sts_at hn hk
    have hst := sts_next hn hk
    rw [List.getElem?_eq_none hi] at hst
    refine next_end hh hc t.pool (by rw [List.take_left' k1, List.drop_left' k1]; exact hst) fun h' e k he => ?_
    obtain ⟨o, ho, hcl⟩ := he
    refine wpAny_bind (wpAny_isInstance (T := "StopIteration") (b := true) ⟨o, ho, hcl⟩ isSubtype_stop ?_)
    exact wpAny_pure (hQ _ k)
theorem pyIter_ok {c p : Addr} {st : Int} {f3 : Value} {n : Nat} {ns : List Nat} {Q : Value → Shared → Prop} (hc : IsP s.heap c p st n f3 ns) (h : Q (.ref c) s) : wpAny (model prog w) A (pyIter (.ref c)) Q E s := by
  have hT : s.TypeIs (.ref c) "itertools.permutations" := ⟨_, hc, rfl⟩
  refine wpAny_pyIter_slot hT F.slot_perms_iter (wpAny_call_entry F.slot_perms_iter hT F.entry_perms_iter ?_ (F.args_perms_iter_1 _))
  show wpAny _ _ (ret (.ref c)) _ _ s
  exact wpAny_pure ⟨_, rfl, "itertools.permutations", _, hT, F.slot_perms_next.lookup, h⟩
end
theorem turn_perms {P : Program} {w : World} {K : PySem.W.Frag} {tg : Expr} {vs : List V} {its : List Value} {c p : Addr} (hcp : c ≠ p) (hv : Vals vs its) (hn : vs.length ≤ 6) : Turn P w K tg (ItP vs) [c, p] c (Tp c p its) where
  mem := by simp
  obj := fun i h t b hb => by
    have e' : b = c ∨ b = p := by simpa using hb
    obtain ⟨st, f3, ns, hc⟩ := t.get
    rcases e' with z | z
    · rw [z]; exact ⟨_, hc, fun v q => nomatch q⟩
    · rw [z]; exact ⟨_, t.pool, fun v q => nomatch q⟩
  keep := fun i h h' t k => ⟨k p (by simp) _ t.pool, by
    rcases t.at_ with ⟨e, f3, hc⟩ | ⟨j, q, f3, e, hk, hc⟩
    · exact .inl ⟨e, f3, k c (by simp) _ hc⟩
    · exact .inr ⟨j, q, f3, e, hk, k c (by simp) _ hc⟩⟩
  item := by
    intro X hP hw hK hcalm i pins s σ H E I hf t hg
    subst hP hw hK
    have hl := hv.length
    have hi : (sts its.length)[i]? = some ((sts vs.length)[i]) := by
      rw [← hl]; exact List.getElem?_eq_getElem hg
    obtain ⟨a1, a2, a3⟩ := sts_at hn (List.getElem?_eq_getElem hg)
    have pk := vals_pick hv a3
    refine pyNext_item hcp (by omega) t hi rfl fun h' t' hT hsz hch => ?_
    obtain ⟨st, f3, ns, hc'⟩ := t'.get
    refine ⟨_, rfl, go_of hc' rfl rfl (by decide) ?_⟩
    have new : ObjOk X.prog X.w (upd H s.heap.objs.size (.tup (((sts vs.length)[i]).1.map fun j => vs.getD j .non))) h' s.heap.objs.size (.tup (((sts vs.length)[i]).1.map fun j => vs.getD j .non)) :=
      ⟨by rw [List.length_map, a1]; exact Nat.le_trans hn (by decide), _, pk, ⟨_, hT, rfl, _, rfl⟩⟩
    have I1 := I.turnedNew (t' := s.toks) (ch := [c, p]) (fun b o hb q => hch b o (fun z => hb (by simp [z])) q) hf (Nat.le_refl _) new
    refine ⟨.ref s.heap.objs.size, _, I1, rfl, ⟨_, _, rfl, I.hok.fresh (Nat.le_refl _), List.getElem?_eq_getElem hg, rfl⟩, t', fun b hb => ?_⟩
    obtain ⟨st0, f30, ns0, hc0⟩ := t.get
    have hb' : b < s.heap.objs.size := by
      have e' : b = c ∨ b = p := by simpa using hb
      rcases e' with z | z
      · rw [z]; exact Heap.lt_size hc0
      · rw [z]; exact Heap.lt_size t.pool
    rw [upd_ne (Nat.ne_of_lt hb')]
    exact (hf b hb).1
  done := by
    intro X hP hw hK hcalm i pins s σ H E I hf t hg
    subst hP hw hK
    have hl := hv.length
    exact pyNext_end (I.ok.hd hcalm) (by omega) t (by rw [← hl]; exact hg) fun h' hch => ⟨rfl, I.turnedL (t' := s.toks) (ch := [c, p]) (fun b o hb q => hch b o (fun z => hb (by simp [z])) q) hf⟩
  self := fun A i s Q E t h => by
    obtain ⟨st, f3, ns, hc⟩ := t.get
    exact pyIter_ok hc h
end ZP

set_option Elab.async false
set_option linter.all false
set_option maxRecDepth 100000
set_option maxHeartbeats 4000000
namespace ZP
open PySem PySem.Spec PyProof.Rows L2
open Sem (wp)
open ZN (IsTu)
section
variable {prog : Program} {w : World} {A : Around} {E : Value → Shared → Prop} {s : Shared}
/-- the numbers of a range; the heap only grows -/
theorem collect_rg {r : Addr} {a b c : Int} {t u v : Tok} {n : Nat} {Q : List Value → Shared → Prop} (hh : A.handled = none) (hr : IsRange s.heap r a b c t u v) (hsm : Builtin.Range.small a b c = true) (hn : Builtin.Range.rangeSize a b c = n) (hl : n ≤ 2 ^ 24)
    (hQ : ∀ (h' : Heap) (tk : Nat) (acc : Array Value), (∀ d o, s.heap.get? d = some o → h'.get? d = some o) → s.heap.objs.size ≤ h'.objs.size → ItemsOf (fun i v => ∃ t, v = .int (a + i * c) t) acc n → Q acc.toList { s with heap := h', toks := tk }) :
    wpAny (model prog w) A (collect (.ref r)) Q E s := by
  let S := s.heap.objs.size
  let h₀ := s.heap.push { cls := .type "list", data := .seq ([] : List Value).toArray }
  have g₀ : h₀.get? S = some { cls := .type "list", data := .seq #[] 0 } := Heap.get?_push_size _ rfl
  let Good : Result → Shared → Prop := fun rr s' => rr = .ok (.ret (.ref S)) ∧ ∃ (h' : Heap) (tk : Nat) (acc : Array Value) (c' : Nat), s' = { s with heap := h', toks := tk } ∧
      (∀ d o, s.heap.get? d = some o → h'.get? d = some o) ∧ h'.get? S = some { cls := .type "list", dict := none, data := .seq acc c', slots := #[] } ∧ ItemsOf (fun i v => ∃ t, v = .int (a + i * c) t) acc n
  have last : ∀ rr s', Good rr s' → wpAny (model prog w) A (load S >>= fun u => match u.data with
      | .seq ys _ => pure ys.toList
      | _ => unsupported "internal:collect") Q E s' := by
    rintro rr s' ⟨_, h', tk, acc, c', rfl, hk, hS, hi⟩
    exact wpAny_bind (wpAny_load hS (wpAny_pure (hQ h' tk acc hk (Nat.le_of_lt (Heap.lt_size hS)) hi)))
  have ext := wpAny_extend_range (prog := prog) (w := w) (A := A) (R := Good) (s := { s with heap := h₀ }) hh (Heap.get?_push_of_some _ hr) hsm hn hl S (.ref S) 0 g₀
    (fun h' tk acc c' hk e hi => ⟨rfl, h', tk, acc, c', rfl, fun d o q => hk d o (Nat.ne_of_lt (Heap.lt_size q)) (Heap.get?_push_of_some _ q), e, hi⟩)
  unfold collect
  refine wpAny_bind (wpAny_runValue (codeAny_builtin F.entry_proto_collect ?_))
  rw [Around.under_plainId F.plain_proto_collect _]
  refine wpAny_bind (m := newList []) (wpAny_newObj_type (wpAny_pure ⟨plainId_quiet F.plain_list_iadd _, codeAny_builtin F.entry_list_iadd ?_⟩))
  rw [Around.under_plainId F.plain_list_iadd _]
  refine wpAny_mono ext (fun fin s' h => ?_) fun e s' h => absurd h.1 (by simp)
  cases fin with
  | done f =>
    have e := h.1
    cases e
    exact last _ _ h
  | again c' => exact ⟨h.1, codeAny_mono h.2 fun rr s'' hr => by
      have e := hr.1
      subst e
      exact last _ _ hr⟩
theorem bind_named (a : Value) : Builtin.Itertools.itBindNamed "permutations" ["iterable", "r"] 1 2 [a] [] = pure [some a, none] := by first | rfl | kernel_rfl
theorem has_dict : typeHasDict (.type "itertools.permutations") = false := by first | rfl | kernel_rfl | decide +kernel
end
end ZP

set_option Elab.async false
set_option linter.all false
set_option maxRecDepth 100000
set_option maxHeartbeats 4000000
namespace ZP
open PySem PySem.Spec PyProof.Rows L2
open Sem (wp)
open ZN (IsTu)
theorem rg_facts : ∀ n : Nat, n ≤ 6 → Builtin.Range.small 0 (n : Int) 1 = true ∧ Builtin.Range.rangeSize 0 (n : Int) 1 = (n : Int) := by decide +kernel
theorem meets_new {prog : Program} {w : World} (r : Addr) (k : Int) (t u v : Tok) (n : Nat) (hk : k = n) (hn : n ≤ 6) :
    MeetsIn prog w (Builtin.«itertools.permutations.__new__» ⟨[.type "itertools.permutations", .ref r], []⟩) (fun A R s => A.handled = none ∧ IsRange s.heap r 0 k 1 t u v ∧
      ∀ h' tk c p its, c ≠ p → its.length = n → Vals ((List.range n).map fun (i : Nat) => V.int i) its → Tp c p its 0 h' → s.heap.objs.size ≤ c → s.heap.objs.size ≤ p → (∀ d o, s.heap.get? d = some o → h'.get? d = some o) → R (.ok (.ret (.ref c))) { s with heap := h', toks := tk }) := by
  refine .of_wp fun A R s h => ?_
  obtain ⟨hp, g, d, tk0, os⟩ := s; obtain ⟨hh, hr, h⟩ := h
  have hsub := PySem.F.sub_perms
  unfold Builtin.«itertools.permutations.__new__»
  refine wpAny_bind ?_
  unfold Builtin.Itertools.itClassAndRest
  dsimp only
  rw [show ("itertools." ++ "permutations" : String) = "itertools.permutations" from rfl, hsub]
  refine wpAny_bind (wpAny_pure ?_)
  simp only [Bool.not_true, Bool.false_eq_true, if_false]
  refine wpAny_bind (wpAny_pure ?_)
  simp only [Bool.not_true, Bool.false_eq_true, if_false]
  refine wpAny_pure ?_
  dsimp only
  rw [bind_named]
  refine wpAny_bind (wpAny_pure ?_)
  dsimp only
  subst hk
  obtain ⟨hs, hz⟩ := rg_facts n hn
  refine wpAny_bind (collect_rg hh hr hs hz (Nat.le_trans hn (by decide)) fun h₁ tk acc k₁ z₁ hi => ?_)
  obtain ⟨hil, hiv⟩ := hi
  have hl : acc.toList.length = n := by rw [Array.length_toList]; exact hil
  have hL : ((acc.toList.length : Nat) : Int) = (n : Int) := by rw [hl]
  simp only [Option.getD_none]
  refine wpAny_bind (wpAny_pure ?_)
  rw [if_neg (by omega), if_neg (by unfold Builtin.Itertools.itTooMany; simp; omega)]
  show wpAny _ _ (newTuple acc.toList >>= _) _ _ _
  refine wpAny_bind (wpAny_newTuple ?_ (by rw [hl]; exact Nat.le_trans hn (by decide)))
  refine wpAny_bind ?_
  unfold Builtin.Itertools.itNewRecord
  rw [has_dict]
  simp only [Bool.not_false, if_true]
  have hrec : ([Value.ref h₁.objs.size, rawInt (if ((acc.toList.length : Nat) : Int).toNat > acc.toList.length then 2 else 0), rawInt (((acc.toList.length : Nat) : Int).toNat : Int), Value.none] ++ (List.range acc.toList.length).map (fun (i : Nat) => rawInt (i : Int)) ++ (List.range ((acc.toList.length : Nat) : Int).toNat).map (fun (i : Nat) => rawInt (((acc.toList.length : Nat) : Int) - (i : Int)))) = (Value.ref h₁.objs.size :: rawInt 0 :: rawInt ((acc.toList.length : Nat) : Int) :: Value.none :: nums (List.range acc.toList.length ++ (List.range acc.toList.length).map fun i => acc.toList.length - i)) := by
    generalize acc.toList.length = m
    rw [Int.toNat_natCast, if_neg (Nat.lt_irrefl m)]
    have e : (List.range m).map (fun (i : Nat) => rawInt ((m : Int) - (i : Int))) = (List.range m).map fun i => rawInt ((m - i : Nat) : Int) := by
      apply List.map_congr_left
      intro i hi
      rw [List.mem_range] at hi
      show rawInt ((m : Int) - (i : Int)) = rawInt ((m - i : Nat) : Int)
      rw [Int.ofNat_sub (Nat.le_of_lt hi)]
    rw [e]
    simp only [nums, List.map_append, List.map_map, List.cons_append, List.nil_append, Function.comp_def]
  rw [hrec]
  refine wpAny_newObj_type ?_ ?_
  rotate_left
  · refine Nat.le_trans (m := 16) ?_ (by decide)
    simp only [List.size_toArray, List.length_cons, nums, List.length_map, List.length_append, List.length_range, hl]
    omega
  refine wpAny_pure ⟨_, rfl, ?_⟩
  have hsz : (h₁.push { cls := .type "tuple", data := .seq acc.toList.toArray }).objs.size = h₁.objs.size + 1 := Heap.size_push ..
  refine h _ tk _ h₁.objs.size acc.toList ?_ hl ?_ ⟨?_, .inl ⟨rfl, .none, ?_⟩⟩ ?_ z₁ fun d o q => Heap.get?_push_of_some _ (Heap.get?_push_of_some _ (k₁ d o q))
  · rw [hsz]; exact Nat.succ_ne_self _
  · have := vals_rg (a := 0) (b := (n : Int)) (acc := acc) (by rw [show ((n : Int) - 0).toNat = n by omega]; exact ⟨hil, hiv⟩)
    simpa [rgV] using this
  · exact Heap.get?_push_of_some _ (Heap.get?_push_size _ rfl)
  · exact Heap.get?_push_size _ rfl
  · rw [hsz]; exact Nat.le_succ_of_le z₁
end ZP

set_option Elab.async false
set_option linter.all false
set_option maxRecDepth 100000
set_option maxHeartbeats 4000000
namespace ZP
open PySem PySem.Spec PyProof.Rows L2
open Sem (wp)
open ZN (IsTu)
section
variable {prog : Program} {w : World} {A : Around} {E : Value → Shared → Prop} {s : Shared}
theorem call_perms {r : Addr} {k : Int} {t u v : Tok} {n : Nat} {Q : Value → Shared → Prop} (hh : A.handled = none) (hk : k = n) (hn : n ≤ 6) (hr : IsRange s.heap r 0 k 1 t u v)
    (h : ∀ h' tk c p its, c ≠ p → its.length = n → Vals ((List.range n).map fun (i : Nat) => V.int i) its → Tp c p its 0 h' → s.heap.objs.size ≤ c → s.heap.objs.size ≤ p → (∀ d o, s.heap.get? d = some o → h'.get? d = some o) → Q (.ref c) { s with heap := h', toks := tk }) :
    wpAny (model prog w) A (call (.type "itertools.permutations") [.ref r]) Q E s := by
  refine callType_newIn F.called_perms (by decide) (F.typeCall_perms _) (F.newCall_perms _) (fun obj => F.args_object_init_2 obj _) F.entry_perms_new (meets_new r k t u v n hk hn) ⟨hh, hr, fun h' tk c p its hcp hl hv t z1 z2 hk => ?_⟩
  obtain ⟨st, f3, ns, hc⟩ := t.get
  exact ⟨⟨_, hc, rfl⟩, h h' tk c p its hcp hl hv t z1 z2 hk⟩
end
def iPerms (te : L2.St → Hp → (Int → Int → Hp → Prop) → Prop) : TI := fun σ H R => te σ H fun a b H1 => a = 0 ∧ ∃ n : Nat, b = n ∧ n ≤ 6 ∧ R (ItP ((List.range n).map fun (i : Nat) => V.int i)) H1
theorem pi_perms {X : Cx} {tg e : Expr} {x : Str} {te : L2.St → Hp → (Int → Int → Hp → Prop) → Prop} {p pos : Pos} (hcalm : X.calm = true) (hg : Gl X x) (hm : X.mg x = some (.type "itertools.permutations")) (he : PRg X e te) (hdb : (x == ("__debug__" : Str)) = false := by decide)
    (hs : starEach [e] X.env = [(false, eval e X.env)] := by rfl) : PI X tg (.Call (.Name x p) [e] [] pos) (iPerms te) := by
  refine ⟨fun pins s σ H R I h => ?_⟩
  refine Call_name1 hs (ld_glob I hg hm (PySem.callWith_type1 (thn (he pins s σ H _ I h) fun v0 s1 ⟨r, a, b, t, u, v, H1, hv0, hr, I1, ha, n, hb, hn, q⟩ => ?_)) hdb)
  subst hv0 ha
  refine call_perms (I1.ok.hd hcalm) hb hn hr fun h' tk c p its hcp hl hv tp z1 z2 hk => ?_
  obtain ⟨st, f3, ns, hc⟩ := tp.get
  refine pyIter_ok hc ?_
  have I2 : Inv X pins σ H1 { s1 with heap := h', toks := tk } := I1.kept (t' := tk) hk
  refine ⟨c, [c, p], _, _, H1, rfl, I2, turn_perms hcp hv (by simpa using hn), tp, fun b hb => ?_, q⟩
  have hle : s1.heap.objs.size ≤ b := by
    have e' : b = c ∨ b = p := by simpa using hb
    rcases e' with z | z
    · rw [z]; exact z1
    · rw [z]; exact z2
  exact I1.fpOk hle (I1.hok.fresh hle)
end ZP

set_option Elab.async false
set_option linter.all false
set_option maxRecDepth 100000
set_option maxHeartbeats 4000000
/-! permutations(range(n)) over data. -/
namespace DL
open PySem PySem.Spec PyProof.Rows L2
open Evl (Ex)
open ZP (ItP iPerms pi_perms sts sts_at pms)
def pmsD (n : Nat) : List D := (sts n).map fun q => .tup (q.1.map fun (j : Nat) => .int j)
section
variable {K : PySem.W.Frag} {B : Hp}
theorem itP_ok {n : Nat} (hn : n ≤ 6) : ItOk K B (ItP ((List.range n).map fun (i : Nat) => V.int i)) (pmsD n) := by
  have hl : ((List.range n).map fun (i : Nat) => V.int i).length = n := by simp
  refine fun i H' e => ⟨fun d hd => ?_, fun hz => ?_⟩
  · unfold pmsD at hd
    rw [List.getElem?_map, Option.map_eq_some_iff] at hd
    obtain ⟨q, hq, rfl⟩ := hd
    obtain ⟨a1, a2, a3⟩ := sts_at hn hq
    refine ⟨by show i < (sts _).length; rw [hl]; exact (List.getElem?_eq_some_iff.mp hq).1, fun x H'' y => ?_⟩
    obtain ⟨T, q', rfl, nT, hq', rfl⟩ := y
    rw [hl, hq] at hq'
    cases hq'
    refine ⟨Evl.Ex.new nT, fun B2 e2 e3 => .tup (e3 _ _ (stb_tup upd_same)) ?_⟩
    have : ∀ idx : List Nat, (∀ j ∈ idx, j < n) → DtL K B2 (idx.map fun j => ((List.range n).map fun (i : Nat) => V.int i).getD j .non) (idx.map fun (j : Nat) => D.int j) := by
      intro idx
      induction idx with
      | nil => intro _; exact .nil
      | cons j idx ih =>
        intro h
        have hj := h j List.mem_cons_self
        refine .cons ?_ (ih fun k m => h k (List.mem_cons_of_mem _ m))
        have : ((List.range n).map fun (i : Nat) => V.int i).getD j .non = V.int j := by simp [hj]
        show Dt K B2 (((List.range n).map fun (i : Nat) => V.int i).getD j .non) (.int j)
        rw [this]
        exact .int _
    exact this _ a3
  · show (sts _).length ≤ i
    unfold pmsD at hz
    rw [List.length_map] at hz
    rw [hl]; exact hz
end
section
variable {X : Cx} {tg e : Expr} {x : Str} {ma : ME} {p p2 pos pos2 : Pos}
def mPerms (m : ME) : MI := fun ρ => match m ρ with
  | some r => match r.data with
    | .int n => if 0 ≤ n ∧ n ≤ 6 then some (true, pmsD n.toNat) else none
    | _ => none
  | none => none
theorem xi_perms (hc : X.calm = true) (hg : Gl X x) (hm : X.mg x = some (.type "itertools.permutations")) (hg2 : Gl X "range") (hm2 : X.mg "range" = none) (ha : XE X e ma) (hdb : (x == ("__debug__" : Str)) = false := by decide)
    (na : starEach [e] X.env = (false, eval e X.env) :: starEach [] X.env := by rfl) (na2 : starEach [.Call (.Name "range" p2) [e] [] pos2] X.env = [(false, eval (.Call (.Name "range" p2) [e] [] pos2) X.env)] := by rfl) :
    XI X tg (.Call (.Name x p) [.Call (.Name "range" p2) [e] [] pos2] [] pos) (mPerms ma) := by
  obtain ⟨t, pa, s⟩ := ha
  refine ⟨_, pi_perms hc hg hm (prg_1 hg2 hm2 pa na) hdb na2, fun G H σ ρ fp fx items Q R hm q => ?_⟩
  unfold mPerms at hm
  split at hm
  rotate_left
  · cases hm
  rename_i r e1
  split at hm
  rotate_left
  · cases hm
  rename_i n e2
  split at hm
  rotate_left
  · cases hm
  rename_i hn
  cases hm
  refine s G H σ ρ fp r _ R e1 fun v F H1 x1 o1 => ?_
  have z := o1.data
  rw [e2] at z
  cases dt_int z
  exact ⟨n, rfl, rfl, n.toNat, by omega, by omega, q _ H1 x1 (itP_ok (by omega))⟩
end
end DL

set_option Elab.async false
set_option linter.all false
set_option maxRecDepth 100000
set_option maxHeartbeats 4000000
/-! zip(a list, a tuple). -/
namespace ZM
open PySem PySem.Spec PyProof.Rows L2
open Sem (wp)
section
variable {prog : Program} {w : World} {A : Around} {E : Value → Shared → Prop} {s : Shared}
/-- all but these four stay -/
abbrev Chg4 (z TO i1 i2 : Addr) (h h' : Heap) : Prop := ∀ c o, c ≠ z → c ≠ TO → c ≠ i1 → c ≠ i2 → h.get? c = some o → h'.get? c = some o
/-- the walker's state: a list's iterator and a tuple's -/
structure Two (h : Heap) (z TI TO i1 i2 l1 l2 : Addr) (i : Nat) (f0 : Value) : Prop where
  hz : IsZip h z TI TO f0
  hTI : IsPair h TI (.ref i1) (.ref i2)
  hTO : ∃ x y, IsPair h TO x y
  h1 : h.IsListIter i1 l1 i
  h2 : h.IsTupleIter i2 l2 i
theorem next_two {z TI TO i1 i2 l1 l2 : Addr} {i : Nat} {xs ys : Array Value} {x y : Value} {Q : Value → Shared → Prop} (D : ZipApart z TI TO i1 i2 l1 l2) (T : Two s.heap z TI TO i1 i2 l1 l2 i .none)
    (hl1 : s.heap.IsList l1 xs) (hl2 : s.heap.IsTuple l2 ys) (hx : xs[i]? = some x) (hy : ys[i]? = some y)
    (hQ : ∀ h', Two h' z TI TO i1 i2 l1 l2 (i + 1) (rawInt s.heap.objs.size) → IsPair h' s.heap.objs.size x y → h'.objs.size = s.heap.objs.size + 1 → Chg4 z TO i1 i2 s.heap h' → Q (.ref s.heap.objs.size) { s with heap := h' }) :
    wpAny (model prog w) A (Builtin.«zip.__next__» ⟨[.ref z], []⟩) (fun fin s' => ∃ v, fin = .done (.ret v) ∧ Q v s') E s := by
  obtain ⟨hz, hTI, ⟨a, b, hTO⟩, h1, h2⟩ := T
  have kz1 := D.i1z
  have kz2 := D.i2z
  have hlt : z < s.heap.objs.size := Heap.lt_size hz
  show wpAny _ _ (field (.ref z) 2 >>= _) _ _ _
  refine wpAny_bind (wpAny_field hz rfl (x := .bool false) rfl ?_)
  show wpAny _ _ (field (.ref z) 3 >>= _) _ _ _
  refine wpAny_bind (wpAny_field hz rfl (x := .ref TI) rfl ?_)
  refine wpAny_bind (wpAny_seqItems hTI rfl ?_)
  show wpAny _ _ (Builtin.SmallTypes.ownedTupleIsFree (.ref z) >>= _) _ _ _
  refine wpAny_bind ?_
  unfold Builtin.SmallTypes.ownedTupleIsFree
  refine wpAny_bind (wpAny_field hz rfl (x := .none) rfl (wpAny_pure ?_))
  simp only [if_true]
  refine wpAny_bind (wpAny_rule ?_)
  refine wpAny_bind (wpAny_field hz rfl (x := .ref TO) rfl ?_)
  refine wpAny_bind (wpAny_setField_rec hz (by simp) fun ha hza sa => ?_)
  have hza : IsZip ha z TI TO .ellipsis := hza
  have TOa : IsPair ha TO a b := sa.extBut _ _ D.TOz hTO
  refine wpAny_bind ?_
  simp only [List.zipIdx_cons, List.zipIdx_nil, List.forIn_cons, List.forIn_nil]
  -- the list's item
  refine wpAny_bind (wpAny_bind (wpAny_onRaise ?_))
  show wpAny _ _ (Builtin.SmallTypes.nextOf (.ref i1) >>= _) _ _ _
  refine wpAny_bind (wpAny_nextOf_list_item (h1.extBut sa.extBut kz1) (hl1.extBut sa.extBut D.l1z) hx fun hb it1 sb => wpAny_pure ?_)
  have TOb : IsPair hb TO a b := sb.extBut _ _ D.TOi1 TOa
  refine wpAny_bind (wpAny_seqItems TOb rfl ?_)
  refine wpAny_bind (wpAny_updateSeq_pair TOb fun hc TOc sc => ?_)
  have TOc : IsPair hc TO x b := TOc
  refine wpAny_bind (wpAny_letGo (wpAny_pure ?_))
  -- the tuple's item
  refine wpAny_bind (wpAny_bind (wpAny_onRaise ?_))
  show wpAny _ _ (Builtin.SmallTypes.nextOf (.ref i2) >>= _) _ _ _
  have it2 : hc.IsTupleIter i2 l2 i := ((h2.extBut sa.extBut kz2).extBut sb.extBut D.i12.symm).extBut sc.extBut D.TOi2.symm
  have tl2 : hc.IsTuple l2 ys := ((hl2.extBut sa.extBut D.l2z).extBut sb.extBut D.l2i1).extBut sc.extBut D.l2TO
  refine wpAny_bind (RZ.nextOf_tuple_item (s := { s with heap := hc }) it2 tl2 hy fun hd it2d sd => wpAny_pure ?_)
  have TOd : IsPair hd TO x b := sd.extBut _ _ D.TOi2 TOc
  refine wpAny_bind (wpAny_seqItems TOd rfl ?_)
  refine wpAny_bind (wpAny_updateSeq_pair TOd fun he TOe se => ?_)
  have TOe : IsPair he TO x y := TOe
  refine wpAny_bind (wpAny_letGo (wpAny_pure (wpAny_pure ?_)))
  refine wpAny_bind (wpAny_seqItems TOe rfl ?_)
  refine wpAny_bind (wpAny_newTuple ?_)
  have size_e : he.objs.size = s.heap.objs.size := by rw [se.1, sd.1, sc.1, sb.1, sa.1]
  have stay : Chg4 z TO i1 i2 s.heap he := fun c o c1 c2 c3 c4 e => se.extBut _ _ c2 (sd.extBut _ _ c4 (sc.extBut _ _ c2 (sb.extBut _ _ c3 (sa.extBut _ _ c1 e))))
  have ze : IsZip he z TI TO .ellipsis := se.extBut _ _ D.TOz.symm (sd.extBut _ _ kz2.symm (sc.extBut _ _ D.TOz.symm (sb.extBut _ _ kz1.symm hza)))
  have e1 : he.IsListIter i1 l1 (i + 1) := ((it1.extBut sc.extBut D.TOi1.symm).extBut sd.extBut D.i12).extBut se.extBut D.TOi1.symm
  have e2 : he.IsTupleIter i2 l2 (i + 1) := it2d.extBut se.extBut D.TOi2.symm
  show wpAny _ _ (Builtin.SmallTypes.ownedTupleHandOut (.ref z) (.ref he.objs.size) >>= _) _ _ _
  refine wpAny_bind ?_
  unfold Builtin.SmallTypes.ownedTupleHandOut
  have zf : IsZip (he.push { cls := .type "tuple", data := .seq #[x, y] }) z TI TO .ellipsis := Heap.get?_push_of_some _ ze
  refine wpAny_bind (wpAny_setField_rec zf (by simp) fun hg zg sg => ?_)
  have zg : IsZip hg z TI TO (rawInt he.objs.size) := zg
  refine wpAny_setField_rec zg (by simp) fun hh zh sh => ?_
  have zh : IsZip hh z TI TO (rawInt he.objs.size) := zh
  have ne : he.objs.size ≠ z := by rw [size_e]; exact Nat.ne_of_gt hlt
  have up : ∀ c o, c ≠ z → he.get? c = some o → hh.get? c = some o := fun c o c1 e => sh.extBut _ _ c1 (sg.extBut _ _ c1 (Heap.get?_push_of_some _ e))
  have new : IsPair hh he.objs.size x y := sh.extBut _ _ ne (sg.extBut _ _ ne (Heap.get?_push_size _ rfl))
  refine wpAny_pure ⟨_, rfl, ?_⟩
  show Q (.ref he.objs.size) _
  rw [size_e] at zh new ⊢
  refine hQ hh ⟨zh, ?_, ⟨x, y, up _ _ D.TOz TOe⟩, e1.at fun o e => up _ o kz1 e, e2.at fun o e => up _ o kz2 e⟩ new (by rw [sh.1, sg.1, Heap.size_push, size_e]) fun c o c1 c2 c3 c4 e => up c o c1 (stay c o c1 c2 c3 c4 e)
  exact up _ _ D.TIz (stay _ _ D.TIz D.TITO D.TIi1 D.TIi2 hTI)
theorem next_out {z TI TO i1 i2 l1 l2 : Addr} {i : Nat} {xs ys : Array Value} {Q : Fin → Shared → Prop} (hh : A.handled = none) (D : ZipApart z TI TO i1 i2 l1 l2) (T : Two s.heap z TI TO i1 i2 l1 l2 i .none)
    (hl1 : s.heap.IsList l1 xs) (hl2 : s.heap.IsTuple l2 ys) (ho : xs[i]? = none ∨ ys[i]? = none)
    (hE : ∀ h' e, Chg4 z TO i1 i2 s.heap h' → (∃ o, h'.get? e = some o ∧ o.cls = .type "StopIteration") → E (.ref e) { s with heap := h' }) : wpAny (model prog w) A (Builtin.«zip.__next__» ⟨[.ref z], []⟩) Q E s := by
  obtain ⟨hz, hTI, ⟨a, b, hTO⟩, h1, h2⟩ := T
  show wpAny _ _ (field (.ref z) 2 >>= _) _ _ _
  refine wpAny_bind (wpAny_field hz rfl (x := .bool false) rfl ?_)
  show wpAny _ _ (field (.ref z) 3 >>= _) _ _ _
  refine wpAny_bind (wpAny_field hz rfl (x := .ref TI) rfl ?_)
  refine wpAny_bind (wpAny_seqItems hTI rfl ?_)
  show wpAny _ _ (Builtin.SmallTypes.ownedTupleIsFree (.ref z) >>= _) _ _ _
  refine wpAny_bind ?_
  unfold Builtin.SmallTypes.ownedTupleIsFree
  refine wpAny_bind (wpAny_field hz rfl (x := .none) rfl (wpAny_pure ?_))
  simp only [if_true]
  refine wpAny_bind (wpAny_rule ?_)
  refine wpAny_bind (wpAny_field hz rfl (x := .ref TO) rfl ?_)
  refine wpAny_bind (wpAny_setField_rec hz (by simp) fun ha hza sa => ?_)
  have hza : IsZip ha z TI TO .ellipsis := hza
  refine wpAny_bind ?_
  simp only [List.zipIdx_cons, List.zipIdx_nil, List.forIn_cons, List.forIn_nil]
  refine wpAny_bind (wpAny_bind (wpAny_onRaise ?_))
  show wpAny _ _ (Builtin.SmallTypes.nextOf (.ref i1) >>= _) _ _ _
  cases hx : xs[i]? with
  | none =>
    refine wpAny_bind (wpAny_nextOf_list_end hh (h1.extBut sa.extBut D.i1z) (hl1.extBut sa.extBut D.l1z) hx fun hb e sb he => ?_)
    obtain ⟨oe, e1, e2⟩ := he
    have hzb : IsZip hb z TI TO .ellipsis := sb _ _ D.i1z.symm hza
    have nez : e ≠ z := by rintro rfl; rw [hzb] at e1; cases e1; simp at e2
    refine wpAny_setField_rec hzb (by simp) fun hc _ sc => hE hc e (fun c o c1 _ c3 _ q => sc.extBut _ _ c1 (sb _ _ c3 (sa.extBut _ _ c1 q))) ⟨oe, sc.extBut _ _ nez e1, e2⟩
  | some x =>
    have hy : ys[i]? = none := ho.resolve_left fun q => by rw [hx] at q; cases q
    refine wpAny_bind (wpAny_nextOf_list_item (h1.extBut sa.extBut D.i1z) (hl1.extBut sa.extBut D.l1z) hx fun hb it1 sb => wpAny_pure ?_)
    have TOb : IsPair hb TO a b := sb.extBut _ _ D.TOi1 (sa.extBut _ _ D.TOz hTO)
    refine wpAny_bind (wpAny_seqItems TOb rfl ?_)
    refine wpAny_bind (wpAny_updateSeq_pair TOb fun hc TOc sc => ?_)
    refine wpAny_bind (wpAny_letGo (wpAny_pure ?_))
    refine wpAny_bind (wpAny_bind (wpAny_onRaise ?_))
    show wpAny _ _ (Builtin.SmallTypes.nextOf (.ref i2) >>= _) _ _ _
    have it2 : hc.IsTupleIter i2 l2 i := ((h2.extBut sa.extBut D.i2z).extBut sb.extBut D.i12.symm).extBut sc.extBut D.TOi2.symm
    have tl2 : hc.IsTuple l2 ys := ((hl2.extBut sa.extBut D.l2z).extBut sb.extBut D.l2i1).extBut sc.extBut D.l2TO
    refine wpAny_bind (RZ.nextOf_tuple_end (s := { s with heap := hc }) hh it2 tl2 hy fun hd e sd he => ?_)
    obtain ⟨oe, e1, e2⟩ := he
    have hzd : IsZip hd z TI TO .ellipsis := sd _ _ D.i2z.symm (sc.extBut _ _ D.TOz.symm (sb.extBut _ _ D.i1z.symm hza))
    have nez : e ≠ z := by rintro rfl; rw [hzd] at e1; cases e1; simp at e2
    refine wpAny_setField_rec hzd (by simp) fun hf _ sf => hE hf e (fun c o c1 c2 c3 c4 q => sf.extBut _ _ c1 (sd _ _ c4 (sc.extBut _ _ c2 (sb.extBut _ _ c3 (sa.extBut _ _ c1 q))))) ⟨oe, sf.extBut _ _ nez e1, e2⟩
theorem pyNext_two {z TI TO i1 i2 l1 l2 : Addr} {i : Nat} {xs ys : Array Value} {x y : Value} {Q : Option Value → Shared → Prop} (D : ZipApart z TI TO i1 i2 l1 l2) (T : Two s.heap z TI TO i1 i2 l1 l2 i .none)
    (hl1 : s.heap.IsList l1 xs) (hl2 : s.heap.IsTuple l2 ys) (hx : xs[i]? = some x) (hy : ys[i]? = some y)
    (hQ : ∀ h', Two h' z TI TO i1 i2 l1 l2 (i + 1) (rawInt s.heap.objs.size) → IsPair h' s.heap.objs.size x y → h'.objs.size = s.heap.objs.size + 1 → Chg4 z TO i1 i2 s.heap h' → Q (some (.ref s.heap.objs.size)) { s with heap := h' }) :
    wpAny (model prog w) A (pyNext (.ref z)) Q E s := by
  have hT : s.TypeIs (.ref z) "zip" := ⟨_, T.hz, rfl⟩
  unfold pyNext
  exact wpAny_bind (wpAny_attempt (wpAny_callSpecial?_slot (name := Str.ofString "__next__") hT F.slot_zip_next
    (wpAny_call_entry F.slot_zip_next hT F.entry_zip_next (next_two D T hl1 hl2 hx hy fun h' b1 b2 b3 b4 => wpAny_pure (hQ h' b1 b2 b3 b4)) (F.args_zip_next_1 _))))
theorem pyNext_out {z TI TO i1 i2 l1 l2 : Addr} {i : Nat} {xs ys : Array Value} {Q : Option Value → Shared → Prop} (hh : A.handled = none) (D : ZipApart z TI TO i1 i2 l1 l2) (T : Two s.heap z TI TO i1 i2 l1 l2 i .none)
    (hl1 : s.heap.IsList l1 xs) (hl2 : s.heap.IsTuple l2 ys) (ho : xs[i]? = none ∨ ys[i]? = none)
    (hQ : ∀ h', Chg4 z TO i1 i2 s.heap h' → Q none { s with heap := h' }) : wpAny (model prog w) A (pyNext (.ref z)) Q E s := by
  have hT : s.TypeIs (.ref z) "zip" := ⟨_, T.hz, rfl⟩
  unfold pyNext
  refine wpAny_bind (wpAny_attempt (wpAny_callSpecial?_slot (name := Str.ofString "__next__") hT F.slot_zip_next
    (wpAny_call_entry F.slot_zip_next hT F.entry_zip_next (next_out hh D T hl1 hl2 ho fun h' e hk he => ?_) (F.args_zip_next_1 _))))
  obtain ⟨o, q1, q2⟩ := he
  refine wpAny_bind (wpAny_isInstance (T := "StopIteration") (b := true) ⟨o, q1, q2⟩ isSubtype_stop ?_)
  exact wpAny_pure (hQ _ hk)
theorem new_two {l1 l2 : Addr} {xs ys : Array Value} {Q : Value → Shared → Prop} (hl1 : s.heap.IsList l1 xs) (hl2 : s.heap.IsTuple l2 ys)
    (h : ∀ h', Two h' (s.heap.objs.size + 4) (s.heap.objs.size + 2) (s.heap.objs.size + 3) s.heap.objs.size (s.heap.objs.size + 1) l1 l2 0 .none → (∀ c o, s.heap.get? c = some o → h'.get? c = some o) → Q (.ref (s.heap.objs.size + 4)) { s with heap := h' }) :
    wpAny (model prog w) A (call (.type "zip") [.ref l1, .ref l2]) Q E s := by
  have g : Meets (Builtin.«zip.__new__» ⟨[.type "zip", .ref l1, .ref l2], []⟩) (fun _ R s => s.heap.IsList l1 xs ∧ s.heap.IsTuple l2 ys ∧
      ∀ z h', z = s.heap.objs.size + 4 → Two h' (s.heap.objs.size + 4) (s.heap.objs.size + 2) (s.heap.objs.size + 3) s.heap.objs.size (s.heap.objs.size + 1) l1 l2 0 .none → (∀ c o, s.heap.get? c = some o → h'.get? c = some o) → R (.ok (.ret (.ref z))) { s with heap := h' }) := by
    refine .of_wp fun prog w A R s hS => ?_
    obtain ⟨a1, a2, a3⟩ := hS
    obtain ⟨hp, gl, d, tk, os⟩ := s
    have hsub := sub_zip
    have L1 : Heap.IsList (Shared.heap ⟨hp, gl, d, tk, os⟩) l1 xs := a1
    have L2 : Heap.IsTuple (Shared.heap ⟨hp.push { cls := .type "list_iterator", data := .fields #[.ref l1, .int 0 0] }, gl, d, tk, os⟩) l2 ys := Heap.IsTuple.push a2 _
    wp_walk using wpAny_pyIter_list L1, wpAny_pyIter_tuple L2
    refine ⟨_, rfl, a3 _ _ ?_ ⟨?_, ?_, ⟨.none, .none, ?_⟩, ⟨{ cls := .type "list_iterator", data := .fields #[.ref l1, .int 0 0] }, ?_, rfl, rfl⟩, ⟨{ cls := .type "tuple_iterator", data := .fields #[.ref l2, .int 0 0] }, ?_, rfl, rfl⟩⟩ ?_⟩
    · simp only [Heap.size_push]
    · have q := Heap.get?_push_size ((((hp.push { cls := .type "list_iterator", data := .fields #[.ref l1, .int 0 0] }).push { cls := .type "tuple_iterator", data := .fields #[.ref l2, .int 0 0] }).push { cls := .type "tuple", data := .seq #[.ref hp.objs.size, .ref (hp.objs.size + 1)] }).push { cls := .type "tuple", data := .seq #[.none, .none] }) (o := { cls := .type "zip", data := .fields #[.none, .bool false, .bool false, .ref (hp.objs.size + 2), .ref (hp.objs.size + 3)] }) rfl
      simp only [Heap.size_push] at q ⊢
      exact q
    · have q := Heap.get?_push_size ((hp.push { cls := .type "list_iterator", data := .fields #[.ref l1, .int 0 0] }).push { cls := .type "tuple_iterator", data := .fields #[.ref l2, .int 0 0] }) (o := { cls := .type "tuple", data := .seq #[.ref hp.objs.size, .ref (hp.objs.size + 1)] }) rfl
      simp only [Heap.size_push] at q ⊢
      exact Heap.get?_push_of_some _ (Heap.get?_push_of_some _ q)
    · have q := Heap.get?_push_size (((hp.push { cls := .type "list_iterator", data := .fields #[.ref l1, .int 0 0] }).push { cls := .type "tuple_iterator", data := .fields #[.ref l2, .int 0 0] }).push { cls := .type "tuple", data := .seq #[.ref hp.objs.size, .ref (hp.objs.size + 1)] }) (o := { cls := .type "tuple", data := .seq #[.none, .none] }) rfl
      simp only [Heap.size_push] at q ⊢
      exact Heap.get?_push_of_some _ q
    · exact Heap.get?_push_of_some _ (Heap.get?_push_of_some _ (Heap.get?_push_of_some _ (Heap.get?_push_of_some _ (Heap.get?_push_size hp rfl))))
    · have q := Heap.get?_push_size (hp.push { cls := .type "list_iterator", data := .fields #[.ref l1, .int 0 0] }) (o := { cls := .type "tuple_iterator", data := .fields #[.ref l2, .int 0 0] }) rfl
      simp only [Heap.size_push] at q ⊢
      exact Heap.get?_push_of_some _ (Heap.get?_push_of_some _ (Heap.get?_push_of_some _ q))
    · exact fun c o e => Heap.get?_push_of_some _ (Heap.get?_push_of_some _ (Heap.get?_push_of_some _ (Heap.get?_push_of_some _ (Heap.get?_push_of_some _ e))))
  refine callType_new F.called_zip (by decide) (F.typeCall_zip_2 _ _) (F.newCall_zip_2 _ _) (fun obj => F.args_object_init_3 obj _ _) F.entry_zip_new g ⟨hl1, hl2, ?_⟩
  rintro z h' rfl T k
  exact ⟨⟨_, T.hz, rfl⟩, h h' T k⟩
end
/-- a list and a tuple as they stand at each turn -/
def ItzM (K : PySem.W.Frag) (a b : Addr) : It :=
  ⟨fun i H => ∃ (xs ys : List V) (x y : V), SqL K H a xs ∧ SqT K H b ys ∧ xs[i]? = some x ∧ ys[i]? = some y,
    fun i H v H' => ∃ T x y, v = .ref T ∧ H T = none ∧ H' = upd H T (.tup [x, y]) ∧ (∀ xs, SqL K H a xs → xs[i]? = some x) ∧ ∀ ys, SqT K H b ys → ys[i]? = some y,
    fun i H => ∃ xs ys : List V, SqL K H a xs ∧ SqT K H b ys ∧ (xs.length ≤ i ∨ ys.length ≤ i)⟩
theorem five {z TI TO i1 i2 c : Addr} : c ∈ [z, TI, TO, i1, i2] ↔ c = z ∨ c = TI ∨ c = TO ∨ c = i1 ∨ c = i2 := by simp
theorem Two.lt {h : Heap} {z TI TO i1 i2 l1 l2 : Addr} {i : Nat} {f0 : Value} (T : Two h z TI TO i1 i2 l1 l2 i f0) : ∀ c ∈ [z, TI, TO, i1, i2], ∃ o, h.get? c = some o ∧ ∀ v, o.data ≠ .cell v := fun c m => by
  obtain ⟨hz, hTI, ⟨x, y, hTO⟩, ⟨o1, p1, _, d1⟩, ⟨o2, p2, _, d2⟩⟩ := T
  rcases five.mp m with rfl | rfl | rfl | rfl | rfl
  · exact ⟨_, hz, fun v q => nomatch q⟩
  · exact ⟨_, hTI, fun v q => nomatch q⟩
  · exact ⟨_, hTO, fun v q => nomatch q⟩
  · exact ⟨o1, p1, fun v q => by rw [d1] at q; cases q⟩
  · exact ⟨o2, p2, fun v q => by rw [d2] at q; cases q⟩
theorem turn_two {P : Program} {w : World} {K : PySem.W.Frag} {elts : List Expr} {kk : Nat} {tpos : Pos} {a b z TI TO i1 i2 : Addr} (D : ZipApart z TI TO i1 i2 a b) :
    Turn P w K (.Tuple elts kk tpos) (ItzM K a b) [z, TI, TO, i1, i2] z (fun i h => Two h z TI TO i1 i2 a b i .none) where
  mem := List.mem_cons_self
  obj := fun i h st c hc => st.lt c hc
  keep := fun i h h' st k => by
    obtain ⟨hz, hTI, ⟨x, y, hTO⟩, h1, h2⟩ := st
    exact ⟨k z (five.mpr (.inl rfl)) _ hz, k TI (five.mpr (.inr (.inl rfl))) _ hTI, ⟨x, y, k TO (five.mpr (.inr (.inr (.inl rfl)))) _ hTO⟩, h1.at fun o q => k i1 (five.mpr (.inr (.inr (.inr (.inl rfl))))) o q, h2.at fun o q => k i2 (five.mpr (.inr (.inr (.inr (.inr rfl))))) o q⟩
  item := by
    intro X hP hw hK hc i pins s σ H E I hf st hg
    subst hP hw hK
    obtain ⟨xs, ys, x, y, qx, qy, hx, hy⟩ := hg
    obtain ⟨its, rv, p, _⟩ := I.list qx
    obtain ⟨its2, rv2, p2, _⟩ := I.tuple qy
    obtain ⟨u, hu, ru⟩ := rv.get hx
    obtain ⟨u2, hu2, ru2⟩ := rv2.get hy
    have ltc : ∀ c ∈ [z, TI, TO, i1, i2], c < s.heap.objs.size := fun c m => by obtain ⟨o, e, _⟩ := st.lt c m; exact Heap.lt_size e
    have hzl := ltc z (five.mpr (.inl rfl))
    refine pyNext_two D st p.isList p2 (x := u) (y := u2) (by simpa using hu) (by simpa using hu2) fun h' T' hT hsz hk => ?_
    refine ⟨_, rfl, wpAny_letOwnedTupleGo_zip (s := { s with heap := h' }) T'.hz fun h'' z'' sb => ?_⟩
    have hT2 : h''.get? s.heap.objs.size = some { cls := .type "tuple", data := .seq #[u, u2] } := (sb.2 _ (Nat.ne_of_gt hzl)).trans hT
    have keepAll : ∀ c o, c ∉ [z, TI, TO, i1, i2] → s.heap.get? c = some o → h''.get? c = some o := fun c o n q => by
      rw [five] at n
      simp only [not_or] at n
      exact (sb.2 c n.1).trans (hk c o n.1 n.2.2.1 n.2.2.2.1 n.2.2.2.2 q)
    have new : ObjOk X.prog X.w (upd H s.heap.objs.size (.tup [x, y])) h'' s.heap.objs.size (.tup [x, y]) :=
      ⟨by show 2 ≤ sizeLine; decide, [u, u2], .cons ru (.cons ru2 .nil), ⟨_, hT2, rfl, _, rfl⟩⟩
    have I1 : Inv X pins σ (upd H s.heap.objs.size (.tup [x, y])) { s with heap := h'' } := I.turnedNew (t' := s.toks) (ch := [z, TI, TO, i1, i2]) keepAll hf (Nat.le_refl _) new
    obtain ⟨a1, a2, ⟨x', y', a3⟩, a4, a5⟩ := T'
    refine ⟨.ref s.heap.objs.size, _, I1, rfl, ⟨_, x, y, rfl, I.hok.fresh (Nat.le_refl _), rfl, fun l hl => by rw [I.list_inj hl qx]; exact hx, fun l hl => by rw [I.tuple_inj hl qy]; exact hy⟩,
      ⟨z'', (sb.2 _ D.TIz).trans a2, ⟨x', y', (sb.2 _ D.TOz).trans a3⟩, a4.at fun o q => (sb.2 _ D.i1z).trans q, a5.at fun o q => (sb.2 _ D.i2z).trans q⟩, fun c m => ?_⟩
    rw [upd_ne (Nat.ne_of_lt (ltc c m))]
    exact (hf c m).1
  done := by
    intro X hP hw hK hc i pins s σ H E I hf st hg
    subst hP hw hK
    obtain ⟨xs, ys, qx, qy, hend⟩ := hg
    obtain ⟨its, rv, p, _⟩ := I.list qx
    obtain ⟨its2, rv2, p2, _⟩ := I.tuple qy
    have l1 := rv.length
    have l2 := rv2.length
    have ho : its.toArray[i]? = none ∨ its2.toArray[i]? = none := hend.imp (fun q => by simp; omega) (fun q => by simp; omega)
    refine pyNext_out (I.ok.hd hc) D st p.isList p2 ho fun h' hk => ⟨rfl, I.turnedL (t' := s.toks) (ch := [z, TI, TO, i1, i2]) (fun c o n q => ?_) hf⟩
    rw [five] at n
    simp only [not_or] at n
    exact hk c o n.1 n.2.2.1 n.2.2.2.1 n.2.2.2.2 q
  self := fun A i s Q E st h => wpAny_pyIter_zip st.hz h
def iZipM (K : PySem.W.Frag) (ta : TA) : TI := fun σ H R => ta σ H fun vs H1 => ∃ a b xs ys, vs = [.ref a, .ref b] ∧ SqL K H1 a xs ∧ SqT K H1 b ys ∧ R (ItzM K a b) H1
theorem pi_zipM {X : Cx} {e e2 : Expr} {ta : TA} {p pos tpos : Pos} {elts : List Expr} {kk : Nat} (hg : Gl X "zip") (hm : X.mg "zip" = none) (ha : PA X [e, e2] ta)
    (hs : starEach [e, e2] X.env = (false, eval e X.env) :: starEach [e2] X.env := by rfl) (hpl : (backTo pos (starEach [e2] X.env)).any (·.1) = false := by rfl) :
    PI X (.Tuple elts kk tpos) (.Call (.Name "zip" p) [e, e2] [] pos) (iZipM X.K ta) := by
  refine ⟨fun pins s σ H R I h => ?_⟩
  refine Call_ (ld_blt I hg hm PyProof.Rows.boot_zip (PyProof.Rows.callWith_type1 (thn (ha.run pos pins s σ H _ I h) fun us s1 ⟨vs, H1, I1, r1, q1⟩ => ?_) hs hpl))
  obtain ⟨a, b, xs, ys, rfl, qx, qy, q⟩ := q1
  obtain ⟨its, rv, p1, _⟩ := I1.list qx
  obtain ⟨its2, rv2, p2, _⟩ := I1.tuple qy
  obtain ⟨o2, ho2, _⟩ := id p2
  cases r1 with
  | cons r rr =>
    cases rr with
    | cons r' rr =>
      cases rr
      cases r
      cases r'
      refine new_two p1.isList p2 fun h' T hk => wpAny_pyIter_zip T.hz ?_
      have I2 : Inv X pins σ H1 { s1 with heap := h' } := I1.kept (t' := s1.toks) hk
      refine ⟨s1.heap.objs.size + 4, [s1.heap.objs.size + 4, s1.heap.objs.size + 2, s1.heap.objs.size + 3, s1.heap.objs.size, s1.heap.objs.size + 1], _, _, H1, rfl, I2, turn_two (PySem.W.ktu_apart s1.heap.objs.size a b p1.lt (Heap.lt_size ho2)), T, fun c m => ?_, q⟩
      have hle : s1.heap.objs.size ≤ c := by
        rcases five.mp m with rfl | rfl | rfl | rfl | rfl
        · exact Nat.le_add_right _ _
        · exact Nat.le_add_right _ _
        · exact Nat.le_add_right _ _
        · exact Nat.le_refl _
        · exact Nat.le_add_right _ _
      exact I1.fpOk hle (I1.hok.fresh hle)
end ZM
namespace DL
open PySem PySem.Spec PyProof.Rows L2
open Evl (Ex)
open ZM (ItzM iZipM pi_zipM)
section
variable {K : PySem.W.Frag} {B : Hp} {a b : Addr} {ds es : List D}
theorem itzM_ok (h : Dt K B (.ref a) (.lst ds)) (h' : TupD K B b es) : ItOk K B (ItzM K a b) (pairs ds es) := by
  obtain ⟨ys, h', t'⟩ := h'
  cases h with
  | lst h t =>
    rename_i xs
    refine fun i H' e => ⟨fun d hd => ?_, fun hl => ⟨xs, ys, SqL.of (e _ _ h), Evl.ex_t e h', ?_⟩⟩
    · obtain ⟨dx, dy, g1, g2, rfl⟩ := pairs_at hd
      obtain ⟨x, h1, h2⟩ := t.get g1
      obtain ⟨y, h3, h4⟩ := t'.get g2
      refine ⟨⟨xs, ys, x, y, SqL.of (e _ _ h), Evl.ex_t e h', h1, h3⟩, fun z H'' q => ?_⟩
      obtain ⟨T, x', y', rfl, nT, rfl, f1, f2⟩ := q
      have q1 := f1 xs (SqL.of (e _ _ h)); rw [h1] at q1; cases q1
      have q2 := f2 ys (Evl.ex_t e h'); rw [h3] at q2; cases q2
      exact ⟨Evl.Ex.new nT, fun B2 e2 e3 => pair_dt h2 h4 e2 e3⟩
    · rw [t.len, t'.len]
      unfold pairs at hl
      rw [List.length_map, List.length_zip] at hl
      omega
end
section
variable {X : Cx} {e e2 : Expr} {ms : MA} {p pos : Pos}
/-- zip of a list and a tuple -/
def mZipM (ms : MA) : MI := fun ρ => match ms ρ with
  | some rs => match rs.map R.data with
    | [.lst ds, .tup es] => some (rs.all R.fixed, pairs ds es)
    | _ => none
  | none => none
theorem xi_zipM {tpos : Pos} {elts : List Expr} {kk : Nat} (hg : Gl X "zip") (hm : X.mg "zip" = none) (ha : XA X [e, e2] ms)
    (hs : starEach [e, e2] X.env = (false, eval e X.env) :: starEach [e2] X.env := by rfl) (hpl : (backTo pos (starEach [e2] X.env)).any (·.1) = false := by rfl) : XI X (.Tuple elts kk tpos) (.Call (.Name "zip" p) [e, e2] [] pos) (mZipM ms) := by
  obtain ⟨t, pa, s⟩ := ha
  refine ⟨_, pi_zipM hg hm pa hs hpl, fun G H σ ρ fp fx items Q R hm q => ?_⟩
  unfold mZipM at hm
  split at hm
  · rename_i rs e1
    refine s G H σ ρ fp rs _ R e1 fun vs F H1 x1 o1 => ?_
    have d := o1.data
    have w := o1.wall R.ls x1
    split at hm
    · rename_i ds es e2; cases hm; rw [e2] at d w
      cases d with
      | cons h t => cases t with
        | cons h2 t =>
          cases t
          cases w with
          | cons w1 t => cases t with
            | cons w2 t =>
              cases t
              cases h with
              | lst h0 _ => cases h2 with
                | tup h0' _ => exact ⟨_, _, _, _, rfl, SqL.of h0, .inl (.inl h0'), q _ H1 x1 (itzM_ok w1 (tupD w2))⟩
    · cases hm
  · cases hm
end
end DL

set_option Elab.async false
set_option linter.all false
set_option maxRecDepth 100000
set_option maxHeartbeats 4000000
/-! Defs that call themselves. -/
namespace DL
open PySem PySem.Spec PyProof.Rows L2
open Evl (Ex)
/-- no promise -/
theorem fnD0 {P : Program} {w : World} {K : PySem.W.Frag} {mg : Str → Option Value} {base : Heap} {CX : CXT} {k n : Nat} {f : Addr} {fd : FuncData} {ps : List Str} : FnOk P w K mg base CX k f fd ps (spD K n fun _ => none) :=
  ⟨fun _ _ _ _ ⟨_, _, _, _, h, _⟩ => (nomatch h), fun _ _ _ _ _ _ _ _ _ _ _ _ _ ⟨_, _, _, _, h, _⟩ => (nomatch h)⟩
end DL

set_option Elab.async false
set_option linter.all false
set_option maxRecDepth 100000
set_option maxHeartbeats 4000000
/-! x = y where y is not asked again; extend by an owned list; the order of tables. -/
namespace DL
open PySem PySem.Spec PyProof.Rows L2
open Evl (Ex)
/-! ### x = y, y hands on what it owns -/
theorem SlOk.mono2 {K : PySem.W.Frag} {Hh Hh' H H' : Hp} (e : Ex Hh Hh') (e1 : Ex H H') {x : Option (Option V)} {F : List Addr} {s : Sl} (h : SlOk K Hh H x F s) : SlOk K Hh' H' x F s := by
  cases s with
  | dead => exact h
  | ad a => exact h
  | dc m => obtain ⟨a, q1, q2, q3⟩ := h; exact ⟨a, q1, q2, e1 _ _ q3⟩
  | sh x => obtain ⟨q0, v, q1, q2⟩ := h; exact ⟨q0, v, q1, q2.mono e⟩
  | fz w x => obtain ⟨q0, q1, q2⟩ := h; exact ⟨q0, q1, q2.mono e⟩
  | vw x => obtain ⟨q0, v, q1, q2⟩ := h; exact ⟨q0, v, q1, q2.mono e1⟩
  | tr s => obtain ⟨v, q1, q2⟩ := h; exact ⟨v, q1, q2.mono e1⟩
  | ow a s => exact ⟨h.1, h.2.mono e1⟩
theorem hid_any {H : Hp} {fp fp' : Nat → List Addr} (h : ∀ i a, a ∈ fp' i → ∃ j, a ∈ fp j) : Ex (hid H fp) (hid H fp') := fun a o e => by
  obtain ⟨n, e⟩ := hid_some e
  rw [hid_at fun i m => by obtain ⟨j, mj⟩ := h i a m; exact n j mj]; exact e
theorem RelF.move {K : PySem.W.Frag} {G H : Hp} {σ : L2.St} {ρ : Env} {fp : Nat → List Addr} {i j : Nat} {s : S} {v : V} (R : RelF K G H σ ρ fp) (hij : i ≠ j) (hs : ρ[j]? = some (.tr s)) (hv : σ[j]? = some (some v)) :
    RelF K G H (σ.set i (some v)) ((ρ.set j .dead).set i (.tr s)) (fset (fset fp j []) i (fp j)) := by
  have hfp : ∀ k a, a ∈ fset (fset fp j []) i (fp j) k → (k = i ∧ a ∈ fp j) ∨ (k ≠ i ∧ k ≠ j ∧ a ∈ fp k) := fun k a m => by
    by_cases hk : k = i
    · subst hk; rw [fset_self] at m; exact .inl ⟨rfl, m⟩
    · rw [fset_ne hk] at m
      by_cases hj : k = j
      · subst hj; rw [fset_self] at m; cases m
      · rw [fset_ne hj] at m; exact .inr ⟨hk, hj, m⟩
  have hsub : ∀ k a, a ∈ fset (fset fp j []) i (fp j) k → ∃ k', a ∈ fp k' := fun k a m => (hfp k a m).elim (fun h => ⟨j, h.2⟩) fun h => ⟨k, h.2.2⟩
  refine ⟨by simpa using R.len, R.ex, fun k l a m1 m2 => ?_, fun k a m => ?_, fun k a m => ?_, fun k t h => ?_⟩
  · rcases hfp k a m1 with ⟨h1, q1⟩ | ⟨h1, h2, q1⟩
    · rcases hfp l a m2 with ⟨h3, q2⟩ | ⟨h3, h4, q2⟩
      · rw [h1, h3]
      · exact (h4 (R.dj l j a q2 q1)).elim
    · rcases hfp l a m2 with ⟨h3, q2⟩ | ⟨h3, h4, q2⟩
      · exact (h2 (R.dj k j a q1 q2)).elim
      · exact R.dj k l a q1 q2
  · obtain ⟨k', mk⟩ := hsub k a m; exact R.new k' a mk
  · obtain ⟨k', mk⟩ := hsub k a m; exact R.ls k' a mk
  · by_cases hk : k = i
    · subst hk
      have hl : k < ρ.length := by
        have := (List.getElem?_eq_some_iff.mp h).1
        simpa using this
      have hl2 : k < σ.length := by rw [R.len]; exact hl
      rw [List.getElem?_set_self (by simpa using hl)] at h
      cases h
      rw [fset_self, List.getElem?_set_self hl2]
      obtain ⟨v', h1, h2⟩ := R.sl j _ hs
      rw [hv] at h1; cases h1
      exact ⟨v, rfl, h2⟩
    · rw [List.getElem?_set_ne (Ne.symm hk)] at h
      rw [fset_ne hk, List.getElem?_set_ne (Ne.symm hk)]
      by_cases hj : k = j
      · subst hj
        have hl : k < ρ.length := by
          have := (List.getElem?_eq_some_iff.mp h).1
          simpa using this
        rw [List.getElem?_set_self hl] at h
        cases h
        rw [fset_self]; rfl
      · rw [List.getElem?_set_ne (Ne.symm hj)] at h
        rw [fset_ne hj]
        exact SlOk.mono2 (hid_any hsub) (Evl.Ex.refl H) (R.sl k t h)
section
variable {X : Cx} {W : XK} {o e : Expr} {ma me : ME} {mp : MP} {pos apos cpos : Pos} {x y : Str}
def mMov (i j : Nat) : MS := fun ρ => match ρ[j]? with
  | some (.tr s) => if i = j then none else some (.nx ((ρ.set j .dead).set i (.tr s)))
  | _ => mSet i (mVar j) ρ
theorem xs_move {i : Nat} (j : Nat) {pos' p : Pos} (hN : X.N.Nodup) (hi : X.N[i]? = some x) (hx : Loc X.env.scope x) (hNj : X.N[j]? = some y := by rfl) (hv : Vis X.env.scope y := by first | exact Or.inl rfl | exact Or.inr (Or.inl rfl) | exact Or.inr (Or.inr rfl)) (hd : (y == ("__debug__" : Str)) = false := by decide)
    (hcd : (y == ("__classdict__" : Str)) = false := by decide) (hs : swapsWith (.Name y p) (some (.Name x pos')) pos.line X.env = pure false := by rfl) (hf : X.fn x = true ∨ X.env.scope.names.lookup x = some .local := by first | exact .inl rfl | exact .inr rfl | assumption) :
    XS X W (.Assign [.Name x pos'] (.Name y p) pos) (mMov i j) := by
  refine ⟨_, ps_set hN hi hx (pe_var hNj hv hd hcd) hs hf, fun G H σ ρ fp o D R hm q => ?_⟩
  unfold mMov at hm
  split at hm
  · rename_i s h0
    split at hm
    · cases hm
    · rename_i hij
      cases hm
      obtain ⟨v, h1, h2⟩ := R.sl j _ h0
      exact ⟨v, h1, q _ H _ (R.move hij h0 h1)⟩
  · exact sim_set (sim_var j) G H σ ρ fp o D R hm q
/-! ### xs.extend(ys), ys owned: its items go over -/
def mExtendO (mp : MP) (me : ME) : MS := fun ρ => match mp ρ, me ρ with
  | some (i, p), some (.tr (.own ts)) => match ρ[i]? with
    | some (.tr s) => match S.get p s with
      | some (.own ss) => if ss.length + ts.length ≤ 100000 then some (.nx ((killVw ρ).set i (.tr (S.put (.own (ss ++ ts)) p s)))) else none
      | _ => none
    | _ => none
  | _, _ => none
theorem xs_extendO (ho : XP X o mp) (he : XE X e ma)
    (hbase : attributeBase o "extend" X.env (eval o X.env) = eval o X.env := by rfl)
    (hfew : ((backTo cpos (starEach (e :: []) X.env)).all (fun x => !x.1) && (backToKw cpos (keywordEach [] X.env)).all (fun x => x.1.isSome)
      && decide ((e :: ([] : List Expr)).length + ([] : List Keyword).length + (if ([] : List Keyword).isEmpty then 0 else 1) < 30)) = true := by rfl)
    (hline : (apos.endLine == cpos.line) = true := by rfl) (hs : starEach (e :: []) X.env = (false, eval e X.env) :: starEach [] X.env := by rfl) (hplain : (backTo cpos (starEach [] X.env)).any (·.1) = false := by rfl)
    (hsw : swapsWith (.Call (.Attribute o "extend" apos) [e] [] cpos) none pos.line X.env = pure false := by rfl) : XS X W (.Expr (.Call (.Attribute o "extend" apos) [e] [] cpos) pos) (mExtendO mp ma) := by
  obtain ⟨to, po, so⟩ := ho
  obtain ⟨te, pe, se⟩ := he
  refine ⟨_, ps_expr (pe_bm PySem.F.plainAttrs_list PySem.F.slot_list_extend PySem.F.type_list_extend mt_extend po (pa_cons pe pa_nil hs) hbase hfew hline hs hplain) hsw, fun G H σ ρ fp oo D R hm q => ?_⟩
  unfold mExtendO at hm
  split at hm
  rotate_left
  · cases hm
  rename_i i p ts e1 e2
  split at hm
  rotate_left
  · cases hm
  rename_i s e3
  split at hm
  rotate_left
  · cases hm
  rename_i ss e5
  split at hm
  rotate_left
  · cases hm
  rename_i hl
  cases hm
  refine so G H σ ρ fp i p _ R e1 fun v a H1 s' ss' g1 g2 g3 x1 at1 => ?_
  rw [e3] at g1; cases g1
  have R1 := R.grow x1
  obtain ⟨v', h1, h2⟩ := R1.sl i _ e3
  rw [g3] at h1; cases h1
  obtain ⟨vs1, Fa1, ha1, hL1, _⟩ := h2.mut at1 e5
  refine ⟨.inl ⟨rfl, _, SqL.of ha1⟩, ?_⟩
  refine se G H1 σ ρ fp _ _ R1 e2 fun w F H2 x2 o2 => ?_
  obtain ⟨vs2, Fa2, ha2, hL2, hn2, hsub2, hai, hmut⟩ := R1.mutate x2 e3 g3 (at1.mono x2) e5
  obtain ⟨hr, hfr⟩ := o2
  cases hr with
  | @own b zs _ F0 hb hT hbn =>
    refine ⟨a, b, vs2, zs, rfl, rfl, ha2, hb, ?_, ?_⟩
    · rw [← hL2.len, ← hT.len]; exact Evl.sz_of hl
    · have es : Ex (stb H2) (stb (upd H2 a (.lst (vs2 ++ zs)))) := stb_upd ha2
      have fr0 : ∀ c ∈ F0, H1 c = none := fun c m => hfr c (List.mem_cons_of_mem _ m)
      have hdj : ∀ c, c ∈ Fa2 → c ∉ F0 := fun c m z => by
        obtain ⟨xs, hc⟩ := R1.ls i c (hsub2 c m)
        rw [fr0 c z] at hc; cases hc
      have haF : a ∉ F0 := fun z => by
        obtain ⟨xs, hc⟩ := R1.ls i a hai
        rw [fr0 a z] at hc; cases hc
      have r1 : RepL X.K (upd H2 a (.lst (vs2 ++ zs))) (ss ++ ts) (vs2 ++ zs) (Fa2 ++ F0) :=
        (hL2.keep ⟨es, fun c m u h => by rw [upd_ne (by rintro rfl; exact hn2 m)]; exact h⟩).append (hT.keep ⟨es, fun c m u h => by rw [upd_ne (by rintro rfl; exact haF m)]; exact h⟩) hdj
      obtain ⟨fp', R'⟩ := hmut _ _ _ r1 (fun z => by
        rcases List.mem_append.mp z with z | z
        · exact hn2 z
        · exact haF z) (fun c m => by
        rcases List.mem_append.mp m with m | m
        · exact .inl m
        · exact .inr (fr0 c m))
      exact q _ _ fp' R'
end
/-! ### the order of tables -/
def rLtD (K : PySem.W.Frag) : R2 := fun x y H Q => ∃ d e, Dp K H x d ∧ Dp K H y e ∧ PySem.W.alike d e = true ∧ d ≠ .none ∧ min d.depth e.depth ≤ 64 ∧ Q (.bl (PySem.W.dataLt d e)) H
theorem op_ltD {X : Cx} (hu : X.A.units + 64 < cLine) : OpR X (compareOp .Lt) (rLtD X.K) := by
  intro pins s σ H x y v u Q I rx ry h
  obtain ⟨d, e, hd, he, al, nn, hdep, q⟩ := h
  obtain ⟨as, r1⟩ := Dp.reads I d x v hd rx
  obtain ⟨bs, r2⟩ := Dp.reads I e y u he ry
  exact PySem.W.lt_data r1 r2 al nn (by omega) ⟨.bl _, H, I, rfl, q⟩
def tabs? : List D → Option (List (List Int))
  | [] => some []
  | .lst r :: ds => match ints? r, tabs? ds with
    | some ns, some t => some (ns :: t)
    | _, _ => none
  | _ => none
theorem tabs?_some : ∀ {ds : List D} {t : List (List Int)}, tabs? ds = some t → ds = t.map dRow
  | [], _, h => by cases h; rfl
  | .lst r :: ds, t, h => by
    unfold tabs? at h
    split at h
    · rename_i ns u e1 e2; cases h
      rw [ints?_some e1, tabs?_some e2]; rfl
    · cases h
  | .non :: _, _, h => by simp [tabs?] at h
  | .bl _ :: _, _, h => by simp [tabs?] at h
  | .int _ :: _, _, h => by simp [tabs?] at h
  | .str _ :: _, _, h => by simp [tabs?] at h
  | .tup _ :: _, _, h => by simp [tabs?] at h
  | .scr _ :: _, _, h => by simp [tabs?] at h
@[simp] theorem tabs?_map (t : List (List Int)) : tabs? (t.map dRow) = some t := by
  induction t with
  | nil => rfl
  | cons r t ih =>
    have e : ints? (r.map D.int) = some r := ints?_map r
    show (match ints? (r.map D.int), tabs? (t.map dRow) with
      | some ns, some t => some (ns :: t)
      | _, _ => none) = _
    rw [e, ih]
/-- of two tables -/
def tabLt (t u : List (List Int)) : Bool := PySem.W.DatumOrd.lt t u
theorem pyL_map {α : Type} (f : α → D) : ∀ xs : List α, D.pyL (xs.map f) = xs.map fun x => (f x).py
  | [] => rfl
  | x :: xs => by simp [D.pyL, pyL_map f xs]
theorem dTab_py (t : List (List Int)) : (dTab t).py = PySem.W.Datum.toD t := by
  show PyData.list (D.pyL (t.map dRow)) = PyData.list (t.map fun r => PyData.list (r.map PyData.int))
  rw [pyL_map]
  congr 1
  apply List.map_congr_left
  intro r _
  show PyData.list (D.pyL (r.map D.int)) = _
  rw [pyL_map]; rfl
def gLtT : D → D → Option D
  | .int i, .int j => some (.bl (decide (i < j)))
  | .lst xs, .lst ys => match tabs? xs, tabs? ys with
    | some t, some u => some (.bl (tabLt t u))
    | _, _ => none
  | _, _ => none
def fLtT := flat2 gLtT
theorem tab_deep (t : List (List Int)) : (dTab t).py.depth ≤ 2 := (flt_py 2 (dTab t) (flt_tab t)).2
theorem rLtD_tab {K : PySem.W.Frag} {H : Hp} {x y : V} {t u : List (List Int)} {Q : VK} (hx : Dt K H x (dTab t)) (hy : Dt K H y (dTab u)) (q : Q (.bl (tabLt t u)) H) : rLtD K x y H Q := by
  refine ⟨_, _, hx.dp, hy.dp, ?_, ?_, Nat.le_trans (Nat.min_le_left _ _) (Nat.le_trans (tab_deep t) (by decide)), ?_⟩
  · rw [dTab_py, dTab_py]; exact PySem.W.DatumOrd.alike t u
  · rw [dTab_py]; exact PySem.W.DatumOrd.notNone t
  · rw [dTab_py, dTab_py, PySem.W.DatumOrd.lt_eq]; exact q
theorem op2_ltT {K : PySem.W.Frag} : Op2 K (fun x y H Q => rI0 (fun i j => .bl (decide (i < j))) x y H Q ∨ rLtD K x y H Q) fLtT := .flat fun H x dx y dy z Q hx hy hz q => by
  unfold gLtT at hz
  split at hz
  · cases hz; cases hx; cases hy; exact .inl ⟨_, _, rfl, rfl, q _ (.bl _)⟩
  · split at hz
    · rename_i t u e1 e2
      cases hz
      rw [tabs?_some e1] at hx
      rw [tabs?_some e2] at hy
      exact .inr (rLtD_tab hx hy (q _ (.bl _)))
    · cases hz
  · cases hz
end DL

set_option Elab.async false
set_option linter.all false
set_option maxRecDepth 100000
set_option maxHeartbeats 4000000
/-! min, max of two values by their data. -/
namespace ZMm
open PySem PySem.Spec PyProof.Rows PySem.W
section
variable {prog : Program} {w : World} {A : Around} {E : Value → Shared → Prop} {s : Shared} {a b : Value} {x y : PyData} {as bs : List Addr} {Q : Value → Shared → Prop}
theorem alike2 {x y : PyData} (h1 : alike x x = true) (h2 : alike y y = true) (h3 : alike x y = true) (h4 : alike y x = true) (n1 : x ≠ .none) (n2 : y ≠ .none) : AlikeAll [x, y] := by
  have two : ∀ z, z ∈ [x, y] → z = x ∨ z = y := fun z m => by simpa using m
  constructor
  · intro p hp q hq
    rcases two p hp with rfl | rfl <;> rcases two q hq with rfl | rfl <;> assumption
  · intro p hp
    rcases two p hp with rfl | rfl <;> assumption
theorem reads2 {h : Heap} (ra : Reads h a x as) (rb : Reads h b y bs) : ∃ cs, ReadsAll h (#[a, b] : Array Value).toList [x, y] cs := ⟨_, .cons ra (.cons rb .nil)⟩
theorem min2 (hh : A.handled = none) (ra : Reads s.heap a x as) (rb : Reads s.heap b y bs) (al : AlikeAll [x, y]) (hu : A.units + 1 + PyData.depthAll [x, y] < cLine)
    (h : ∀ h' tk, (∀ c o, s.heap.get? c = some o → h'.get? c = some o) → Q (if dataLt y x = true then b else a) { s with heap := h', toks := tk }) :
    wpAny (model prog w) A (call (.builtin "min") [a, b]) Q E s := by
  have loopName : (toString "min" ++ toString ".loop" : String) = "min.loop" := by decide
  refine call_function_tree F.kind_min F.plain_min F.entry_min (F.args_min2 _ _) ?_
  show wpAny _ A.in1 (Builtin.Builtins.bindParams "min" ["key", "default"] 0 ⟨[], []⟩ >>= _) _ _ s
  refine wpAny_bind (wpAny_of_eq (show Builtin.Builtins.bindParams "min" ["key", "default"] 0 ⟨[], []⟩ = pure [none, none] from rfl) ?_)
  show wpAny _ A.in1 (newTuple [a, b] >>= _) _ _ s
  refine wpAny_bind (wpAny_newObj_type ?_)
  let s1 : Shared := { s with heap := s.heap.push { cls := .type "tuple", data := .seq #[a, b] } }
  have k1 : ∀ c o, s.heap.get? c = some o → s1.heap.get? c = some o := fun c o e => Heap.get?_push_of_some _ e
  have tup : s1.heap.IsTuple s.heap.objs.size #[a, b] := ⟨_, Heap.get?_push_size _ rfl, rfl, 0, rfl⟩
  obtain ⟨cs, rall⟩ := reads2 (Reads.keeps k1 ra) (Reads.keeps k1 rb)
  refine wpAny_bind (iter_tupleW (A := A.in1) (s := s1) hh tup fun s2 e2 W st lt hw hk => ?_)
  refine wpAny_bind (wpAny_newObj_type ?_)
  have out : s2.heap.objs.size ∉ [s1.heap.objs.size, s.heap.objs.size] := fun m => Nat.lt_irrefl _ (lt _ m)
  rw [loopName]
  refine wpAny_pure ⟨plainId_quiet F.plain_min_loop _, ?_⟩
  refine codeAny_min_loop_firstH W s1.heap hw _ (cmpIn_lt (A := A.in1) rall al hu) s2.heap.objs.size out (fresh_in hk) _ (show 0 < 2 from Nat.succ_pos 1) (fun c o e => Heap.get?_push_of_some _ (hk c o e)) (W.frame 0 s2 _ s2.toks st (Nat.le_refl _) fun c _ o e => Heap.get?_push_of_some _ e) (Heap.get?_push_size _ rfl) fun v s' hP hm => ?_
  obtain ⟨h', tk, rfl, hk'⟩ := moved_old e2 rfl (Moved.drop_new (tk := s2.toks) hm (Nat.le_refl _))
  have hv : v = if dataLt y x = true then b else a := by
    have hP : (#[a, b] : Array Value)[argBest (fun i j => dataLt ([x, y].getD i .none) ([x, y].getD j .none)) 1]? = some v := hP
    cases hc : dataLt y x <;> simp [argBest, hc] at hP <;> simp [hP]
  rw [hv]
  exact h h' tk fun c o e => hk' c o (k1 c o e)
theorem max2 (hh : A.handled = none) (ra : Reads s.heap a x as) (rb : Reads s.heap b y bs) (al : AlikeAll [x, y]) (hu : A.units + 1 + PyData.depthAll [x, y] < cLine)
    (h : ∀ h' tk, (∀ c o, s.heap.get? c = some o → h'.get? c = some o) → Q (if dataLt x y = true then b else a) { s with heap := h', toks := tk }) :
    wpAny (model prog w) A (call (.builtin "max") [a, b]) Q E s := by
  have loopName : (toString "max" ++ toString ".loop" : String) = "max.loop" := by decide
  refine call_function_tree F.kind_max F.plain_max F.entry_max (F.args_max2 _ _) ?_
  show wpAny _ A.in1 (Builtin.Builtins.bindParams "max" ["key", "default"] 0 ⟨[], []⟩ >>= _) _ _ s
  refine wpAny_bind (wpAny_of_eq (show Builtin.Builtins.bindParams "max" ["key", "default"] 0 ⟨[], []⟩ = pure [none, none] from rfl) ?_)
  show wpAny _ A.in1 (newTuple [a, b] >>= _) _ _ s
  refine wpAny_bind (wpAny_newObj_type ?_)
  let s1 : Shared := { s with heap := s.heap.push { cls := .type "tuple", data := .seq #[a, b] } }
  have k1 : ∀ c o, s.heap.get? c = some o → s1.heap.get? c = some o := fun c o e => Heap.get?_push_of_some _ e
  have tup : s1.heap.IsTuple s.heap.objs.size #[a, b] := ⟨_, Heap.get?_push_size _ rfl, rfl, 0, rfl⟩
  obtain ⟨cs, rall⟩ := reads2 (Reads.keeps k1 ra) (Reads.keeps k1 rb)
  refine wpAny_bind (iter_tupleW (A := A.in1) (s := s1) hh tup fun s2 e2 W st lt hw hk => ?_)
  refine wpAny_bind (wpAny_newObj_type ?_)
  have out : s2.heap.objs.size ∉ [s1.heap.objs.size, s.heap.objs.size] := fun m => Nat.lt_irrefl _ (lt _ m)
  rw [loopName]
  refine wpAny_pure ⟨plainId_quiet F.plain_max_loop _, ?_⟩
  refine codeAny_max_loop_firstH W s1.heap hw _ (cmpIn_gt (A := A.in1) rall al hu) s2.heap.objs.size out (fresh_in hk) _ (show 0 < 2 from Nat.succ_pos 1) (fun c o e => Heap.get?_push_of_some _ (hk c o e)) (W.frame 0 s2 _ s2.toks st (Nat.le_refl _) fun c _ o e => Heap.get?_push_of_some _ e) (Heap.get?_push_size _ rfl) fun v s' hP hm => ?_
  obtain ⟨h', tk, rfl, hk'⟩ := moved_old e2 rfl (Moved.drop_new (tk := s2.toks) hm (Nat.le_refl _))
  have hv : v = if dataLt x y = true then b else a := by
    have hP : (#[a, b] : Array Value)[argBest (fun i j => dataLt ([x, y].getD j .none) ([x, y].getD i .none)) 1]? = some v := hP
    cases hc : dataLt x y <;> simp [argBest, hc] at hP <;> simp [hP]
  rw [hv]
  exact h h' tk fun c o e => hk' c o (k1 c o e)
end
end ZMm
namespace DL
open PySem PySem.Spec PyProof.Rows L2
open Evl (Ex)
/-- two tables, by their data -/
def rTab2 (K : PySem.W.Frag) (f : List (List Int) → List (List Int) → Bool) : List V → Hp → VK → Prop := fun xs H Q => ∃ x y t u, xs = [x, y] ∧ Dp K H x (dTab t).py ∧ Dp K H y (dTab u).py ∧ Q (if f t u = true then y else x) H
theorem tab_alike (t u : List (List Int)) : PySem.W.AlikeAll [(dTab t).py, (dTab u).py] := by
  rw [dTab_py, dTab_py]
  exact ZMm.alike2 (PySem.W.DatumOrd.alike t t) (PySem.W.DatumOrd.alike u u) (PySem.W.DatumOrd.alike t u) (PySem.W.DatumOrd.alike u t) (PySem.W.DatumOrd.notNone t) (PySem.W.DatumOrd.notNone u)
theorem tab_deep2 (t u : List (List Int)) : PyData.depthAll [(dTab t).py, (dTab u).py] ≤ 2 := by
  have h1 := tab_deep t
  have h2 := tab_deep u
  simp only [PyData.depthAll]
  omega
theorem call_minT {X : Cx} (hc : X.calm = true) (hu : X.A.units + 64 < cLine) : CallR X (.builtin "min") (rTab2 X.K fun t u => tabLt u t) := by
  intro pins s σ H xs us Q I r h
  obtain ⟨x, y, t, u, rfl, hx, hy, q⟩ := h
  cases r with
  | cons rx rr =>
    cases rr with
    | cons ry rr =>
      cases rr
      obtain ⟨as, r1⟩ := Dp.reads I _ _ _ hx rx
      obtain ⟨bs, r2⟩ := Dp.reads I _ _ _ hy ry
      have hd := tab_deep2 t u
      refine ZMm.min2 (I.ok.hd hc) r1 r2 (tab_alike t u) (by omega) fun h' tk k => ⟨_, H, I.kept k, ?_, q⟩
      have e : PySem.W.dataLt (dTab u).py (dTab t).py = tabLt u t := by rw [dTab_py, dTab_py]; exact PySem.W.DatumOrd.lt_eq u t
      rw [e]
      show RelV (if tabLt u t = true then y else x) _
      cases tabLt u t
      · exact rx
      · exact ry
theorem call_maxT {X : Cx} (hc : X.calm = true) (hu : X.A.units + 64 < cLine) : CallR X (.builtin "max") (rTab2 X.K fun t u => tabLt t u) := by
  intro pins s σ H xs us Q I r h
  obtain ⟨x, y, t, u, rfl, hx, hy, q⟩ := h
  cases r with
  | cons rx rr =>
    cases rr with
    | cons ry rr =>
      cases rr
      obtain ⟨as, r1⟩ := Dp.reads I _ _ _ hx rx
      obtain ⟨bs, r2⟩ := Dp.reads I _ _ _ hy ry
      have hd := tab_deep2 t u
      refine ZMm.max2 (I.ok.hd hc) r1 r2 (tab_alike t u) (by omega) fun h' tk k => ⟨_, H, I.kept k, ?_, q⟩
      have e : PySem.W.dataLt (dTab t).py (dTab u).py = tabLt t u := by rw [dTab_py, dTab_py]; exact PySem.W.DatumOrd.lt_eq t u
      rw [e]
      show RelV (if tabLt t u = true then y else x) _
      cases tabLt t u
      · exact rx
      · exact ry
def gBest (f : List (List Int) → List (List Int) → Bool) : List D → Option R
  | [.lst xs, .lst ys] => match tabs? xs, tabs? ys with
    | some t, some u => some (.vw (dTab (if f t u = true then u else t)))
    | _, _ => none
  | _ => none
theorem ok_best {K : PySem.W.Frag} {f : List (List Int) → List (List Int) → Bool} : CallOk K (rTab2 K f) (gBest f) := by
  intro H H1 fp vs ds z Q h ls ex hz q
  unfold gBest at hz
  split at hz
  · rename_i xs ys
    split at hz
    · rename_i t u e1 e2; cases hz
      rw [tabs?_some e1, tabs?_some e2] at h
      cases h with
      | cons h1 t1 =>
        cases t1 with
        | cons h2 t2 =>
          cases t2
          refine ⟨_, _, t, u, rfl, h1.dp, h2.dp, q _ [] H1 (Evl.Ex.refl H1) ⟨rfl, ?_⟩⟩
          cases f t u
          · exact h1
          · exact h2
    · cases hz
  · cases hz
def gMinT := gBest fun t u => tabLt u t
def gMaxT := gBest fun t u => tabLt t u
/-! a < b < c of tables -/
section
variable {X : Cx} {a b c : Expr} {ma mb mc : ME} {pos : Pos}
def mChT (ma mb mc : ME) : ME := fun ρ => match ma ρ, mb ρ with
  | some x, some y => match x.data, y.data with
    | .lst xs, .lst ys => match tabs? xs, tabs? ys with
      | some t, some u => if tabLt t u = true then (match mc ρ with
        | some z => match z.data with
          | .lst zs => match tabs? zs with
            | some v => some (.sh (.bl (tabLt u v)))
            | none => none
          | _ => none
        | none => none) else some (.sh (.bl false))
      | _, _ => none
    | _, _ => none
  | _, _ => none
theorem sim_chainT {K : PySem.W.Frag} {ta tb tc : TE} (sa : SimE K ta ma) (sb : SimE K tb mb) (sc : SimE K tc mc) : SimE K (tChain (rLtD K) (rLtD K) ta tb tc) (mChT ma mb mc) := by
  intro G H σ ρ fp r Q R hm q
  unfold mChT at hm
  split at hm
  rotate_left
  · cases hm
  rename_i x y e1 e2
  split at hm
  rotate_left
  · cases hm
  rename_i xs ys e3 e4
  split at hm
  rotate_left
  · cases hm
  rename_i t u e5 e6
  refine sa G H σ ρ fp x _ R e1 fun v F H1 x1 o1 => ?_
  have R1 := R.grow x1
  refine sb G H1 σ ρ fp y _ R1 e2 fun w F2 H2 x2 o2 => ?_
  have d1 := (o1.mono x2).data; rw [e3, tabs?_some e5] at d1
  have d2 := o2.data; rw [e4, tabs?_some e6] at d2
  refine rLtD_tab d1 d2 ⟨tabLt t u, rfl, ?_⟩
  by_cases hf : tabLt t u = true
  · rw [hf] at hm ⊢
    rw [if_pos rfl] at hm ⊢
    split at hm
    rotate_left
    · cases hm
    rename_i z e7
    split at hm
    rotate_left
    · cases hm
    rename_i zs e8
    split at hm
    rotate_left
    · cases hm
    rename_i v' e9
    cases hm
    refine sc G H2 σ ρ fp z _ (R1.grow x2) e7 fun p F3 H3 x3 o3 => ?_
    have d3 := o3.data; rw [e8, tabs?_some e9] at d3
    exact rLtD_tab (d2.mono x3) d3 (q _ [] H3 ((x1.trans x2).trans x3) (Fl.bl _).rok)
  · rw [if_neg hf] at hm ⊢
    cases hm
    exact q _ [] H2 (x1.trans x2) (Fl.bl _).rok
theorem x_chainT (hu : X.A.units + 64 < cLine) (ha : XE X a ma) (hb : XE X b mb) (hc : XE X c mc) (hm : lastMarks [.Lt, .Lt] [b, c] = false := by with_unfolding_all rfl) : XE X (.Compare a [.Lt, .Lt] [b, c] pos) (mChT ma mb mc) := by
  obtain ⟨ta, p, s⟩ := ha
  obtain ⟨tb, p2, s2⟩ := hb
  obtain ⟨tc, p3, s3⟩ := hc
  exact ⟨_, pe_chain (op_ltD hu) (op_ltD hu) p p2 p3 hm, sim_chainT s s2 s3⟩
theorem xt_chainT (hu : X.A.units + 64 < cLine) (ha : XE X a ma) (hb : XE X b mb) (hc : XE X c mc) (hm : lastMarks [.Lt, .Lt] [b, c] = false := by with_unfolding_all rfl) : XT X (.Compare a [.Lt, .Lt] [b, c] pos) (mTst (mChT ma mb mc)) := by
  obtain ⟨ta, p, s⟩ := ha
  obtain ⟨tb, p2, s2⟩ := hb
  obtain ⟨tc, p3, s3⟩ := hc
  exact ⟨_, pt_chain (op_ltD hu) (op_ltD hu) p p2 p3 hm, sim_tst (sim_chainT s s2 s3)⟩
end
end DL

set_option Elab.async false
set_option linter.all false
set_option maxRecDepth 100000
set_option maxHeartbeats 4000000
/-! x in NAME, a module's tuple of texts. -/
namespace DL
open PySem PySem.Spec PyProof.Rows L2
open Evl (Ex)
section
variable {X : Cx} {a : Expr} {ma : ME} {x : Str} {p pos : Pos}
theorem flV_flat {d : D} {v : V} (h : flV d = some v) : flatV v = true := by
  unfold flV at h
  split at h <;> cases h <;> rfl
def mInK (zs : List Str) (ma : ME) : ME := fun ρ => match ma ρ with
  | some r => match flV r.data with
    | some v => some (.sh (.bl (inV v (zs.map V.str))))
    | none => none
  | none => none
theorem strs_flat (zs : List Str) : (zs.map V.str).all flatV = true := by
  rw [List.all_eq_true]
  intro v m
  obtain ⟨z, _, rfl⟩ := List.mem_map.mp m
  rfl
theorem x_inK {t : Addr} {zs : List Str} (hg : Gl X x) (hm : X.mg x = some (.ref t)) (hs : ∀ H, SqT X.K H t (zs.map V.str)) (ha : XE X a ma) (hd : (x == ("__debug__" : Str)) = false := by decide) (hb : behindInMarks .In (.Name x p) = false := by rfl) :
    XE X (.Compare a [.In] [.Name x p] pos) (mInK zs ma) := by
  obtain ⟨ta, pa, sa⟩ := ha
  refine ⟨_, pe_cmpR op_in_seq pa (pe_glob (v := .ref t) hg hm rfl hd) hb, fun G H σ ρ fp r Q R hmm q => ?_⟩
  unfold mInK at hmm
  split at hmm
  · rename_i r0 e1
    split at hmm
    · rename_i v e2; cases hmm
      refine sa G H σ ρ fp r0 _ R e1 fun w F H1 x1 o1 => ?_
      have := flV_ok o1.data e2; subst this
      exact ⟨t, _, rfl, .inr (hs H1), flV_flat e2, strs_flat zs, q _ [] H1 x1 (Fl.bl _).rok⟩
    · cases hmm
  · cases hmm
end
end DL

set_option Elab.async false
set_option linter.all false
set_option maxRecDepth 100000
set_option maxHeartbeats 4000000
/-! A list handed to a def that changes it. -/
namespace DL
open PySem PySem.Spec PyProof.Rows L2
open Evl (Ex)
section
variable {K : PySem.W.Frag} {G H : Hp} {σ : L2.St} {ρ : Env} {fp : Nat → List Addr} {i : Nat} {a : Addr} {s : S}
theorem RelF.toTr (R : RelF K G H σ ρ fp) (hs : ρ[i]? = some (.ow a s)) : RelF K G H σ (ρ.set i (.tr s)) fp where
  len := by simpa using R.len
  ex := R.ex
  dj := R.dj
  new := R.new
  ls := R.ls
  sl := fun j t h => by
    have hl : i < ρ.length := (List.getElem?_eq_some_iff.mp hs).1
    by_cases hj : j = i
    · subst hj
      rw [List.getElem?_set_self hl] at h; cases h
      have q := R.sl j _ hs
      exact ⟨_, q.1, q.2⟩
    · rw [List.getElem?_set_ne (Ne.symm hj)] at h
      exact R.sl j t h
theorem RelF.toOw (R : RelF K G H σ ρ fp) (hs : ρ[i]? = some (.tr s)) (hv : σ[i]? = some (some (.ref a))) : RelF K G H σ (ρ.set i (.ow a s)) fp where
  len := by simpa using R.len
  ex := R.ex
  dj := R.dj
  new := R.new
  ls := R.ls
  sl := fun j t h => by
    have hl : i < ρ.length := (List.getElem?_eq_some_iff.mp hs).1
    by_cases hj : j = i
    · subst hj
      rw [List.getElem?_set_self hl] at h; cases h
      obtain ⟨v, q1, q2⟩ := R.sl j _ hs
      rw [hv] at q1; cases q1
      exact ⟨hv, q2⟩
    · rw [List.getElem?_set_ne (Ne.symm hj)] at h
      exact R.sl j t h
end
/-- a change: the names keep what they hold -/
def SimF (K : PySem.W.Frag) (t : TS) (m : MS) : Prop := ∀ G H σ ρ fp ρ' D, RelF K G H σ ρ fp → m ρ = some (.nx ρ') → (∀ H' fp', RelF K G H' σ ρ' fp' → D.nx σ H') → t D σ H
structure XF (X : Cx) (st : Stmt) (m : MS) : Prop where
  sim : ∃ t, PS X st t ∧ SimF X.K t m
def mOw (i : Nat) (m : MS) : MS := fun ρ => match ρ[i]? with
  | some (.ow a s) => match m (ρ.set i (.tr s)) with
    | some (.nx ρ') => match ρ'[i]? with
      | some (.tr s') => some (.nx (ρ'.set i (.ow a s')))
      | _ => none
    | _ => none
  | _ => none
section
variable {X : Cx} {W : XK} {st : Stmt} {m : MS} {o e b : Expr} {ma mb : ME} {mp : MP} {pos apos cpos : Pos}
theorem xs_ow (i : Nat) (h : XF X st m) : XS X W st (mOw i m) := by
  obtain ⟨t, p, s⟩ := h
  refine ⟨_, p, fun G H σ ρ fp oo D R hm q => ?_⟩
  unfold mOw at hm
  split at hm
  rotate_left
  · cases hm
  rename_i a u e1
  split at hm
  rotate_left
  · cases hm
  rename_i ρ' e2
  split at hm
  rotate_left
  · cases hm
  rename_i s' e3
  cases hm
  exact s G H σ _ fp ρ' D (R.toTr e1) e2 fun H' fp' R' => q σ H' fp' (R'.toOw e3 (R.sl i _ e1).1)
theorem xs_keep (h : XF X st m) (hn : ∀ ρ o, m ρ = some o → ∃ ρ', o = .nx ρ') : XS X W st m := by
  obtain ⟨t, p, s⟩ := h
  refine ⟨_, p, fun G H σ ρ fp oo D R hm q => ?_⟩
  obtain ⟨ρ', rfl⟩ := hn ρ oo hm
  exact s G H σ ρ fp ρ' D R hm fun H' fp' R' => q σ H' fp' R'
theorem xf_append (ho : XP X o mp) (he : XE X e ma)
    (hbase : attributeBase o "append" X.env (eval o X.env) = eval o X.env := by rfl)
    (hfew : ((backTo cpos (starEach (e :: []) X.env)).all (fun x => !x.1) && (backToKw cpos (keywordEach [] X.env)).all (fun x => x.1.isSome)
      && decide ((e :: ([] : List Expr)).length + ([] : List Keyword).length + (if ([] : List Keyword).isEmpty then 0 else 1) < 30)) = true := by rfl)
    (hline : (apos.endLine == cpos.line) = true := by rfl) (hs : starEach (e :: []) X.env = (false, eval e X.env) :: starEach [] X.env := by rfl) (hplain : (backTo cpos (starEach [] X.env)).any (·.1) = false := by rfl)
    (hsw : swapsWith (.Call (.Attribute o "append" apos) [e] [] cpos) none pos.line X.env = pure false := by rfl) : XF X (.Expr (.Call (.Attribute o "append" apos) [e] [] cpos) pos) (mAppend mp ma) := by
  obtain ⟨to, po, so⟩ := ho
  obtain ⟨te, pe, se⟩ := he
  refine ⟨_, ps_expr (pe_bm PySem.F.plainAttrs_list PySem.F.slot_list_append PySem.F.type_list_append mt_append po (pa_cons pe pa_nil hs) hbase hfew hline hs hplain) hsw, fun G H σ ρ fp ρ2 D R hm q => ?_⟩
  unfold mAppend at hm
  split at hm
  rotate_left
  · cases hm
  rename_i i p r e1 e2
  split at hm
  rotate_left
  · cases hm
  rename_i s t e3 e4
  split at hm
  rotate_left
  · cases hm
  rename_i ss e5
  split at hm
  rotate_left
  · cases hm
  rename_i hl
  cases hm
  refine so G H σ ρ fp i p _ R e1 fun v a H1 s' ss' g1 g2 g3 x1 at1 => ?_
  rw [e3] at g1; cases g1
  have R1 := R.grow x1
  obtain ⟨v', h1, h2⟩ := R1.sl i _ e3
  rw [g3] at h1; cases h1
  obtain ⟨vs1, Fa1, ha1, hL1, _⟩ := h2.mut at1 e5
  refine ⟨.inl ⟨rfl, _, SqL.of ha1⟩, ?_⟩
  refine se G H1 σ ρ fp r _ R1 e2 fun w F H2 x2 o2 => ?_
  obtain ⟨vs2, Fa2, ha2, hL2, hn2, hsub2, hai, hmut⟩ := R1.mutate x2 e3 g3 (at1.mono x2) e5
  refine ⟨a, vs2, w, rfl, rfl, ha2, ?_, ?_⟩
  · rw [← hL2.len]; exact Evl.sz_lt hl
  · have hT := o2.tree e4
    have hdj : ∀ b, b ∈ Fa2 → b ∉ F := fun b m z => by
      obtain ⟨xs, hb⟩ := R1.ls i b (hsub2 b m)
      rw [o2.fresh b z] at hb; cases hb
    have haF : a ∉ F := fun z => by
      obtain ⟨xs, hb⟩ := R1.ls i a hai
      rw [o2.fresh a z] at hb; cases hb
    have es : Ex (stb H2) (stb (upd H2 a (.lst (vs2 ++ [w])))) := stb_upd ha2
    have r1 : RepL X.K (upd H2 a (.lst (vs2 ++ [w]))) (ss ++ [t]) (vs2 ++ [w]) (Fa2 ++ (F ++ [])) :=
      (hL2.keep ⟨es, fun b m u h => by rw [upd_ne (by rintro rfl; exact hn2 m)]; exact h⟩).snoc (hT.keep ⟨es, fun b m u h => by rw [upd_ne (by rintro rfl; exact haF m)]; exact h⟩) hdj
    obtain ⟨fp', R'⟩ := hmut _ _ _ r1 (fun z => by
      rcases List.mem_append.mp z with z | z
      · exact hn2 z
      · exact haF (by simpa using z)) (fun b m => by
      rcases List.mem_append.mp m with m | m
      · exact .inl m
      · exact .inr (o2.fresh b (by simpa using m)))
    exact q _ fp' R'
theorem xf_setIx (he : XE X e ma) (ho : XP X o mp) (hb : XE X b mb)
    (ha : ∀ v, assign (.Subscript o b apos) X.env v = (do
      let ov ← holding [v] (eval o X.env)
      let iv ← holding [v, ov] (eval b X.env)
      standAt apos
      holding [v, ov, iv] (setItem ov iv v)
      release [v, ov, iv] []) := by intro _; rfl)
    (hs : swapsWithSole [.Subscript o b apos] e pos.line X.env = pure false := by rfl) (hw : swappedStores [.Subscript o b apos] e X.env = pure none := by rfl)
    (h1 : (assignEach [.Subscript o b apos] X.env).map (·.2) = [assign (.Subscript o b apos) X.env] := by rfl) : XF X (.Assign [.Subscript o b apos] e pos) (mSetIx mp mb ma) := by
  obtain ⟨to, po, so⟩ := ho
  obtain ⟨te, pe, se⟩ := he
  obtain ⟨tb, pb, sb⟩ := hb
  refine ⟨_, ps_asg pe (pg_sub po pb set_list ha) hs hw h1, fun G H σ ρ fp ρ2 D R hm q => ?_⟩
  unfold mSetIx at hm
  split at hm
  rotate_left
  · cases hm
  rename_i i p rb r e1 e2 e3
  split at hm
  rotate_left
  · cases hm
  rename_i s j t e4 e5 e6
  split at hm
  rotate_left
  · cases hm
  rename_i ss e7
  split at hm
  rotate_left
  · cases hm
  rename_i k e8
  cases hm
  refine se G H σ ρ fp r _ R e3 fun w F H1 x1 o1 => ?_
  have R1 := R.grow x1
  refine so G H1 σ ρ fp i p _ R1 e1 fun v a H2 s' ss' g1 g2 g3 x2 at2 => ?_
  rw [e4] at g1; cases g1
  have R2 := R1.grow x2
  refine sb G H2 σ ρ fp rb _ R2 e2 fun y Fy H3 x3 o3 => ?_
  have hy := o3.data; rw [e5] at hy; cases hy
  obtain ⟨vs2, Fa2, ha2, hL2, hn2, hsub2, hai, hmut⟩ := R.mutate ((x1.trans x2).trans x3) e4 g3 (at2.mono x3) e7
  refine ⟨a, vs2, j, k, rfl, rfl, ha2, ?_, ?_⟩
  · rw [← hL2.len]; exact e8
  · have hT := ((o1.tree e6).mono x2).mono x3
    have hdj : ∀ b, b ∈ Fa2 → b ∉ F := fun b m z => by
      obtain ⟨xs, hb⟩ := R.ls i b (hsub2 b m)
      rw [o1.fresh b z] at hb; cases hb
    have haF : a ∉ F := fun z => by
      obtain ⟨xs, hb⟩ := R.ls i a hai
      rw [o1.fresh a z] at hb; cases hb
    have es : Ex (stb H3) (stb (upd H3 a (.lst (vs2.set k w)))) := stb_upd ha2
    obtain ⟨F', r1, s1⟩ := RepL.setAt (k := k) (hT.keep (H' := upd H3 a (.lst (vs2.set k w))) ⟨es, fun b m u h => by rw [upd_ne (by rintro rfl; exact haF m)]; exact h⟩) (hL2.keep ⟨es, fun b m u h => by rw [upd_ne (by rintro rfl; exact hn2 m)]; exact h⟩) hdj
    obtain ⟨fp', R'⟩ := hmut _ _ _ r1 (fun z => by
      rcases s1 a z with z | z
      · exact hn2 z
      · exact haF z) (fun b m => (s1 b m).imp id (o1.fresh b))
    exact q _ fp' R'
/-! xs.pop(i) -/
theorem RepL.eraseAt {K : PySem.W.Frag} {H : Hp} : ∀ {ss : List S} {vs : List V} {F : List Addr} (k : Nat), RepL K H ss vs F → ∃ F', RepL K H (ss.eraseIdx k) (vs.eraseIdx k) F' ∧ ∀ b ∈ F', b ∈ F
  | _, _, _, _, .nil => ⟨[], .nil, fun _ m => m⟩
  | _, _, _, 0, .cons (F1 := F1) (F2 := F2) h t dj => ⟨F2, t, fun b m => List.mem_append_right _ m⟩
  | _, _, _, k + 1, .cons (F1 := F1) (F2 := F2) h t dj => by
    obtain ⟨F', r, s⟩ := RepL.eraseAt k t
    exact ⟨F1 ++ F', .cons h r fun b m z => dj b m (s b z), fun b m => by
      rcases List.mem_append.mp m with m | m
      · exact List.mem_append_left _ m
      · exact List.mem_append_right _ (s b m)⟩
def mPop (mp : MP) (me : ME) : MS := fun ρ => match mp ρ, me ρ with
  | some (i, p), some r => match ρ[i]?, r.data with
    | some (.tr s), .int n => match S.get p s with
      | some (.own ss) => if 0 ≤ n ∧ n.toNat < ss.length ∧ ss.length ≤ 100000 then some (.nx ((killVw ρ).set i (.tr (S.put (.own (ss.eraseIdx n.toNat)) p s)))) else none
      | _ => none
    | _, _ => none
  | _, _ => none
theorem mPop_nx {ρ : Env} {oo : Out} (h : mPop mp ma ρ = some oo) : ∃ ρ', oo = .nx ρ' := by
  unfold mPop at h
  split at h
  rotate_left
  · cases h
  split at h
  rotate_left
  · cases h
  split at h
  rotate_left
  · cases h
  split at h
  · cases h; exact ⟨_, rfl⟩
  · cases h
theorem xf_pop (ho : XP X o mp) (he : XE X e ma)
    (hbase : attributeBase o "pop" X.env (eval o X.env) = eval o X.env := by rfl)
    (hfew : ((backTo cpos (starEach (e :: []) X.env)).all (fun x => !x.1) && (backToKw cpos (keywordEach [] X.env)).all (fun x => x.1.isSome)
      && decide ((e :: ([] : List Expr)).length + ([] : List Keyword).length + (if ([] : List Keyword).isEmpty then 0 else 1) < 30)) = true := by rfl)
    (hline : (apos.endLine == cpos.line) = true := by rfl) (hs : starEach (e :: []) X.env = (false, eval e X.env) :: starEach [] X.env := by rfl) (hplain : (backTo cpos (starEach [] X.env)).any (·.1) = false := by rfl)
    (hsw : swapsWith (.Call (.Attribute o "pop" apos) [e] [] cpos) none pos.line X.env = pure false := by rfl) : XF X (.Expr (.Call (.Attribute o "pop" apos) [e] [] cpos) pos) (mPop mp ma) := by
  obtain ⟨to, po, so⟩ := ho
  obtain ⟨te, pe, se⟩ := he
  refine ⟨_, ps_expr (pe_bm PySem.F.plainAttrs_list PySem.F.slot_list_pop PySem.F.type_list_pop mt_popAt po (pa_cons pe pa_nil hs) hbase hfew hline hs hplain) hsw, fun G H σ ρ fp ρ2 D R hm q => ?_⟩
  unfold mPop at hm
  split at hm
  rotate_left
  · cases hm
  rename_i i p r e1 e2
  split at hm
  rotate_left
  · cases hm
  rename_i s n e3 e4
  split at hm
  rotate_left
  · cases hm
  rename_i ss e5
  split at hm
  rotate_left
  · cases hm
  rename_i hl
  obtain ⟨h0, h1', h2'⟩ := hl
  cases hm
  refine so G H σ ρ fp i p _ R e1 fun v a H1 s' ss' g1 g2 g3 x1 at1 => ?_
  rw [e3] at g1; cases g1
  have R1 := R.grow x1
  obtain ⟨v', h1, h2⟩ := R1.sl i _ e3
  rw [g3] at h1; cases h1
  obtain ⟨vs1, Fa1, ha1, hL1, _⟩ := h2.mut at1 e5
  refine ⟨.inl ⟨rfl, _, SqL.of ha1⟩, ?_⟩
  refine se G H1 σ ρ fp r _ R1 e2 fun w F H2 x2 o2 => ?_
  obtain ⟨vs2, Fa2, ha2, hL2, hn2, hsub2, hai, hmut⟩ := R1.mutate x2 e3 g3 (at1.mono x2) e5
  have hw := o2.data; rw [e4] at hw; cases hw
  have hlen : n.toNat < vs2.length := by rw [← hL2.len]; exact h1'
  refine ⟨a, vs2, n, n.toNat, vs2[n.toNat], rfl, rfl, ha2, by omega, by have := hL2.len; omega, ?_, List.getElem?_eq_getElem hlen, ?_⟩
  · unfold seqIndex?
    have hn : ¬ n < 0 := by omega
    have hn2 : n < (vs2.length : Int) := by omega
    simp [hn, h0, hn2]
  · obtain ⟨F', r1, s1⟩ := hL2.eraseAt n.toNat
    have es : Ex (stb H2) (stb (upd H2 a (.lst (vs2.eraseIdx n.toNat)))) := stb_upd ha2
    obtain ⟨fp', R'⟩ := hmut _ _ _ (r1.keep (H' := upd H2 a (.lst (vs2.eraseIdx n.toNat))) ⟨es, fun b m u h => by rw [upd_ne (by rintro rfl; exact hn2 (s1 _ m))]; exact h⟩) (fun z => hn2 (s1 a z)) (fun b m => .inl (s1 b m))
    exact q _ fp' R'
theorem xs_pop (h : XF X st (mPop mp ma)) : XS X W st (mPop mp ma) := xs_keep h fun ρ o z => mPop_nx z
end
end DL

set_option Elab.async false
set_option linter.all false
set_option maxRecDepth 100000
set_option maxHeartbeats 4000000
/-! A def that changes the lists it is handed. -/
namespace DL
open PySem PySem.Spec PyProof.Rows L2
open Evl (Ex)
/-- at its entry: the lists, then what else is handed, then the other names -/
def envA (n : Nat) (as : List Addr) (ss : List S) (ds : List D) : DL.Env := (as.zip ss).map (fun p => Sl.ow p.1 p.2) ++ (ds.map Sl.sh ++ List.replicate (n - (as.length + ds.length)) .dead)
def EndsA (as : List Addr) (ss : List S) (ρ : DL.Env) : Prop := ∀ (i : Nat) (a : Addr), as[i]? = some a → ∃ s : S, ss[i]? = some s ∧ ρ[i]? = some (Sl.ow a s)
def RunsA (n : Nat) (m : MS) (ss : List S) (ds : List D) (ss' : List S) : Prop := ss'.length = ss.length ∧ ∀ as : List Addr, as.length = ss.length → ∃ ρ', m (envA n as ss ds) = some (.nx ρ') ∧ EndsA as ss' ρ'
open Classical in
noncomputable def runA (n : Nat) (m : MS) (ss : List S) (ds : List D) : Option (List S) := if h : ∃ ss', RunsA n m ss ds ss' then some h.choose else none
theorem RunsA.uniq {n : Nat} {m : MS} {ss : List S} {ds : List D} {s1 s2 : List S} (h1 : RunsA n m ss ds s1) (h2 : RunsA n m ss ds s2) : s1 = s2 := by
  let as : List Addr := List.replicate ss.length 0
  have hl : as.length = ss.length := List.length_replicate
  obtain ⟨ρ1, e1, q1⟩ := h1.2 as hl
  obtain ⟨ρ2, e2, q2⟩ := h2.2 as hl
  rw [e1] at e2; cases e2
  apply List.ext_getElem?
  intro i
  by_cases hi : i < ss.length
  · have ha : as[i]? = some 0 := by simp [as, hi]
    obtain ⟨u, k1, k2⟩ := q1 i _ ha
    obtain ⟨v, k3, k4⟩ := q2 i _ ha
    rw [k2] at k4; cases k4
    rw [k1, k3]
  · have := h1.1; have := h2.1
    rw [List.getElem?_eq_none (by omega), List.getElem?_eq_none (by omega)]
theorem runA_eq {n : Nat} {m : MS} {ss : List S} {ds : List D} {ss' : List S} (h : RunsA n m ss ds ss') : runA n m ss ds = some ss' := by
  have hx : ∃ ss', RunsA n m ss ds ss' := ⟨_, h⟩
  unfold runA
  rw [dif_pos hx]
  exact congrArg some (hx.choose_spec.uniq h)
theorem runA_some {n : Nat} {m : MS} {ss : List S} {ds : List D} {ss' : List S} (h : runA n m ss ds = some ss') : RunsA n m ss ds ss' := by
  unfold runA at h
  split at h
  · rename_i hx; cases h; exact hx.choose_spec
  · cases h
def spA (K : PySem.W.Frag) (h n : Nat) (g : List S → List D → Option (List S)) : Sp := fun vs H Q _ => vs.length = n ∧ ∃ (as : List Addr) (ss : List S) (fs : Nat → List Addr) (ws : List V) (ds : List D) (ss' : List S),
  vs = as.map V.ref ++ ws ∧ as.length = ss.length ∧ ss.length = h ∧ (∀ i a s, as[i]? = some a → ss[i]? = some s → Rep K H s (.ref a) (fs i)) ∧ (∀ i, h ≤ i → fs i = []) ∧ (∀ i j b, b ∈ fs i → b ∈ fs j → i = j) ∧
  DtL K (hid H fs) ws ds ∧ g ss ds = some ss' ∧
  ∀ (H' : Hp) (fs' : Nat → List Addr), Ex (hid H fs) H' → (∀ i a s, as[i]? = some a → ss'[i]? = some s → Rep K H' s (.ref a) (fs' i)) → (∀ i b, b ∈ fs' i → hid H fs b = none) → (∀ i j b, b ∈ fs' i → b ∈ fs' j → i = j) → Q .non H'
theorem RelF.startA {K : PySem.W.Frag} {H : Hp} {N : List Str} {as : List Addr} {ss : List S} {fs : Nat → List Addr} {ws : List V} {ds : List D} {h : Nat} (hl : as.length = ss.length) (hh : ss.length = h)
    (hr : ∀ i a s, as[i]? = some a → ss[i]? = some s → Rep K H s (.ref a) (fs i)) (h0 : ∀ i, h ≤ i → fs i = []) (dj : ∀ i j b, b ∈ fs i → b ∈ fs j → i = j) (hd : DtL K (hid H fs) ws ds) (hN : as.length + ws.length ≤ N.length) :
    RelF K (hid H fs) H (L2.start N (as.map V.ref ++ ws)) (envA N.length as ss ds) fs := by
  have hz : (as.zip ss).length = as.length := by rw [List.length_zip]; omega
  refine ⟨?_, hid_ex, dj, fun i a m => ?_, fun i a m => ?_, fun i s hs => ?_⟩
  · unfold L2.start envA
    simp only [List.length_append, List.length_map, List.length_replicate, hz, hd.len]
    omega
  · unfold DL.hid; rw [if_pos ⟨i, m⟩]
  · by_cases hi : i < h
    · have h1 : i < as.length := by omega
      have h2 : i < ss.length := by omega
      exact (hr i _ _ (List.getElem?_eq_getElem h1) (List.getElem?_eq_getElem h2)).ls a m
    · rw [h0 i (by omega)] at m; cases m
  · unfold envA at hs
    by_cases hi : i < as.length
    · have h2 : i < ss.length := by omega
      rw [List.getElem?_append_left (by rw [List.length_map, hz]; exact hi), List.getElem?_map, Option.map_eq_some_iff] at hs
      obtain ⟨⟨a, t⟩, q1, rfl⟩ := hs
      rw [List.getElem?_zip_eq_some] at q1
      refine ⟨?_, hr i a t q1.1 q1.2⟩
      unfold L2.start
      have : i < (as.map V.ref).length := by rw [List.length_map]; exact hi
      rw [List.getElem?_append_left (by simp; omega), List.getElem?_map, List.getElem?_append_left this, List.getElem?_map]
      have q2 : as[i]? = some a := q1.1
      rw [q2]; rfl
    · rw [List.getElem?_append_right (by rw [List.length_map, hz]; omega), List.length_map, hz] at hs
      have hf : fs i = [] := h0 i (by omega)
      by_cases hj : i - as.length < ds.length
      · rw [List.getElem?_append_left (by simpa using hj), List.getElem?_map, Option.map_eq_some_iff] at hs
        obtain ⟨d, k1, rfl⟩ := hs
        obtain ⟨v, k2, k3⟩ := hd.get k1
        refine ⟨hf, v, ?_, k3⟩
        unfold L2.start
        have hw : i - as.length < ws.length := by rw [hd.len]; exact hj
        rw [List.getElem?_append_left (by simp; omega), List.getElem?_map, List.getElem?_append_right (by simp; omega), List.length_map, k2]
        rfl
      · rw [List.getElem?_append_right (by simpa using Nat.le_of_not_lt hj), List.getElem?_replicate] at hs
        split at hs
        · cases hs; exact hf
        · cases hs
section
variable {P : Program} {w : World} {K : PySem.W.Frag} {mg : Str → Option Value} {base : Heap}
theorem fnA {x qual : Str} {st : Stmt} {f : Addr} {fd : FuncData} {N ps : List Str} {k h n : Nat} {m : MS} (F : Fun K x qual st f fd) (S : FnScope N ps (defScope st)) (hn : ps.length = n)
    (hbody : ∀ (cdv : Value) (A : Around) (outer : List PySem.Env) (s : Shared) (H : Hp) (E : XK), Room k (A.deeper (envOfC qual (defScope st) s.heap.objs.size f cdv)) →
      XSs (cxOf (L2.CX P w) P w K mg base N qual (defScope st) f cdv A outer s H E) E (defBody st) m) : FnOk P w K mg base (L2.CX P w) (k + 1) f fd ps (spA K h n (runA N.length m)) := by
  refine F.okX S (fun vs H Q E h => h.1.trans hn.symm) fun cdv A outer s H vs Q E hr h => ?_
  obtain ⟨t, p, sim⟩ := (hbody cdv A outer s H E hr).sim
  obtain ⟨hlen, as, ss, fs, ws, ds, ss', rfl, h1, h2, h3, h4, h5, h6, h7, h8⟩ := h
  refine ⟨t, p, ?_⟩
  obtain ⟨g1, g2⟩ := runA_some h7
  obtain ⟨ρ', e1, e2⟩ := g2 as h1
  have hN : as.length + ws.length ≤ N.length := by
    have := congrArg List.length S.pre
    rw [List.length_take] at this
    simp only [List.length_append, List.length_map] at hlen
    omega
  refine sim (hid H fs) H _ _ fs _ _ (RelF.startA h1 h2 h3 h4 h5 h6 hN) e1 ?_
  exact fun σ' H' fp' R => h8 H' fp' R.ex (fun i a s q1 q2 => by
    obtain ⟨s2, k1, k2⟩ := e2 i a q1
    rw [q2] at k1; cases k1
    exact (R.sl i _ k2).2) R.new R.dj
end
/-! the caller -/
theorem RelF.remake {K : PySem.W.Frag} {G H H' : Hp} {σ σ' : L2.St} {ρ ρ' : Env} {fp fq : Nat → List Addr} (J : Nat → Prop) (R : RelF K G H σ ρ fp) (hl : ρ'.length = ρ.length) (hσl : σ'.length = σ.length) (hσ : ∀ i, ¬ J i → σ'[i]? = σ[i]?)
    (hk : ∀ b o, (∀ i, J i → b ∉ fp i) → H b = some o → H' b = some o)
    (hq : ∀ i b, J i → b ∈ fq i → (∃ j, J j ∧ b ∈ fp j) ∨ H b = none) (hd : ∀ i j b, J i → J j → b ∈ fq i → b ∈ fq j → i = j) (hn : ∀ i, ¬ J i → fq i = fp i)
    (hy : ∀ i, J i → (ρ'[i]? = some .dead ∧ fq i = []) ∨ ∃ s v, ρ'[i]? = some (.tr s) ∧ σ'[i]? = some (some v) ∧ Rep K H' s v (fq i)) (hno : ∀ i, ¬ J i → ρ'[i]? = (killVw ρ)[i]?) :
    RelF K G H' σ' ρ' fq := by
  have kp : ∀ {b o j}, ¬ J j → b ∈ fp j → H b = some o → H' b = some o := fun {b o j} hj m h => hk b o (fun i hi m2 => hj (R.dj i j b m2 m ▸ hi)) h
  have es : Ex (stb H) (stb H') := fun b o h => by
    have h1 := stb_ex b o h
    have h2 : H' b = some o := hk b o (fun i hi m => by
      obtain ⟨xs, e⟩ := R.ls i b m
      rw [h1] at e; cases e
      unfold stb at h; rw [h1] at h; cases xs <;> cases h) h1
    unfold stb at h ⊢
    rw [h1] at h; rw [h2]; exact h
  have hx : Ex (hid H fp) (hid H' fq) := fun b o h => by
    obtain ⟨n1, h⟩ := hid_some h
    rw [hid_at]
    · exact hk b o (fun i _ => n1 i) h
    · intro j m
      by_cases hj : J j
      · rcases hq j b hj m with ⟨i, _, z⟩ | z
        · exact n1 i z
        · rw [h] at z; cases z
      · rw [hn j hj] at m; exact n1 j m
  refine ⟨by rw [hσl, hl]; exact R.len, fun b o h => hk b o (fun i _ m => by rw [R.new i b m] at h; cases h) (R.ex b o h), fun i j b m1 m2 => ?_, fun i b m => ?_, fun i b m => ?_, fun i s hs => ?_⟩
  · by_cases hi : J i
    · by_cases hj : J j
      · exact hd i j b hi hj m1 m2
      · rw [hn j hj] at m2
        rcases hq i b hi m1 with ⟨k, hk', z⟩ | z
        · exact absurd (R.dj k j b z m2 ▸ hk') hj
        · obtain ⟨xs, e⟩ := R.ls j b m2; rw [z] at e; cases e
    · rw [hn i hi] at m1
      by_cases hj : J j
      · rcases hq j b hj m2 with ⟨k, hk', z⟩ | z
        · exact absurd (R.dj k i b z m1 ▸ hk') hi
        · obtain ⟨xs, e⟩ := R.ls i b m1; rw [z] at e; cases e
      · rw [hn j hj] at m2; exact R.dj i j b m1 m2
  · by_cases hi : J i
    · rcases hq i b hi m with ⟨k, _, z⟩ | z
      · exact R.new k b z
      · exact Evl.fresh_back R.ex z
    · rw [hn i hi] at m; exact R.new i b m
  · by_cases hi : J i
    · rcases hy i hi with ⟨_, h0⟩ | ⟨s, v, _, _, r⟩
      · rw [h0] at m; cases m
      · exact r.ls b m
    · rw [hn i hi] at m
      obtain ⟨xs, e⟩ := R.ls i b m
      exact ⟨xs, kp hi m e⟩
  · by_cases hi : J i
    · rcases hy i hi with ⟨q1, h0⟩ | ⟨s', v, q1, q2, r⟩
      · rw [hs] at q1; cases q1
        exact h0
      · rw [hs] at q1; cases q1
        exact ⟨v, q2, r⟩
    · rw [hno i hi] at hs
      rw [hn i hi]
      unfold killVw at hs
      rw [List.getElem?_map, Option.map_eq_some_iff] at hs
      obtain ⟨t0, h0, h1⟩ := hs
      have q := R.sl i t0 h0
      rw [← hσ i hi] at q
      cases t0 with
      | dead => cases h1; exact q
      | ad a => cases h1; exact q
      | dc m =>
        cases h1
        obtain ⟨b, q1, q2, q3⟩ := q
        exact ⟨b, q1, q2, kp hi (by rw [q2]; exact List.mem_singleton_self _) q3⟩
      | sh x => cases h1; obtain ⟨q0, w, q1, q2⟩ := q; exact ⟨q0, w, q1, q2.mono hx⟩
      | fz w x => cases h1; obtain ⟨q0, q1, q2⟩ := q; exact ⟨q0, q1, q2.mono hx⟩
      | vw x => cases h1; exact q.1
      | ow c u => cases h1; exact ⟨q.1, q.2.keep ⟨es, fun b m o h => kp hi m h⟩⟩
      | tr u =>
        cases h1
        obtain ⟨w, q1, q2⟩ := q
        exact ⟨w, q1, q2.keep ⟨es, fun b m o h => kp hi m h⟩⟩
def stillR : R → Bool
  | .sh _ => true
  | r => imm r.data
theorem ROk.still {K : PySem.W.Frag} {H H1 : Hp} {fp : Nat → List Addr} {v : V} {F : List Addr} {r : R} (ls : ∀ i a, a ∈ fp i → ∃ xs, H1 a = some (mo xs)) (o : ROk K H H1 fp v F r) (h : stillR r = true) : Dt K (hid H1 fp) v r.data := by
  cases r with
  | sh x => exact o.2
  | vw x => exact imm_hid ls o.2 h
  | tr s => exact imm_hid ls o.1.data h
theorem AOk.still {K : PySem.W.Frag} {H H1 : Hp} {fp : Nat → List Addr} (ls : ∀ i a, a ∈ fp i → ∃ xs, H1 a = some (mo xs)) : ∀ {rs : List R} {vs : List V} {F : List Addr}, AOk K H H1 fp rs vs F → rs.all stillR = true → DtL K (hid H1 fp) vs (rs.map R.data)
  | _, _, _, .nil, _ => .nil
  | _, _, _, .cons h t _, hs => by
    rw [List.all_cons, Bool.and_eq_true] at hs
    exact .cons (h.still ls hs.1) (t.still ls hs.2)
section
variable {X : Cx} {W : XK} {e : Expr} {es : List Expr} {ms : MA} {x y y2 : Str} {p q p2 p3 pos : Pos}
/-- f(xs, ..): the list xs is changed -/
def mCallA (i n : Nat) (g : List S → List D → Option (List S)) (ms : MA) : MS := fun ρ => match ρ[i]?, ms ρ with
  | some (.tr (.own ss)), some rs => if rs.all stillR = true ∧ 1 + rs.length = n then (match g [.own ss] (rs.map R.data) with
    | some [s'] => some (.nx ((killVw ρ).set i (.tr s')))
    | _ => none) else none
  | _, _ => none
theorem xs_callA {i k n : Nat} {f : Addr} {fd : FuncData} {ps : List Str} {g : List S → List D → Option (List S)} (F : FnOk X.prog X.w X.K X.mg X.base (L2.CX X.prog X.w) k f fd ps (spA X.K 1 n g)) (hr : Room k X.A) (hg : Gl X x) (hm : X.mg x = some (.ref f)) (hk : PySem.W.keepIn X.K (.ref f) = true) (hb : Binds X.K fd ps []) (hx : Passes (L2.CX X.prog X.w) X E0)
    (ha : XA X es ms) (hN : X.N[i]? = some y := by rfl) (hv : Vis X.env.scope y := by first | exact Or.inl rfl | exact Or.inr (Or.inl rfl) | exact Or.inr (Or.inr rfl)) (hd : (y == ("__debug__" : Str)) = false := by decide) (hcd : (y == ("__classdict__" : Str)) = false := by decide)
    (hdb : (x == ("__debug__" : Str)) = false := by decide) (he : starEach (.Name y q :: es) X.env = (false, eval (.Name y q) X.env) :: starEach es X.env := by rfl) (hpl : (backTo p2 (starEach es X.env)).any (·.1) = false := by rfl)
    (hs : swapsWith (.Call (.Name x p) (.Name y q :: es) [] p2) none pos.line X.env = pure false := by rfl) :
    XS X W (.Expr (.Call (.Name x p) (.Name y q :: es) [] p2) pos) (mCallA i n g ms) := by
  obtain ⟨t, pa, s⟩ := ha
  refine ⟨_, ps_expr (pe_call F hr hg hm hk hb .nil hx (pa_cons (pe_var hN hv hd hcd) pa he) hdb he hpl) hs, fun G H σ ρ fp oo D R hm q => ?_⟩
  unfold mCallA at hm
  split at hm
  rotate_left
  · cases hm
  rename_i ss rs e1 e2
  split at hm
  rotate_left
  · cases hm
  rename_i hc
  obtain ⟨hst, hn⟩ := hc
  split at hm
  rotate_left
  · cases hm
  rename_i s' e3
  cases hm
  obtain ⟨v, hv1, hr1⟩ := R.sl i _ e1
  obtain ⟨a, rfl⟩ : ∃ a, v = .ref a := by
    generalize fp i = F at hr1
    cases hr1; exact ⟨_, rfl⟩
  refine ⟨_, hv1, ?_⟩
  refine s G H σ ρ fp rs _ R e2 fun ws Fw H1 x1 o1 => ?_
  show spA X.K 1 n g ((V.ref a :: ws) ++ []) H1 _ _
  rw [List.append_nil]
  have R1 := R.grow x1
  have hws := o1.still R1.ls hst
  have hr2 := hr1.mono x1
  let fs : Nat → List Addr := fun j => if j = 0 then fp i else []
  have f0 : fs 0 = fp i := if_pos rfl
  have fsub : ∀ j b, b ∈ fs j → b ∈ fp i := fun j b m => by
    simp only [fs] at m
    split at m
    · exact m
    · cases m
  refine ⟨?_, [a], [.own ss], fs, ws, _, [s'], rfl, rfl, rfl, ?_, ?_, ?_, hws.mono (hid_any fun j b m => ⟨i, fsub j b m⟩), e3, ?_⟩
  · have := hws.len
    simp only [List.length_map] at this
    simp only [List.length_cons, this]; omega
  · intro j b u h1 h2
    cases j with
    | zero => cases h1; cases h2; rw [f0]; exact hr2
    | succ j => simp at h1
  · intro j hj
    simp only [fs]
    rw [if_neg (by omega)]
  · intro j1 j2 b m1 m2
    simp only [fs] at m1 m2
    split at m1
    · split at m2
      · omega
      · cases m2
    · cases m1
  · intro H' fs' hex hrep hnew hdj
    have hil : i < ρ.length := (List.getElem?_eq_some_iff.mp e1).1
    have hkl : (killVw ρ).length = ρ.length := by simp [killVw]
    refine q σ H' (fset fp i (fs' 0)) (RelF.remake (fun j => j = i) R1 (by simp [hkl]) rfl (fun _ _ => rfl) (fun b o hb ho => hex b o ?_) (fun j b hj m => ?_) (fun j1 j2 b h1 h2 _ _ => h1.trans h2.symm) (fun j hj => fset_ne hj) (fun j hj => ?_) (fun j hj => ?_))
    · rw [hid_at]
      · exact ho
      · exact fun j m => hb i rfl (fsub j b m)
    · subst hj
      rw [fset_self] at m
      have z := hnew 0 b m
      by_cases hbm : b ∈ fp j
      · exact .inl ⟨j, rfl, hbm⟩
      · right
        rw [hid_at (fun k mk => hbm (fsub k b mk))] at z
        exact z
    · subst hj
      rw [fset_self]
      exact .inr ⟨s', _, by rw [List.getElem?_set_self (by rw [hkl]; exact hil)], hv1, hrep 0 a s' rfl rfl⟩
    · rw [List.getElem?_set_ne (Ne.symm hj)]
end
end DL

set_option Elab.async false
set_option linter.all false
set_option maxRecDepth 100000
set_option maxHeartbeats 4000000
/-! try: x = f(..) except C as n: the suite, at what the names held before the call. -/
namespace DL
open PySem PySem.Spec PyProof.Rows L2
open Evl (Ex)
theorem RelF.setAd {K : PySem.W.Frag} {G H : Hp} {σ : L2.St} {ρ : DL.Env} {fp : Nat → List Addr} (R : RelF K G H σ ρ fp) (i : Nat) (a : Addr) : RelF K G H (σ.set i (some (.ref a))) (ρ.set i (.ad a)) (fset fp i []) where
  len := by simpa using R.len
  ex := R.ex
  dj := (R.kill1 i).dj
  new := (R.kill1 i).new
  ls := (R.kill1 i).ls
  sl := fun j s h => by
    by_cases hj : j = i
    · subst hj
      have hl : j < ρ.length := by
        have := (List.getElem?_eq_some_iff.mp h).1
        simpa using this
      rw [List.getElem?_set_self hl] at h
      cases h
      exact ⟨fset_self, by rw [List.getElem?_set_self (by rw [R.len]; exact hl)]⟩
    · rw [List.getElem?_set_ne (Ne.symm hj)] at h
      rw [fset_ne hj, List.getElem?_set_ne (Ne.symm hj)]
      exact SlOk.set (hid_less i) (Evl.Ex.refl H) (R.sl j s h)
def SimCS (K : PySem.W.Frag) (W : WX) (t : TE) (m : DL.Env → Option FO) : Prop := ∀ G H σ ρ fp o (Q : VK), RelF K G H σ ρ fp → m ρ = some o → (∀ s, o = .ret s → ∀ v F H', Ex H H' → ROk K H H' fp v F (retR s) → Q v H') → (∀ C, o = .exc C → ∀ H', Ex H H' → W (.ref C) none σ H') → t σ H Q
structure XCS (X : Cx) (W : WX) (e : Expr) (m : DL.Env → Option FO) : Prop where
  sim : ∃ t, PE X e t ∧ SimCS X.K W t m
section
variable {X : Cx} {W : XK} {e : Expr} {es : List Expr} {ms : MA} {x n z : Str} {mc : DL.Env → Option FO} {pos : Pos}
theorem xcs_call {V : WX} {k m : Nat} {f : Addr} {fd : FuncData} {ps : List Str} {g : List D → Option FO} {p : Pos} (F : FnOk X.prog X.w X.K X.mg X.base (L2.CX X.prog X.w) k f fd ps (spD X.K m g)) (hr : Room k X.A) (hg : Gl X x) (hm : X.mg x = some (.ref f)) (hk : PySem.W.keepIn X.K (.ref f) = true) (hb : Binds X.K fd ps [])
    (tk : Takes X V) (ha : XA X (e :: es) ms) (hdb : (x == ("__debug__" : Str)) = false := by decide) (he : starEach (e :: es) X.env = (false, eval e X.env) :: starEach es X.env := by rfl) (hpl : (backTo pos (starEach es X.env)).any (·.1) = false := by rfl) :
    XCS X V (.Call (.Name x p) (e :: es) [] pos) (mCallO m g ms) := by
  obtain ⟨t, pa, s⟩ := ha
  refine ⟨_, pe_callS (E := WE V) F hr hg hm hk hb (passAt tk) pa hdb he hpl, fun G H σ ρ fp r Q R hm q qe => ?_⟩
  unfold mCallO at hm
  split at hm
  · rename_i rs e1
    split at hm
    · rename_i hn
      refine s G H σ ρ fp rs _ R e1 fun vs F H1 x1 o1 => ?_
      refine ⟨o1.len.symm.trans hn, _, _, o1.data, hm, ?_⟩
      cases r with
      | ret s' => exact fun v F' H' x2 o2 f2 => q s' rfl v F' H' (x1.trans x2) (ROk.back (retR_ok (ls_mono R.ls (x1.trans x2)) o2 f2) x1)
      | exc C => exact fun H' x2 => qe C rfl H' (x1.trans x2)
    · cases hm
  · cases hm
def AllRt (i : Nat) (m2 : Addr → MS) (ρ : DL.Env) (s : S) : Prop := ∀ a, m2 a (ρ.set i (.ad a)) = some (.rt s)
open Classical in
noncomputable def mTryC (ix : Nat) (mc : DL.Env → Option FO) (C : Addr) (i : Nat) (m2 : Addr → MS) : MS := fun ρ => match mc ρ with
  | some (.ret s) => some (.nx (ρ.set ix (retR s).slot))
  | some (.exc C') => if C' = C then (if h : ∃ s, AllRt i m2 ρ s then some (.rt h.choose) else none) else none
  | none => none
theorem mTryC_ret {ix : Nat} {mc : DL.Env → Option FO} {C : Addr} {i : Nat} {m2 : Addr → MS} {ρ : DL.Env} {s : S} (h : mc ρ = some (.ret s)) : mTryC ix mc C i m2 ρ = some (.nx (ρ.set ix (retR s).slot)) := by unfold mTryC; rw [h]
theorem mTryC_exc {ix : Nat} {mc : DL.Env → Option FO} {C : Addr} {i : Nat} {m2 : Addr → MS} {ρ : DL.Env} {s : S} (h : mc ρ = some (.exc C)) (h2 : AllRt i m2 ρ s) : mTryC ix mc C i m2 ρ = some (.rt s) := by
  have hx : ∃ s, AllRt i m2 ρ s := ⟨_, h2⟩
  unfold mTryC
  rw [h]
  simp only [if_true]
  rw [dif_pos hx]
  have h3 := hx.choose_spec (0 : Nat)
  have h4 := h2 (0 : Nat)
  rw [h4] at h3
  exact h3.symm
theorem xs_tryC {c : Value} {C : Addr} {i ix : Nat} {suite : List Stmt} {b₀ : Stmt} {np pos pos' xp ap : Pos} {m2 : Addr → MS} (hs : X.stack = X.env :: X.outer) (hf : X.env.frame = some X.env.locals) (hN : X.N.Nodup) (hi : X.N[i]? = some n) (hln : X.env.kindOf n = some .local) (hc : Names X z c)
    (hex : PySem.W.exmOne X.K (.ref C) c = some true) (tk : Takes X fun c d _ H => W c d H)
    (hix : X.N[ix]? = some x) (hlx : Loc X.env.scope x)
    (hb : ∀ (V : WX) (pn : List (Addr × Obj)) (xe : Value → Shared → Prop), Takes (X.tr pn xe) V → XCS (X.tr pn xe) V e mc)
    (hsu : ∀ (a : Addr) (oe : Obj) (pn : List (Addr × Obj)), Zc (.ref C) none oe → (∃ vs, oe.data = .fields vs) → XSs (X.suite a ((a, oe) :: pn)) (fun _ _ _ => False) (b₀ :: suite) (m2 a))
    (hsw : ∀ (pn : List (Addr × Obj)) (xe : Value → Shared → Prop), swapsWith e (some (.Name x xp)) ap.line (X.tr pn xe).env = pure false := by intro _ _; rfl)
    (hfn : ∀ (pn : List (Addr × Obj)) (xe : Value → Shared → Prop), (X.tr pn xe).fn x = true ∨ (X.tr pn xe).env.scope.names.lookup x = some .local := by intro _ _; first | exact .inl rfl | exact .inr rfl | assumption) :
    XS X W (.Try [.Assign [.Name x xp] e ap] [.ExceptHandler (some (.Name z np)) (some n) (b₀ :: suite) pos'] [] [] pos) (mTryC ix mc C i m2) := by
  let ts : Addr → Value → Option Addr → TS := fun a cls d => if cls = .ref C ∧ d = none then canS X.K (fun _ _ _ => False) (m2 a) else fun _ _ _ => False
  let tb : WX → TS := fun W0 D σ H => ∃ G ρ fp o, RelF X.K G H σ ρ fp ∧ mc ρ = some o ∧ (∀ s, o = .ret s → ∀ v F H', Ex H H' → ROk X.K H H' fp v F (retR s) → D.nx (σ.set ix (some v)) H') ∧ (∀ C, o = .exc C → ∀ H', Ex H H' → W0 (.ref C) none σ H')
  refine ⟨_, ps_try_as (i := i) (tb := tb) (ts := ts) hs hf hN hi hln hc tk (fun W0 pn xe tk0 po => ?_) (fun a oe cls d pn hz hv => ?_), fun G H σ ρ fp o D R hm q => ?_⟩
  · obtain ⟨t, p, s⟩ := hb W0 pn xe tk0
    have p1 := pss_one (ps_set (X := X.tr pn xe) (pos := ap) (pos' := xp) hN hix hlx p (hsw pn xe) (hfn pn xe))
    exact ⟨fun pins s' σ H D I ⟨G, ρ, fp, o, R, hm, q1, q2⟩ => p1.run pins s' σ H D I (s G H σ ρ fp o _ R hm (fun s e v F H' x r => q1 s e v F H' x r) q2)⟩
  · show PSs _ _ (if cls = .ref C ∧ d = none then _ else _)
    by_cases hcd : cls = .ref C ∧ d = none
    · rw [if_pos hcd]
      obtain ⟨rfl, rfl⟩ := hcd
      exact (hsu a oe pn hz hv).can
    · rw [if_neg hcd]
      exact ⟨fun pins s' σ H D I h => h.elim⟩
  · unfold mTryC at hm
    split at hm
    · rename_i s e1; cases hm
      exact ⟨G, ρ, fp, _, R, e1, fun s' e v F H' x r => by cases e; exact q _ H' _ (R.set x r), fun _ e => by cases e⟩
    · rename_i C' e1
      split at hm
      rotate_left
      · cases hm
      rename_i hC; subst hC
      split at hm
      rotate_left
      · cases hm
      rename_i hx
      have hsp := hx.choose_spec
      have ho : o = .rt hx.choose := (Option.some.inj hm).symm
      subst ho
      refine ⟨G, ρ, fp, _, R, e1, (fun _ e => by cases e), fun C2 e H' x => ?_⟩
      cases e
      refine ⟨true, hex, fun _ a ha => ?_, fun z => nomatch z⟩
      rw [show ts a (Value.ref C') none = canS X.K (fun _ _ _ => False) (m2 a) from if_pos ⟨rfl, rfl⟩]
      exact ⟨G, _, _, _, (R.grow x).setAd i a, hsp a, q⟩
    · cases hm
end
end DL

set_option Elab.async false
set_option linter.all false
set_option maxRecDepth 100000
set_option maxHeartbeats 4000000
namespace DL
open PySem PySem.Spec PyProof.Rows L2
open Evl (Ex)
section
variable {X : Cx} {W : XK} {o e b c : Expr} {es : List Expr} {ma mb mi : ME} {ms : MA} {mp : MP} {pos apos cpos p p2 q : Pos} {x y : Str}
/-- what is never come to -/
theorem xss_none {l : List Stmt} : XSs X W l (fun _ => none) := ⟨_, pss_never, fun G H σ ρ fp o D R hm q => by cases hm⟩
/-! xs.insert(i, e) -/
theorem RepL.ins {K : PySem.W.Frag} {H : Hp} {t : S} {w : V} {Ft : List Addr} (h2 : Rep K H t w Ft) : ∀ {ss : List S} {vs : List V} {F : List Addr} (k : Nat), RepL K H ss vs F → (∀ a, a ∈ F → a ∉ Ft) → ∃ F', RepL K H (ss.take k ++ [t] ++ ss.drop k) (vs.take k ++ [w] ++ vs.drop k) F' ∧ ∀ b ∈ F', b ∈ F ∨ b ∈ Ft
  | _, _, _, k, .nil, _ => ⟨Ft ++ [], by simp only [List.take_nil, List.drop_nil, List.nil_append, List.append_nil]; have := RepL.cons h2 (.nil) (fun a _ z => by cases z); simpa using this, fun b m => .inr (by simpa using m)⟩
  | _, _, _, 0, .cons (F1 := F1) (F2 := F2) h t dj, d => ⟨Ft ++ (F1 ++ F2), .cons h2 (.cons h t dj) fun a m z => d a z m, fun b m => by
    rcases List.mem_append.mp m with m | m
    · exact .inr m
    · exact .inl m⟩
  | _, _, _, k + 1, .cons (F1 := F1) (F2 := F2) h t dj, d => by
    obtain ⟨F', r, s⟩ := RepL.ins h2 k t fun a m => d a (List.mem_append_right _ m)
    refine ⟨F1 ++ F', .cons h r fun a m z => ?_, fun b m => ?_⟩
    · rcases s a z with z | z
      · exact dj a m z
      · exact d a (List.mem_append_left _ m) z
    · rcases List.mem_append.mp m with m | m
      · exact .inl (List.mem_append_left _ m)
      · exact (s b m).imp (List.mem_append_right _) id
def mInsert (mp : MP) (mi me : ME) : MS := fun ρ => match mp ρ, mi ρ, me ρ with
  | some (i, p), some ri, some r => match ρ[i]?, ri.data, r.tree with
    | some (.tr s), .int n, some t => match S.get p s with
      | some (.own ss) => if 0 ≤ n ∧ n ≤ 100000 ∧ ss.length < 100000 then some (.nx ((killVw ρ).set i (.tr (S.put (.own (ss.take n.toNat ++ [t] ++ ss.drop n.toNat)) p s)))) else none
      | _ => none
    | _, _, _ => none
  | _, _, _ => none
theorem xs_insert (ho : XP X o mp) (hi : XE X c mi) (he : XE X e ma)
    (hbase : attributeBase o "insert" X.env (eval o X.env) = eval o X.env := by rfl)
    (hfew : ((backTo cpos (starEach (c :: e :: []) X.env)).all (fun x => !x.1) && (backToKw cpos (keywordEach [] X.env)).all (fun x => x.1.isSome)
      && decide ((c :: e :: ([] : List Expr)).length + ([] : List Keyword).length + (if ([] : List Keyword).isEmpty then 0 else 1) < 30)) = true := by rfl)
    (hline : (apos.endLine == cpos.line) = true := by rfl) (hs : starEach (c :: e :: []) X.env = (false, eval c X.env) :: starEach (e :: []) X.env := by rfl) (hs2 : starEach (e :: []) X.env = (false, eval e X.env) :: starEach [] X.env := by rfl) (hplain : (backTo cpos (starEach (e :: []) X.env)).any (·.1) = false := by rfl)
    (hsw : swapsWith (.Call (.Attribute o "insert" apos) [c, e] [] cpos) none pos.line X.env = pure false := by rfl) : XS X W (.Expr (.Call (.Attribute o "insert" apos) [c, e] [] cpos) pos) (mInsert mp mi ma) := by
  obtain ⟨to, po, so⟩ := ho
  obtain ⟨ti, pi, si⟩ := hi
  obtain ⟨te, pe, se⟩ := he
  refine ⟨_, ps_expr (pe_bm PySem.F.plainAttrs_list PySem.F.slot_list_insert PySem.F.type_list_insert mt_insert po (pa_cons pi (pa_cons pe pa_nil hs2) hs) hbase hfew hline hs hplain) hsw, fun G H σ ρ fp oo D R hm q => ?_⟩
  unfold mInsert at hm
  split at hm
  rotate_left
  · cases hm
  rename_i i p ri r e1 e0 e2
  split at hm
  rotate_left
  · cases hm
  rename_i s n t e3 e9 e4
  split at hm
  rotate_left
  · cases hm
  rename_i ss e5
  split at hm
  rotate_left
  · cases hm
  rename_i hl
  cases hm
  refine so G H σ ρ fp i p _ R e1 fun v a H1 s' ss' g1 g2 g3 x1 at1 => ?_
  rw [e3] at g1; cases g1
  have R1 := R.grow x1
  obtain ⟨v', h1, h2⟩ := R1.sl i _ e3
  rw [g3] at h1; cases h1
  obtain ⟨vs1, Fa1, ha1, hL1, _⟩ := h2.mut at1 e5
  refine ⟨.inl ⟨rfl, _, SqL.of ha1⟩, ?_⟩
  refine si G H1 σ ρ fp ri _ R1 e0 fun wi Fi H3 x3 o3 => ?_
  have hwi := o3.data; rw [e9] at hwi; cases hwi
  have R3 := R1.grow x3
  refine se G H3 σ ρ fp r _ R3 e2 fun w F H2 x2 o2 => ?_
  obtain ⟨vs2, Fa2, ha2, hL2, hn2, hsub2, hai, hmut⟩ := R3.mutate x2 e3 g3 ((at1.mono x3).mono x2) e5
  refine ⟨a, vs2, n, w, rfl, rfl, ha2, ?_, hl.1, by omega, ?_⟩
  · rw [← hL2.len]; exact Evl.sz_lt hl.2.2
  · have hT := o2.tree e4
    have hdj : ∀ b, b ∈ Fa2 → b ∉ F := fun b m z => by
      obtain ⟨xs, hb⟩ := R3.ls i b (hsub2 b m)
      rw [o2.fresh b z] at hb; cases hb
    have haF : a ∉ F := fun z => by
      obtain ⟨xs, hb⟩ := R3.ls i a hai
      rw [o2.fresh a z] at hb; cases hb
    have es : Ex (stb H2) (stb (upd H2 a (.lst (vs2.take n.toNat ++ [w] ++ vs2.drop n.toNat)))) := stb_upd ha2
    obtain ⟨F', r1, s1⟩ := RepL.ins (hT.keep (H' := upd H2 a (.lst (vs2.take n.toNat ++ [w] ++ vs2.drop n.toNat))) ⟨es, fun b m u h => by rw [upd_ne (by rintro rfl; exact haF m)]; exact h⟩) n.toNat (hL2.keep ⟨es, fun b m u h => by rw [upd_ne (by rintro rfl; exact hn2 m)]; exact h⟩) hdj
    obtain ⟨fp', R'⟩ := hmut _ _ _ r1 (fun z => by
      rcases s1 a z with z | z
      · exact hn2 z
      · exact haF z) (fun b m => (s1 b m).imp id (o2.fresh b))
    exact q _ _ fp' R'
/-! return tuple(xs), xs owned -/
def mRetTup (i : Nat) : MS := fun ρ => match ρ[i]? with
  | some (.tr (.own ss)) => some (.rt (.tp ss))
  | _ => none
theorem xs_retTup (i : Nat) (hg : Gl X "tuple") (hm : X.mg "tuple" = none) (hN : X.N[i]? = some x := by rfl) (hv : Vis X.env.scope x := by first | exact Or.inl rfl | exact Or.inr (Or.inl rfl) | exact Or.inr (Or.inr rfl)) (hd : (x == ("__debug__" : Str)) = false := by decide)
    (hcd : (x == ("__classdict__" : Str)) = false := by decide)
    (he : starEach [.Name x q] X.env = (false, eval (.Name x q) X.env) :: starEach [] X.env := by rfl) (hpl : (backTo p2 (starEach [] X.env)).any (·.1) = false := by rfl) : XS X W (.Return (some (.Call (.Name "tuple" p) [.Name x q] [] p2)) pos) (mRetTup i) := by
  refine ⟨_, ps_ret (pe_callTy call_tuple_of hg hm boot_tuple (pa_cons (pe_var (i := i) hN hv hd hcd) pa_nil he) (by decide) (by decide) he hpl), fun G H σ ρ fp o D R hm q => ?_⟩
  unfold mRetTup at hm
  split at hm
  rotate_left
  · cases hm
  rename_i ss e1
  cases hm
  obtain ⟨v, h1, h2⟩ := R.sl i _ e1
  have hnew := R.new i
  generalize hF : fp i = F at h2 hnew
  cases h2 with
  | @own a vs _ F0 h0 hL hn =>
    refine ⟨_, h1, a, vs, rfl, .inl ⟨SqL.of h0, fun l hl => ?_⟩⟩
    exact q _ F0 _ (R.ex.trans (Evl.Ex.new hl)) (.tp upd_same (hL.mono (Evl.Ex.new hl))) fun b m => hnew b (List.mem_cons_of_mem _ m)
end
end DL

set_option Elab.async false
set_option linter.all false
set_option maxRecDepth 100000
set_option maxHeartbeats 4000000
/-! A list handed over to a def, which hands it (or another) back; try with two kinds of exceptions; an item that is a list moves from one list to another. -/
namespace DL
open PySem PySem.Spec PyProof.Rows L2
open Evl (Ex)
def envV (n : Nat) (s : S) (ds : List D) : DL.Env := Sl.tr s :: (ds.map Sl.sh ++ List.replicate (n - (1 + ds.length)) .dead)
def runV (n : Nat) (m : MS) (s : S) (ds : List D) : Option S := match m (envV n s ds) with
  | some (.rt o) => some o
  | _ => none
def oneF (F : List Addr) : Nat → List Addr := fun j => if j = 0 then F else []
theorem oneF_sub {F : List Addr} {j : Nat} {b : Addr} (m : b ∈ oneF F j) : b ∈ F := by
  unfold oneF at m
  split at m
  · exact m
  · cases m
def spV (K : PySem.W.Frag) (n : Nat) (g : S → List D → Option S) : Sp := fun vs H Q _ => vs.length = n ∧ ∃ (a : Addr) (s : S) (F : List Addr) (ws : List V) (ds : List D) (o : S),
  vs = V.ref a :: ws ∧ Rep K H s (.ref a) F ∧ DtL K (hid H (oneF F)) ws ds ∧ g s ds = some o ∧
  ∀ (v : V) (F' : List Addr) (H' : Hp), Ex (hid H (oneF F)) H' → Rep K H' o v F' → (∀ b ∈ F', hid H (oneF F) b = none) → Q v H'
section
variable {P : Program} {w : World} {K : PySem.W.Frag} {mg : Str → Option Value} {base : Heap}
theorem fnV {x qual : Str} {st : Stmt} {f : Addr} {fd : FuncData} {N ps : List Str} {k n : Nat} {m : MS} (F : Fun K x qual st f fd) (S : FnScope N ps (defScope st)) (hn : ps.length = n)
    (hbody : ∀ (cdv : Value) (A : Around) (outer : List PySem.Env) (s : Shared) (H : Hp) (E : XK), Room k (A.deeper (envOfC qual (defScope st) s.heap.objs.size f cdv)) →
      XSs (cxOf (L2.CX P w) P w K mg base N qual (defScope st) f cdv A outer s H E) E (defBody st) m) : FnOk P w K mg base (L2.CX P w) (k + 1) f fd ps (spV K n (runV N.length m)) := by
  refine F.okX S (fun vs H Q E h => h.1.trans hn.symm) fun cdv A outer s H vs Q E hr h => ?_
  obtain ⟨t, p, sim⟩ := (hbody cdv A outer s H E hr).sim
  obtain ⟨hlen, a, s0, F0, ws, ds, o, rfl, h1, h6, h7, h8⟩ := h
  refine ⟨t, p, ?_⟩
  unfold runV at h7
  split at h7
  rotate_left
  · cases h7
  rename_i o' e1
  cases h7
  have hN : 1 + ws.length ≤ N.length := by
    have := congrArg List.length S.pre
    rw [List.length_take] at this
    simp only [List.length_cons] at hlen
    omega
  have R0 : RelF K (hid H (oneF F0)) H (L2.start N ([a].map V.ref ++ ws)) (envA N.length [a] [s0] ds) (oneF F0) :=
    RelF.startA (h := 1) rfl rfl (fun i b u q1 q2 => by
      cases i with
      | zero => cases q1; cases q2; exact h1
      | succ i => simp at q1) (fun i hi => by unfold oneF; rw [if_neg (by omega)]) (fun i j b m1 m2 => by
      unfold oneF at m1 m2
      split at m1
      · split at m2
        · omega
        · cases m2
      · cases m1) h6 hN
  have R1 := R0.toTr (i := 0) (a := a) (s := s0) rfl
  have ee : (envA N.length [a] [s0] ds).set 0 (.tr s0) = envV N.length s0 ds := rfl
  rw [ee] at R1
  exact sim (hid H (oneF F0)) H _ _ _ _ _ R1 e1 fun v F H' x r f => h8 v F H' x r f
end
section
variable {X : Cx} {W : XK} {e b : Expr} {es : List Expr} {ma mb mj : ME} {ms : MA} {x y n z : Str} {p q p2 p3 pos apos cpos : Pos}
/-- y = f(y, ..): y's list goes in, what comes out is y's -/
def mCallV (i n : Nat) (g : S → List D → Option S) (ms : MA) : MS := fun ρ => match ρ[i]?, ms ρ with
  | some (.tr (.own ss)), some rs => if rs.all stillR = true ∧ 1 + rs.length = n then (match g (.own ss) (rs.map R.data) with
    | some (.own os) => some (.nx ((killVw ρ).set i (.tr (.own os))))
    | _ => none) else none
  | _, _ => none
theorem xs_callV {i k n : Nat} {f : Addr} {fd : FuncData} {ps : List Str} {g : S → List D → Option S} {pos' : Pos} (F : FnOk X.prog X.w X.K X.mg X.base (L2.CX X.prog X.w) k f fd ps (spV X.K n g)) (hr : Room k X.A) (hg : Gl X x) (hm : X.mg x = some (.ref f)) (hk : PySem.W.keepIn X.K (.ref f) = true) (hb : Binds X.K fd ps []) (hx : Passes (L2.CX X.prog X.w) X E0)
    (hND : X.N.Nodup) (hN : X.N[i]? = some y) (hy : Loc X.env.scope y)
    (ha : XA X es ms) (hv : Vis X.env.scope y := by first | exact Or.inl rfl | exact Or.inr (Or.inl rfl) | exact Or.inr (Or.inr rfl)) (hd : (y == ("__debug__" : Str)) = false := by decide) (hcd : (y == ("__classdict__" : Str)) = false := by decide)
    (hdb : (x == ("__debug__" : Str)) = false := by decide) (he : starEach (.Name y q :: es) X.env = (false, eval (.Name y q) X.env) :: starEach es X.env := by rfl) (hpl : (backTo p2 (starEach es X.env)).any (·.1) = false := by rfl)
    (hs : swapsWith (.Call (.Name x p) (.Name y q :: es) [] p2) (some (.Name y pos')) pos.line X.env = pure false := by rfl) (hf : X.fn y = true ∨ X.env.scope.names.lookup y = some .local := by first | exact .inl rfl | exact .inr rfl | assumption) :
    XS X W (.Assign [.Name y pos'] (.Call (.Name x p) (.Name y q :: es) [] p2) pos) (mCallV i n g ms) := by
  obtain ⟨t, pa, s⟩ := ha
  refine ⟨_, ps_set hND hN hy (pe_call F hr hg hm hk hb .nil hx (pa_cons (pe_var hN hv hd hcd) pa he) hdb he hpl) hs hf, fun G H σ ρ fp oo D R hm q => ?_⟩
  unfold mCallV at hm
  split at hm
  rotate_left
  · cases hm
  rename_i ss rs e1 e2
  split at hm
  rotate_left
  · cases hm
  rename_i hc
  obtain ⟨hst, hn⟩ := hc
  split at hm
  rotate_left
  · cases hm
  rename_i os e3
  cases hm
  obtain ⟨v, hv1, hr1⟩ := R.sl i _ e1
  obtain ⟨a, rfl⟩ : ∃ a, v = .ref a := by
    generalize fp i = F at hr1
    cases hr1; exact ⟨_, rfl⟩
  refine ⟨_, hv1, ?_⟩
  refine s G H σ ρ fp rs _ R e2 fun ws Fw H1 x1 o1 => ?_
  show spV X.K n g ((V.ref a :: ws) ++ []) H1 _ _
  rw [List.append_nil]
  have R1 := R.grow x1
  have hws := o1.still R1.ls hst
  have hr2 := hr1.mono x1
  refine ⟨?_, a, .own ss, fp i, ws, _, .own os, rfl, hr2, hws.mono (hid_any fun j b m => ⟨i, oneF_sub m⟩), e3, ?_⟩
  · have := hws.len
    simp only [List.length_map] at this
    simp only [List.length_cons, this]; omega
  · intro v F' H' hex hrep hnew
    have hil : i < ρ.length := (List.getElem?_eq_some_iff.mp e1).1
    have hkl : (killVw ρ).length = ρ.length := by simp [killVw]
    have hsl : i < σ.length := by rw [R.len]; exact hil
    refine q (σ.set i (some v)) H' (fset fp i F') (RelF.remake (fun j => j = i) R1 (by simp [hkl]) (by simp) (fun j hj => by rw [List.getElem?_set_ne (Ne.symm hj)]) (fun b o hb ho => hex b o ?_) (fun j b hj m => ?_) (fun j1 j2 b h1 h2 _ _ => h1.trans h2.symm) (fun j hj => fset_ne hj) (fun j hj => ?_) (fun j hj => ?_))
    · rw [hid_at]
      · exact ho
      · exact fun j m => hb i rfl (oneF_sub m)
    · subst hj
      rw [fset_self] at m
      have z := hnew b m
      by_cases hbm : b ∈ fp j
      · exact .inl ⟨j, rfl, hbm⟩
      · right
        rw [hid_at (fun k mk => hbm (oneF_sub mk))] at z
        exact z
    · subst hj
      rw [fset_self]
      exact .inr ⟨.own os, v, by rw [List.getElem?_set_self (by rw [hkl]; exact hil)], by rw [List.getElem?_set_self hsl], hrep⟩
    · rw [List.getElem?_set_ne (Ne.symm hj)]
/-! try, two kinds -/
def mTryB (m : MS) (C : Bool → Addr) (s : Bool → S) : MS := fun ρ => match m ρ with
  | some (.ex C') => if C' = C true then some (.rt (s true)) else if C' = C false then some (.rt (s false)) else none
  | o => o
open Classical in
theorem xs_tryB {c : Value} {C : Bool → Addr} {s : Bool → S} {i : Nat} {body suite : List Stmt} {b₀ : Stmt} {np pos pos' : Pos} {m : MS} {m2 : Bool → Addr → MS} (hs : X.stack = X.env :: X.outer) (hf : X.env.frame = some X.env.locals) (hN : X.N.Nodup) (hi : X.N[i]? = some n) (hln : X.env.kindOf n = some .local) (hc : Names X x c)
    (hex : ∀ u, PySem.W.exmOne X.K (.ref (C u)) c = some true) (tk : Takes X fun c d _ H => W c d H)
    (hb : ∀ (W' : XK) (pn : List (Addr × Obj)) (xe : Value → Shared → Prop), Takes (X.tr pn xe) (fun c d _ H => W' c d H) → PassesOwn (model X.prog X.w) X.A X.env xe → XSs (X.tr pn xe) W' body m)
    (hsu : ∀ (u : Bool) (a : Addr) (oe : Obj) (pn : List (Addr × Obj)), Zc (.ref (C u)) none oe → (∃ vs, oe.data = .fields vs) → XSs (X.suite a ((a, oe) :: pn)) (fun _ _ _ => False) (b₀ :: suite) (m2 u a))
    (hm2 : ∀ u a, m2 u a ((List.replicate X.N.length .dead).set i (.ad a)) = some (.rt (s u))) :
    XS X W (.Try body [.ExceptHandler (some (.Name x np)) (some n) (b₀ :: suite) pos'] [] [] pos) (mTryB m C s) := by
  let ts : Addr → Value → Option Addr → TS := fun a cls d => if cls = .ref (C true) ∧ d = none then canS X.K (fun _ _ _ => False) (m2 true a) else if cls = .ref (C false) ∧ d = none then canS X.K (fun _ _ _ => False) (m2 false a) else fun _ _ _ => False
  have fin : ∀ (u : Bool) (G H : Hp) (σ : L2.St) (ρ : DL.Env) (fp : Nat → List Addr) (D : Ends), RelF X.K G H σ ρ fp → m ρ = some (.ex (C u)) → (∀ a, ts a (Value.ref (C u)) none = canS X.K (fun _ _ _ => False) (m2 u a)) → OutOk X.K G W D (.rt (s u)) →
      canS X.K (fun cl d H => ∀ σ : L2.St, σ.length = X.N.length → wAs X.K c i ts (fun c d _ H => W c d H) D cl d σ H) m D σ H := fun u G H σ ρ fp D R e1 hts q => by
    refine ⟨G, ρ, fp, _, R, e1, fun H' x => ?_⟩
    intro σ' hl
    refine ⟨true, hex u, fun _ a ha => ?_, fun z => nomatch z⟩
    rw [hts a]
    refine ⟨H', _, fun _ => [], _, ?_, hm2 u a, fun v F H'' x2 r f => q v F H'' (x.trans x2) r fun b m => Evl.fresh_back x (f b m)⟩
    refine ⟨by simpa using hl, Evl.Ex.refl H', (fun i j b m => by cases m), (fun i b m => by cases m), (fun i b m => by cases m), fun j sl hsl => ?_⟩
    have hil : i < X.N.length := (List.getElem?_eq_some_iff.mp hi).1
    by_cases hj : j = i
    · subst hj
      rw [List.getElem?_set_self (by simpa using hil)] at hsl
      cases hsl
      exact ⟨rfl, by rw [List.getElem?_set_self (by omega)]⟩
    · rw [List.getElem?_set_ne (Ne.symm hj), List.getElem?_replicate] at hsl
      split at hsl
      · cases hsl; rfl
      · cases hsl
  refine ⟨_, ps_try_as (i := i) (tb := fun W0 => canS X.K (fun c d H => ∀ σ : L2.St, σ.length = X.N.length → W0 c d σ H) m) (ts := ts) hs hf hN hi hln hc tk (fun W0 pn xe tk0 po => (hb _ pn xe (takes_len tk0) po).can) (fun a oe cls d pn hz hv => ?_), fun G H σ ρ fp o D R hm q => ?_⟩
  · show PSs _ _ (if cls = .ref (C true) ∧ d = none then _ else _)
    by_cases hcd : cls = .ref (C true) ∧ d = none
    · rw [if_pos hcd]
      obtain ⟨rfl, rfl⟩ := hcd
      exact (hsu true a oe pn hz hv).can
    · rw [if_neg hcd]
      by_cases hcd2 : cls = .ref (C false) ∧ d = none
      · rw [if_pos hcd2]
        obtain ⟨rfl, rfl⟩ := hcd2
        exact (hsu false a oe pn hz hv).can
      · rw [if_neg hcd2]
        exact ⟨fun pins s' σ H D I h => h.elim⟩
  · unfold mTryB at hm
    split at hm
    · rename_i C' e1
      split at hm
      · rename_i hC; subst hC; cases hm
        exact fin true G H σ ρ fp D R e1 (fun a => if_pos ⟨rfl, rfl⟩) q
      · rename_i hC1
        split at hm
        · rename_i hC; subst hC; cases hm
          refine fin false G H σ ρ fp D R e1 (fun a => ?_) q
          show (if Value.ref (C false) = .ref (C true) ∧ (none : Option Addr) = none then _ else _) = _
          rw [if_neg (fun z => hC1 (Value.ref.inj z.1)), if_pos ⟨rfl, rfl⟩]
        · cases hm
    · rename_i o' hne
      refine ⟨G, ρ, fp, o, R, hm, ?_⟩
      cases o with
      | nx ρ => exact q
      | rt s => exact q
      | bk ρ => exact q
      | ct ρ => exact q
      | ex C' => exact (hne C' hm).elim
/-! xs[i] = ys[j]: an item that is a list goes over, ys is not looked at again -/
def mMovIx (ix iy : Nat) (mb mj : ME) : MS := fun ρ => match ρ[ix]?, ρ[iy]?, mpIx (mpV iy) mj ρ, mb ρ with
  | some (.tr (.own ss)), some (.tr (.own ts)), some (_, k :: []), some rb => match ts[k]?, rb.data with
    | some t, .int j => match ixN ss.length j with
      | some k2 => if ix ≠ iy then some (.nx (((killVw ρ).set iy .dead).set ix (.tr (.own (ss.set k2 t))))) else none
      | none => none
    | _, _ => none
  | _, _, _, _ => none
def mSetIxMv (ix iy : Nat) (mb mj : ME) : MS := fun ρ => match mSetIx (mpV ix) mb (mOp fIx (mVar iy) mj) ρ with
  | some o => some o
  | none => mMovIx ix iy mb mj ρ
theorem mpIx_slot {iy : Nat} {ρ : DL.Env} {i : Nat} {l : List Nat} (h : mpIx (mpV iy) mj ρ = some (i, l)) : i = iy := by
  unfold mpIx at h
  split at h
  rotate_left
  · cases h
  rename_i i0 p0 r e1 e2
  have hi : i0 = iy := by
    unfold mpV at e1
    split at e1
    · cases e1; rfl
    · cases e1; rfl
    · cases e1
  split at h
  rotate_left
  · cases h
  split at h
  rotate_left
  · cases h
  split at h
  rotate_left
  · cases h
  split at h
  · cases h; exact hi
  · cases h
theorem PE.or2 {t1 t2 : TE} (h1 : PE X e t1) (h2 : PE X e t2) : PE X e (fun σ H Q => t1 σ H Q ∨ t2 σ H Q) := ⟨fun pins s σ H Q I w => by
  rcases w with w | w
  · exact h1.run pins s σ H Q I w
  · exact h2.run pins s σ H Q I w⟩
theorem xs_setIxMv {ix iy : Nat} {c : Expr} {sp xp yp : Pos} (ho : XP X (.Name x xp) (mpV ix)) (hy : XE X (.Name y yp) (mVar iy)) (hyp : XP X (.Name y yp) (mpV iy)) (hb : XE X b mb) (hc : XE X c mj)
    (hix : XE X (.Subscript (.Name y yp) c sp) (mOp fIx (mVar iy) mj)) (hpx : XP X (.Subscript (.Name y yp) c sp) (mpIx (mpV iy) mj))
    (ha : ∀ v, assign (.Subscript (.Name x xp) b apos) X.env v = (do
      let ov ← holding [v] (eval (.Name x xp) X.env)
      let iv ← holding [v, ov] (eval b X.env)
      standAt apos
      holding [v, ov, iv] (setItem ov iv v)
      release [v, ov, iv] []) := by intro _; rfl)
    (hs : swapsWithSole [.Subscript (.Name x xp) b apos] (.Subscript (.Name y yp) c sp) pos.line X.env = pure false := by rfl) (hw : swappedStores [.Subscript (.Name x xp) b apos] (.Subscript (.Name y yp) c sp) X.env = pure none := by rfl)
    (h1 : (assignEach [.Subscript (.Name x xp) b apos] X.env).map (·.2) = [assign (.Subscript (.Name x xp) b apos) X.env] := by rfl) : XS X W (.Assign [.Subscript (.Name x xp) b apos] (.Subscript (.Name y yp) c sp) pos) (mSetIxMv ix iy mb mj) := by
  obtain ⟨to, po, so⟩ := ho
  obtain ⟨te, pe, se⟩ := hix
  obtain ⟨tp, pp, sp'⟩ := hpx
  obtain ⟨tb, pb, sb⟩ := hb
  refine ⟨_, ps_asg (PE.or2 pe pp) (pg_sub po pb set_list ha) hs hw h1, fun G H σ ρ fp oo D R hm q => ?_⟩
  unfold mSetIxMv at hm
  split at hm
  · rename_i o0 hm0
    cases hm
    refine .inl ?_
    unfold mSetIx at hm0
    split at hm0
    rotate_left
    · cases hm0
    rename_i i p rb r e1 e2 e3
    split at hm0
    rotate_left
    · cases hm0
    rename_i s j t e4 e5 e6
    split at hm0
    rotate_left
    · cases hm0
    rename_i ss e7
    split at hm0
    rotate_left
    · cases hm0
    rename_i k e8
    cases hm0
    refine se G H σ ρ fp r _ R e3 fun w F H1 x1 o1 => ?_
    have R1 := R.grow x1
    refine so G H1 σ ρ fp i p _ R1 e1 fun v a H2 s' ss' g1 g2 g3 x2 at2 => ?_
    rw [e4] at g1; cases g1
    have R2 := R1.grow x2
    refine sb G H2 σ ρ fp rb _ R2 e2 fun y Fy H3 x3 o3 => ?_
    have hy := o3.data; rw [e5] at hy; cases hy
    obtain ⟨vs2, Fa2, ha2, hL2, hn2, hsub2, hai, hmut⟩ := R.mutate ((x1.trans x2).trans x3) e4 g3 (at2.mono x3) e7
    refine ⟨a, vs2, j, k, rfl, rfl, ha2, ?_, ?_⟩
    · rw [← hL2.len]; exact e8
    · have hT := ((o1.tree e6).mono x2).mono x3
      have hdj : ∀ b, b ∈ Fa2 → b ∉ F := fun b m z => by
        obtain ⟨xs, hb⟩ := R.ls i b (hsub2 b m)
        rw [o1.fresh b z] at hb; cases hb
      have haF : a ∉ F := fun z => by
        obtain ⟨xs, hb⟩ := R.ls i a hai
        rw [o1.fresh a z] at hb; cases hb
      have es : Ex (stb H3) (stb (upd H3 a (.lst (vs2.set k w)))) := stb_upd ha2
      obtain ⟨F', r1, s1⟩ := RepL.setAt (k := k) (hT.keep (H' := upd H3 a (.lst (vs2.set k w))) ⟨es, fun b m u h => by rw [upd_ne (by rintro rfl; exact haF m)]; exact h⟩) (hL2.keep ⟨es, fun b m u h => by rw [upd_ne (by rintro rfl; exact hn2 m)]; exact h⟩) hdj
      obtain ⟨fp', R'⟩ := hmut _ _ _ r1 (fun z => by
        rcases s1 a z with z | z
        · exact hn2 z
        · exact haF z) (fun b m => (s1 b m).imp id (o1.fresh b))
      exact q _ _ fp' R'
  · refine .inr ?_
    unfold mMovIx at hm
    split at hm
    rotate_left
    · cases hm
    rename_i ss ts iy' k rb e1 e2 e3 e4
    split at hm
    rotate_left
    · cases hm
    rename_i t j e5 e6
    split at hm
    rotate_left
    · cases hm
    rename_i k2 e7
    split at hm
    rotate_left
    · cases hm
    rename_i hne
    cases hm
    have hiy := mpIx_slot e3
    subst hiy
    refine sp' G H σ ρ fp _ _ _ R e3 fun vy ac H1 sy ssy g1 g2 g3 x1 at1 => ?_
    rw [e2] at g1; cases g1
    have R1 := R.grow x1
    have eo : mpV ix ρ = some (ix, []) := by unfold mpV; rw [e1]
    refine so G H1 σ ρ fp ix [] _ R1 eo fun v a H2 s' ss' k1 k2' k3 x2 at2 => ?_
    rw [e1] at k1; cases k1
    have R2 := R1.grow x2
    refine sb G H2 σ ρ fp rb _ R2 e4 fun yv Fy H3 x3 o3 => ?_
    have hyv := o3.data; rw [e6] at hyv; cases hyv
    have R3 := R2.grow x3
    -- the two lists
    obtain ⟨vx, hx1, hx2⟩ := R3.sl ix _ e1
    rw [k3] at hx1; cases hx1
    have hva : v = .ref a := at2
    subst hva
    obtain ⟨vy', hy1, hy2⟩ := R3.sl iy' _ e2
    rw [g3] at hy1; cases hy1
    have at3 := (at1.mono x2).mono x3
    generalize hFx : fp ix = Fx at hx2
    generalize hFy : fp iy' = Fyy at hy2
    cases hx2 with
    | @own _ vs _ F0 h0 hL hn =>
      cases hy2 with
      | @own b0 ws _ F1 h0' hL' hn' =>
        obtain ⟨b1, vs0, w, eb, hb1, hk1, hp1⟩ := at3
        cases eb
        have ews : vs0 = ws := by
          rcases hb1 with z | z
          · rw [h0'] at z; cases z; rfl
          · rw [h0'] at z; cases z
        subst ews
        have hw : w = .ref ac := hp1
        subst hw
        obtain ⟨w', Fc, c1, c2, c3⟩ := hL'.get e5
        rw [hk1] at c1; cases c1
        have hin : ∀ b, b ∈ Fc → b ∈ fp iy' := fun b m => by rw [hFy]; exact List.mem_cons_of_mem _ (c3 b m)
        have hdj : ∀ b, b ∈ F0 → b ∉ Fc := fun b m z => hne (R.dj ix iy' b (by rw [hFx]; exact List.mem_cons_of_mem _ m) (hin b z))
        have haF : a ∉ Fc := fun z => hne (R.dj ix iy' a (by rw [hFx]; exact List.mem_cons_self) (hin a z))
        refine ⟨a, vs, j, k2, rfl, rfl, h0, ?_, ?_⟩
        · rw [← hL.len]; exact e7
        · let H4 := upd H3 a (.lst (vs.set k2 (.ref ac)))
          have es : Ex (stb H3) (stb H4) := stb_upd h0
          obtain ⟨F', r1, s1⟩ := RepL.setAt (k := k2) (c2.keep (H' := H4) ⟨es, fun b m u h => by show upd H3 a _ b = _; rw [upd_ne (by rintro rfl; exact haF m)]; exact h⟩) (hL.keep ⟨es, fun b m u h => by show upd H3 a _ b = _; rw [upd_ne (by rintro rfl; exact hn m)]; exact h⟩) hdj
          have ha' : a ∉ F' := fun z => by
            rcases s1 a z with z | z
            · exact hn z
            · exact haF z
          have rep : Rep X.K H4 (.own (ss.set k2 t)) (.ref a) (a :: F') := .own upd_same r1 ha'
          have hkl : (killVw ρ).length = ρ.length := by simp [killVw]
          have hl1 : ix < ρ.length := (List.getElem?_eq_some_iff.mp e1).1
          have hl2 : iy' < ρ.length := (List.getElem?_eq_some_iff.mp e2).1
          have hsubF : ∀ b, b ∈ a :: F' → b ∈ fp ix ∨ b ∈ fp iy' := fun b m => by
            rcases List.mem_cons.mp m with rfl | m
            · left; rw [hFx]; exact List.mem_cons_self
            · rcases s1 b m with z | z
              · left; rw [hFx]; exact List.mem_cons_of_mem _ z
              · right; exact hin b z
          refine q σ H4 (fset (fset fp iy' []) ix (a :: F')) (RelF.remake (fun i => i = ix ∨ i = iy') R3 (by simp [hkl]) rfl (fun _ _ => rfl) (fun b o hb ho => ?_) (fun i b hi m => ?_) (fun i1 i2 b h1 h2 m1 m2 => ?_) (fun i hi => ?_) (fun i hi => ?_) (fun i hi => ?_))
          · show upd H3 a _ b = _
            rw [upd_ne]
            · exact ho
            · rintro rfl; exact hb ix (.inl rfl) (by rw [hFx]; exact List.mem_cons_self)
          · left
            rcases hi with rfl | rfl
            · rw [fset_self] at m
              rcases hsubF b m with z | z
              · exact ⟨_, .inl rfl, z⟩
              · exact ⟨_, .inr rfl, z⟩
            · rw [fset_ne (Ne.symm hne), fset_self] at m; cases m
          · rcases h1 with rfl | rfl
            · rcases h2 with rfl | rfl
              · rfl
              · rw [fset_ne (Ne.symm hne), fset_self] at m2; cases m2
            · rw [fset_ne (Ne.symm hne), fset_self] at m1; cases m1
          · rw [fset_ne (fun z => hi (.inl z)), fset_ne (fun z => hi (.inr z))]
          · rcases hi with rfl | rfl
            · right
              rw [fset_self]
              exact ⟨_, _, by rw [List.getElem?_set_self (by simp [hkl]; exact hl1)], k3, rep⟩
            · left
              rw [fset_ne (Ne.symm hne), fset_self]
              exact ⟨by rw [List.getElem?_set_ne hne, List.getElem?_set_self (by rw [hkl]; exact hl2)], rfl⟩
          · rw [List.getElem?_set_ne (fun z => hi (.inl z.symm)), List.getElem?_set_ne (fun z => hi (.inr z.symm))]
end
end DL

set_option Elab.async false
set_option linter.all false
set_option maxRecDepth 100000
set_option maxHeartbeats 4000000
/-! While an exception is handled: the ends of a list's and a text's iterator. -/
namespace HotD
open PySem PySem.Spec PyProof.Rows HotX
section
variable {prog : Program} {w : World} {A : Around} {E : Value → Shared → Prop} {s : Shared}
theorem next_list_hot {it l x1 : Addr} {i : Nat} {items : Array Value} {Q : Option Value → Shared → Prop} (hot : HotAt A x1 s.heap) (hne : x1 ≠ it)
    (hit : s.heap.IsListIter it l i) (hl : s.heap.IsList l items) (hx : items[i]? = none)
    (hQ : ∀ h', Heap.ExtBut it s.heap h' → Q none { s with heap := h' }) : wpAny (model prog w) A (pyNext (.ref it)) Q E s := by
  obtain ⟨o, ho, hc, hd⟩ := id hit
  obtain ⟨ol, hol, _, nl, hdl⟩ := hl
  obtain ⟨hh, o1, vs1, g1, d1, c1⟩ := hot
  unfold pyNext
  refine wpAny_bind (wpAny_attempt (wpAny_callSpecial?_slot (name := Str.ofString "__next__") hit.typeIs slot_listiter_next
    (wpAny_call_entry slot_listiter_next hit.typeIs entry_listiter_next ?_ (args_listiter_next _))))
  show wpAny _ _ (field (.ref it) 0 >>= _) _ _ s
  refine wpAny_bind (wpAny_field ho hd (x := .ref l) rfl ?_)
  show wpAny _ _ (if (Value.ref l == Value.none) = true then _ else _) _ _ s
  rw [if_neg (show ¬ ((Value.ref l == Value.none) = true) from Bool.false_ne_true)]
  show wpAny _ _ (field (.ref it) 1 >>= _) _ _ s
  refine wpAny_bind (wpAny_field ho hd (x := .int i 0) rfl ?_)
  show wpAny _ _ (seqItems? (.ref l) >>= _) _ _ s
  refine wpAny_bind (wpAny_seqItems hol hdl ?_)
  simp only [Int.toNat_natCast, hx]
  refine wpAny_bind (wpAny_rule (wpAny_bind (wpAny_setField ho hd (by simp) ?_)))
  show wpAny _ _ (newExc (.type "StopIteration") [] >>= _) _ _ _
  refine wpAny_bind ?_
  simp only [newExc, newTuple]
  refine wpAny_bind (wpAny_newObj_type ?_ (by size_fits))
  refine wpAny_bind (m := firstArgMember _ _) (wpAny_of_eq (a := Value.none) (by first | rfl | (simp only [firstArgMember]; rfl)) ?_)
  refine wpAny_newObj_type ?_ (by size_fits)
  have ku : ∀ {f : Obj → Obj} {b : Addr} {u : Obj}, b ≠ it → s.heap.get? b = some u → (s.heap.update it f).get? b = some u := fun hb e => (Heap.get?_update_other s.heap _ (Ne.symm hb)).trans e
  refine raiseNew_hot ⟨hh, o1, vs1, Heap.get?_push_of_some _ (Heap.get?_push_of_some _ (ku hne g1)), d1, c1⟩ (Nat.ne_of_lt (Heap.lt_size (Heap.get?_push_of_some _ (ku hne g1)))) (Heap.get?_push_size _ rfl) rfl (by first | (simp; done) | (simp; omega) | (simp only [Array.size_append]; simp; omega)) ?_
  refine wpAny_bind (wpAny_isInstance (T := "StopIteration") (b := true) ⟨_, Heap.get?_update_self _ (Heap.get?_push_size _ rfl) rfl, rfl⟩ isSubtype_stop ?_)
  refine wpAny_pure (hQ _ fun b u hb e => ?_)
  rw [Heap.get?_update_other _ _ (Nat.ne_of_gt (Heap.lt_size (Heap.get?_push_of_some _ (ku hb e))))]
  exact Heap.get?_push_of_some _ (Heap.get?_push_of_some _ (ku hb e))
theorem next_text_hot {it x1 : Addr} {x : Str} {t : Tok} {i : Nat} {ty : String} (hty : ty = "str_ascii_iterator" ∨ ty = "str_iterator") {Q : Option Value → Shared → Prop} (hot : HotAt A x1 s.heap) (hne : x1 ≠ it)
    (hit : s.heap.IsStrIter it ty x t i) (hx : x.cps[i]? = none)
    (hQ : ∀ h', Heap.ExtBut it s.heap h' → Q none { s with heap := h' }) : wpAny (model prog w) A (pyNext (.ref it)) Q E s := by
  obtain ⟨o, ho, hc, hd⟩ := id hit
  obtain ⟨hh, o1, vs1, g1, d1, c1⟩ := hot
  have ku : ∀ {f : Obj → Obj} {b : Addr} {u : Obj}, b ≠ it → s.heap.get? b = some u → (s.heap.update it f).get? b = some u := fun hb e => (Heap.get?_update_other s.heap _ (Ne.symm hb)).trans e
  rcases hty with rfl | rfl
  all_goals
    unfold pyNext
    first
      | refine wpAny_bind (wpAny_attempt (wpAny_callSpecial?_slot (name := Str.ofString "__next__") hit.typeIs F.slot_str_ascii_iterator_next
          (wpAny_call_entry F.slot_str_ascii_iterator_next hit.typeIs F.entry_str_ascii_iterator_next ?_ (F.args_str_ascii_iterator_next_1 _))))
      | refine wpAny_bind (wpAny_attempt (wpAny_callSpecial?_slot (name := Str.ofString "__next__") hit.typeIs F.slot_str_iterator_next
          (wpAny_call_entry F.slot_str_iterator_next hit.typeIs F.entry_str_iterator_next ?_ (F.args_str_iterator_next_1 _))))
    show wpAny _ _ (field (.ref it) 0 >>= _) _ _ s
    refine wpAny_bind (wpAny_field ho hd (x := .str x t) rfl ?_)
    show wpAny _ _ (field (.ref it) 1 >>= _) _ _ s
    refine wpAny_bind (wpAny_field ho hd (x := .int i 0) rfl ?_)
    simp only [Int.toNat_natCast, hx]
    refine wpAny_bind (wpAny_rule (wpAny_bind (wpAny_setField ho hd (by simp) (wpAny_bind (wpAny_letGo ?_)))))
    show wpAny _ _ (newExc (.type "StopIteration") [] >>= _) _ _ _
    refine wpAny_bind ?_
    simp only [newExc, newTuple]
    refine wpAny_bind (wpAny_newObj_type ?_ (by size_fits))
    refine wpAny_bind (m := firstArgMember _ _) (wpAny_of_eq (a := Value.none) (by first | rfl | (simp only [firstArgMember]; rfl)) ?_)
    refine wpAny_newObj_type ?_ (by size_fits)
    refine raiseNew_hot ⟨hh, o1, vs1, Heap.get?_push_of_some _ (Heap.get?_push_of_some _ (ku hne g1)), d1, c1⟩ (Nat.ne_of_lt (Heap.lt_size (Heap.get?_push_of_some _ (ku hne g1)))) (Heap.get?_push_size _ rfl) rfl (by first | (simp; done) | (simp; omega) | (simp only [Array.size_append]; simp; omega)) ?_
    refine wpAny_bind (wpAny_isInstance (T := "StopIteration") (b := true) ⟨_, Heap.get?_update_self _ (Heap.get?_push_size _ rfl) rfl, rfl⟩ isSubtype_stop ?_)
    refine wpAny_pure (hQ _ fun b u hb e => ?_)
    rw [Heap.get?_update_other _ _ (Nat.ne_of_gt (Heap.lt_size (Heap.get?_push_of_some _ (ku hb e))))]
    exact Heap.get?_push_of_some _ (Heap.get?_push_of_some _ (ku hb e))
end
end HotD

set_option Elab.async false
set_option linter.all false
set_option maxRecDepth 100000
set_option maxHeartbeats 4000000
/-! Loops and calls while an exception is handled. -/
namespace DL
open PySem PySem.Spec PyProof.Rows L2
open Evl (Ex)
open L2H (TurnH PIH PIEH HotC FnH RoomH Hot1 cxH)
theorem turn_listH {P : Program} {w : World} {K : PySem.W.Frag} {tg : Expr} (a it : Addr) : TurnH P w K tg (Itl K a) [it] it (fun i h => h.IsListIter it a i) where
  mem := by simp
  obj := fun i h st b hb => by
    have e : b = it := by simpa using hb
    subst e
    obtain ⟨o, e, c, d⟩ := st
    exact ⟨o, e, fun v z => by rw [d] at z; cases z⟩
  keep := fun i h h' st k => st.at fun o e => k it (by simp) o e
  item := by
    intro X hP hw hK hc i pins s σ H E I hf st hg
    subst hP hw hK
    obtain ⟨xs, x, hq, hx⟩ := hg
    obtain ⟨its, rv, p, hz⟩ := I.list hq
    obtain ⟨u, hu, ru⟩ := rv.get hx
    obtain ⟨f0, f1, f2, f3, f4, f5⟩ := hf it (by simp)
    refine wpAny_pyNext_list_item st p.isList (x := u) (by simpa using hu) fun h' st' sb => ?_
    have I1 : Inv X pins σ H { s with heap := h' } := I.turned (t' := s.toks) (fun b o hb e => (sb.2 b hb).trans e) f0 f1 f3 f4 f5
    obtain ⟨o, e, c, d⟩ := id st'
    exact ⟨u, rfl, go_of (s := { s with heap := h' }) e c d (by decide) ⟨x, H, I1, ru, ⟨rfl, fun ys hy => by rw [I.list_inj hy hq]; exact hx⟩, st', fun b hb => (hf b hb).1⟩⟩
  done := by
    intro X hP hw hK hc i pins s σ H E I hf st hg
    subst hP hw hK
    obtain ⟨xs, hq, hx⟩ := hg
    obtain ⟨its, rv, p, hz⟩ := I.list hq
    obtain ⟨f0, f1, f2, f3, f4, f5⟩ := hf it (by simp)
    have hl := rv.length
    obtain ⟨pe, ⟨hh, v1, e1, c1⟩, hp⟩ := hc
    exact HotD.next_list_hot ⟨hh, pe.2, v1, (I.pin pe (List.mem_append_left _ hp)).1, e1, c1⟩ (f5 pe (List.mem_append_left _ hp)) st p.isList (by simp; omega) fun h' eb => ⟨rfl, I.turned (t' := s.toks) (fun b o hb e => eb b o hb e) f0 f1 f3 f4 f5⟩
  self := fun _ _ _ _ _ st h => wpAny_pyIter_listiter st h
theorem turn_textH {P : Program} {w : World} {K : PySem.W.Frag} {tg : Expr} (it : Addr) (x : Str) (t : Tok) (ty : String) (hty : ty = "str_ascii_iterator" ∨ ty = "str_iterator") :
    TurnH P w K tg (Its x) [it] it (fun i h => h.IsStrIter it ty x t i) where
  mem := by simp
  obj := fun i h st b hb => by
    have e : b = it := by simpa using hb
    subst e
    obtain ⟨o, e, c, d⟩ := st
    exact ⟨o, e, fun v z => by rw [d] at z; cases z⟩
  keep := fun i h h' st k => let ⟨o, ho, r⟩ := st; ⟨o, k it (by simp) o ho, r⟩
  item := by
    intro X hP hw hK hc i pins s σ H E I hf st hg
    subst hP hw hK
    obtain ⟨f0, f1, f2, f3, f4, f5⟩ := hf it (by simp)
    have hi : i < x.cps.size := hg
    have hcx : x.cps[i]? = some x.cps[i] := by simp [hi]
    have hno : ["enumerate", "zip", "dict_itemiterator", "dict_reverseitemiterator", "odict_iterator", "itertools.zip_longest", "itertools.pairwise"].contains ty = false := by
      rcases hty with e | e
      · rw [e]; decide
      · rw [e]; decide
    have fin : ∀ h', h'.IsStrIter it ty x t (i + 1) → Heap.SameBut it s.heap h' → ∃ u, some (Value.str ⟨#[x.cps[i]]⟩ s.toks) = some u ∧
        wpAny (model X.prog X.w) X.A (letOwnedTupleGo tg (.ref it) u) (fun _ s2 => ∃ x_1 H', Inv X pins σ H' s2 ∧ RelV x_1 u ∧ (Its x).yld i H x_1 H' ∧ s2.heap.IsStrIter it ty x t (i + 1) ∧ ∀ b ∈ [it], H' b = none) E { s with heap := h', toks := s.toks + 1 } := fun h' st' sb => by
      have I1 : Inv X pins σ H { s with heap := h', toks := s.toks + 1 } := I.turned (fun b o hb e => (sb.2 b hb).trans e) f0 f1 f3 f4 f5
      obtain ⟨oi, e, cc, dd⟩ := id st'
      exact ⟨_, rfl, go_of (s := { s with heap := h', toks := s.toks + 1 }) e cc dd hno ⟨.str ⟨#[x.cps[i]]⟩, H, I1, ⟨_, rfl⟩, ⟨rfl, _, hcx, rfl⟩, st', fun b hb => (hf b hb).1⟩⟩
    rcases hty with rfl | rfl
    · exact wpAny_pyNext_ascii_item st hcx fin
    · exact wpAny_pyNext_wide_item st hcx fin
  done := by
    intro X hP hw hK hc i pins s σ H E I hf st hg
    subst hP hw hK
    obtain ⟨f0, f1, f2, f3, f4, f5⟩ := hf it (by simp)
    obtain ⟨pe, ⟨hh, v1, e1, c1⟩, hp⟩ := hc
    have hs : x.cps.size ≤ i := hg
    exact HotD.next_text_hot hty ⟨hh, pe.2, v1, (I.pin pe (List.mem_append_left _ hp)).1, e1, c1⟩ (f5 pe (List.mem_append_left _ hp)) st (by simp; omega) fun h' eb => ⟨rfl, I.turned (t' := s.toks) (fun b o hb e => eb b o hb e) f0 f1 f3 f4 f5⟩
  self := fun A i s Q E st h => by
    rcases hty with rfl | rfl
    · exact wpAny_pyIter_striter_ascii st h
    · exact wpAny_pyIter_striter_wide st h
section
variable {X : Cx} {tg e : Expr} {te : TE}
theorem piH_one {pins : List (Addr × Obj)} {σ : L2.St} {H : Hp} {s : Shared} {R : It → Hp → Prop} {J : It} {tn : Nat → Heap → Prop} {tk : Nat} (I : Inv X pins σ H s) (o : Obj)
    (T : TurnH X.prog X.w X.K tg J [s.heap.objs.size] s.heap.objs.size tn) (st : tn 0 (s.heap.push o)) (q : R J H) : PIEH X pins σ tg R (.ref s.heap.objs.size) { s with heap := s.heap.push o, toks := tk } := by
  refine ⟨s.heap.objs.size, [s.heap.objs.size], tn, J, H, rfl, I.kept fun b ob e => Heap.get?_push_of_some _ e, T, st, fun b hb => ?_, q⟩
  have e : b = s.heap.objs.size := by simpa using hb
  subst e
  exact I.fpOk (Nat.le_refl _) (I.hok.fresh (Nat.le_refl _))
theorem pi_listH (hl : PE X e te) : PIH X tg e (iList X.K te) := by
  refine ⟨fun pins s σ H R I h => ?_⟩
  refine thn (hl.run pins s σ H _ I h) fun v s1 ⟨x, H1, I1, r1, q1⟩ => ?_
  obtain ⟨a, e, ⟨xs, hq⟩, q⟩ := q1
  subst e
  cases r1
  obtain ⟨its, rv, p, hz⟩ := I1.list hq
  exact wpAny_pyIter_list p.isList (piH_one (tk := s1.toks) I1 _ (turn_listH a _) ⟨_, Heap.get?_push_size _ rfl, rfl, rfl⟩ q)
theorem pi_textH (he : PE X e te) : PIH X tg e (iStr te) := by
  refine ⟨fun pins s σ H R I h => ?_⟩
  refine thn (he.run pins s σ H _ I h) fun v s1 ⟨y, H1, I1, r1, x, ex, q⟩ => ?_
  subst ex
  obtain ⟨t, rfl⟩ := r1
  cases ha : x.cps.all (· < 128)
  · exact wpAny_pyIter_wide ha (piH_one (tk := s1.toks) I1 _ (turn_textH _ x t "str_iterator" (.inr rfl)) ⟨_, Heap.get?_push_size _ rfl, rfl, rfl⟩ q)
  · exact wpAny_pyIter_ascii ha (piH_one (tk := s1.toks) I1 _ (turn_textH _ x t "str_ascii_iterator" (.inl rfl)) ⟨_, Heap.get?_push_size _ rfl, rfl, rfl⟩ q)
theorem PIH.or {wi wi' : TI} (h : PIH X tg e wi) (h' : PIH X tg e wi') : PIH X tg e (fun σ H R => wi σ H R ∨ wi' σ H R) := ⟨fun pins s σ H R I w => by
  rcases w with w | w
  · exact h.run pins s σ H R I w
  · exact h'.run pins s σ H R I w⟩
end
structure XIH (X : Cx) (tg iter : Expr) (mi : MI) : Prop where
  sim : ∃ wi, PIH X tg iter wi ∧ SimI X.K wi mi
section
variable {X : Cx} {W : XK} {tg e : Expr} {es : List Expr} {ma : ME} {ms : MA} {mi : MI} {m : MS} {p pos : Pos} {x : Str}
theorem xiH_l (h : XE X e ma) : XIH X tg e (mIL ma) := by
  obtain ⟨t, p, s⟩ := h
  refine ⟨_, DL.PIH.or (pi_listH p) (pi_textH p), fun G H σ ρ fp fx items Q R hm q => ?_⟩
  unfold mIL at hm
  split at hm
  · rename_i r e1
    split at hm
    · rename_i ds e2; cases hm
      refine .inl (s G H σ ρ fp r _ R e1 fun v F H1 x1 o1 => ?_)
      have w := ROk.wall R.ls x1 o1
      rw [e2] at w
      have w' := o1.data; rw [e2] at w'
      cases w' with
      | lst h t => exact ⟨_, rfl, ⟨_, SqL.of h⟩, q _ H1 x1 (itl_ok w)⟩
    · rename_i ns e2; cases hm
      refine .inl (s G H σ ρ fp r _ R e1 fun v F H1 x1 o1 => ?_)
      have w := ROk.wall R.ls x1 o1
      rw [e2] at w
      have w' := o1.data; rw [e2] at w'
      cases w' with
      | scr h t =>
        cases w with
        | scr h2 _ => exact ⟨_, rfl, ⟨_, h⟩, q _ H1 x1 (itl_scr h2)⟩
    · rename_i x e2; cases hm
      refine .inr (s G H σ ρ fp r _ R e1 fun v F H1 x1 o1 => ?_)
      have w' := o1.data; rw [e2] at w'
      cases w'
      exact ⟨x, rfl, q _ H1 x1 (its_ok x)⟩
    · cases hm
  · cases hm
theorem xiH_rg1 (hg : Gl X "range") (hm : X.mg "range" = none) (ha : XA X [e] ms) (hs : starEach [e] X.env = [(false, eval e X.env)] := by rfl) : XIH X tg (.Call (.Name "range" p) [e] [] pos) (mRg1 ms) := by
  obtain ⟨t, pa, s⟩ := ha
  refine ⟨_, L2H.pi_range1H hg hm pa hs, fun G H σ ρ fp fx items Q R hm q => ?_⟩
  unfold mRg1 at hm
  split at hm
  · rename_i rs e1
    refine s G H σ ρ fp rs _ R e1 fun vs F H1 x1 o1 => ?_
    have d := o1.data
    split at hm
    · rename_i j e2; rw [e2] at d
      split at hm
      · rename_i hj; cases hm
        cases d with
        | cons h t => cases t; cases dt_int h; exact ⟨j, rfl, by omega, by omega, q _ H1 x1 (itr_wall 0 j.toNat)⟩
      · cases hm
    · cases hm
  · cases hm
theorem xs_forH {body : List Stmt} {g : MG} {ow : List Nat} (ks : List Nat) (hp : PassesOwn (model X.prog X.w) X.A X.env X.xe) (hc : HotC X) (hi : XIH X tg e mi) (hg : XG X tg ow g) (hb : XSs X W body m)
    (hs : ∀ x, foldedSetIterable e X.env x = pure x := by intro _; rfl) : XS X W (.For tg e body [] pos) (mFor mi g m ks) := by
  obtain ⟨wi, p, s⟩ := hi
  obtain ⟨gt, pg, sg⟩ := hg
  obtain ⟨t, pb, sb⟩ := hb
  exact ⟨_, L2H.ps_forH hp hc p pg pb hs, sim_for s sg sb ks⟩
theorem xcallH {CX : CXT} {k n : Nat} {f : Addr} {fd : FuncData} {ps : List Str} {g : List D → Option FO} (F : FnH X.prog X.w X.K X.mg X.base CX k f fd ps (spD X.K n g)) (hr : RoomH k X.A) (hc : HotC X) (hg : Gl X x) (hm : X.mg x = some (.ref f)) (hk : PySem.W.keepIn X.K (.ref f) = true) (hb : Binds X.K fd ps []) (hx : ∀ σ, PassesAt CX X σ E0)
    (ha : XA X (e :: es) ms) (hdb : (x == ("__debug__" : Str)) = false := by decide) (he : starEach (e :: es) X.env = (false, eval e X.env) :: starEach es X.env := by rfl) (hpl : (backTo pos (starEach es X.env)).any (·.1) = false := by rfl) :
    XE X (.Call (.Name x p) (e :: es) [] pos) (mCall n g ms) := by
  obtain ⟨t, pa, s⟩ := ha
  refine ⟨_, L2H.pe_callH (E := fun _ => E0) F hr hc hg hm hk hb hx pa hdb he hpl, fun G H σ ρ fp r Q R hm q => ?_⟩
  unfold mCall at hm
  split at hm
  · rename_i rs e1
    split at hm
    · rename_i hn
      split at hm
      · rename_i s' e2; cases hm
        refine s G H σ ρ fp rs _ R e1 fun vs F H1 x1 o1 => ?_
        refine ⟨o1.len.symm.trans hn, _, _, o1.data, e2, fun v F' H' x2 o2 f2 => ?_⟩
        have x3 := x1.trans x2
        exact q v F' H' x3 (ROk.back (retR_ok (ls_mono R.ls x3) o2 f2) x1)
      · cases hm
    · cases hm
  · cases hm
end
section
variable {P : Program} {w : World} {K : PySem.W.Frag} {mg : Str → Option Value} {base : Heap}
theorem fnDH {x qual : Str} {st : Stmt} {f : Addr} {fd : FuncData} {N ps : List Str} {k n : Nat} {m : MS} (F : Fun K x qual st f fd) (S : FnScope N ps (defScope st)) (hn : ps.length = n)
    (hbody : ∀ (cdv : Value) (A : Around) (outer : List PySem.Env) (s : Shared) (H : Hp) (E : XK) (p : Addr × Obj), HotC (cxH (L2.CX P w) P w K mg base N qual (defScope st) f cdv A outer s H E p) → RoomH k (A.deeper (envOfC qual (defScope st) s.heap.objs.size f cdv)) →
      XSs (cxH (L2.CX P w) P w K mg base N qual (defScope st) f cdv A outer s H E p) E (defBody st) m) : FnH P w K mg base (L2.CX P w) (k + 1) f fd ps (spD K n (runF N.length m)) := by
  obtain ⟨oc, od, kV, doc, pm, an, cdv, ct, osl, rfl, lk, hcd⟩ := F.ex
  refine L2H.fn_ofH lk hcd S (fun vs H Q E h => h.1.trans hn.symm) fun A outer s H vs Q E p hot hr h => ?_
  obtain ⟨t, pp, sim⟩ := (hbody cdv A outer s H E p ⟨p, hot, List.mem_singleton_self _⟩ hr).sim
  obtain ⟨_, ds, o, hd, hg, hq⟩ := h
  refine ⟨t, pp, ?_⟩
  unfold runF at hg
  split at hg
  · rename_i o' e1
    refine sim H H _ _ _ o' _ (RelF.start hd) e1 ?_
    cases o' with
    | nx ρ => cases hg; exact fun σ H' fp R => hq .non [] H' R.ex (.d .non) fun a m => by cases m
    | rt s => cases hg; exact fun v F H' x r f => hq v F H' x r f
    | ex C => cases hg; exact fun H' x => hq H' x
    | bk ρ => cases hg
    | ct ρ => cases hg
  · cases hg
end
end DL
theorem L2H.RoomH.units {k : Nat} {A : PySem.Around} (r : L2H.RoomH k A) : A.units + 64 < PySem.cLine := by have := r.un; omega

set_option Elab.async false
set_option linter.all false
set_option maxRecDepth 100000
set_option maxHeartbeats 4000000
/-! The same rules, where it is known that what is raised bears no context: so the suite may call on. -/
namespace DL
open PySem PySem.Spec PyProof.Rows L2
open Evl (Ex)
open L2H (HotC FnH RoomH Hot1 cxH)
theorem hu_ofH {A : Around} {k : Nat} (hr : RoomH k A) : A.units + 1 < cLine := by have := hr.un; omega
theorem passLN {X : Cx} : Passes (L2N.CX X.prog X.w) X E0 := fun _ _ _ _ _ _ _ h => by
  obtain ⟨_, _, _, _, _, _, _, _, _, _, _, _, z⟩ := h
  exact z.elim
theorem passLAN {X : Cx} (σ : L2.St) : PassesAt (L2N.CX X.prog X.w) X σ fun _ _ _ => False := fun pins H s e s' I c => passLN pins σ H s e s' I c
theorem noExcN {P : Program} {w : World} {H : Hp} {s : Shared} {e : Value} {s' : Shared} (h : L2N.CX P w [] H s (fun _ _ _ => False) e s') : False := by
  obtain ⟨_, _, _, _, _, _, _, _, _, _, _, _, z⟩ := h
  exact z
section
variable {P : Program} {w : World} {K : PySem.W.Frag} {mg : Str → Option Value} {base : Heap}
theorem fnDN {x qual : Str} {st : Stmt} {f : Addr} {fd : FuncData} {N ps : List Str} {k n : Nat} {m : MS} (F : Fun K x qual st f fd) (S : FnScope N ps (defScope st)) (hn : ps.length = n)
    (hbody : ∀ (cdv : Value) (A : Around) (outer : List PySem.Env) (s : Shared) (H : Hp) (E : XK), Room k (A.deeper (envOfC qual (defScope st) s.heap.objs.size f cdv)) →
      XSs (cxOf (L2N.CX P w) P w K mg base N qual (defScope st) f cdv A outer s H E) E (defBody st) m) : FnOk P w K mg base (L2N.CX P w) (k + 1) f fd ps (spD K n (runF N.length m)) := by
  obtain ⟨oc, od, kV, doc, pm, an, cdv, ct, osl, rfl, lk, hcd⟩ := F.ex
  refine fn_of lk hcd S (fun vs H Q E h => h.1.trans hn.symm) fun A outer s H vs Q E hr h => ?_
  obtain ⟨t, p, sim⟩ := (hbody cdv A outer s H E hr).sim
  obtain ⟨_, ds, o, hd, hg, hq⟩ := h
  refine ⟨t, p, ?_⟩
  unfold runF at hg
  split at hg
  · rename_i o' e1
    refine sim H H _ _ _ o' _ (RelF.start hd) e1 ?_
    cases o' with
    | nx ρ => cases hg; exact fun σ H' fp R => hq .non [] H' R.ex (.d .non) fun a m => by cases m
    | rt s => cases hg; exact fun v F H' x r f => hq v F H' x r f
    | ex C => cases hg; exact fun H' x => hq H' x
    | bk ρ => cases hg
    | ct ρ => cases hg
  · cases hg
theorem fnDHN {x qual : Str} {st : Stmt} {f : Addr} {fd : FuncData} {N ps : List Str} {k n : Nat} {m : MS} (F : Fun K x qual st f fd) (S : FnScope N ps (defScope st)) (hn : ps.length = n)
    (hbody : ∀ (cdv : Value) (A : Around) (outer : List PySem.Env) (s : Shared) (H : Hp) (E : XK) (p : Addr × Obj), HotC (cxH (L2N.CX P w) P w K mg base N qual (defScope st) f cdv A outer s H E p) → RoomH k (A.deeper (envOfC qual (defScope st) s.heap.objs.size f cdv)) →
      XSs (cxH (L2N.CX P w) P w K mg base N qual (defScope st) f cdv A outer s H E p) E (defBody st) m) : FnH P w K mg base (L2N.CX P w) (k + 1) f fd ps (spD K n (runF N.length m)) := by
  obtain ⟨oc, od, kV, doc, pm, an, cdv, ct, osl, rfl, lk, hcd⟩ := F.ex
  refine L2H.fn_ofH lk hcd S (fun vs H Q E h => h.1.trans hn.symm) fun A outer s H vs Q E p hot hr h => ?_
  obtain ⟨t, pp, sim⟩ := (hbody cdv A outer s H E p ⟨p, hot, List.mem_singleton_self _⟩ hr).sim
  obtain ⟨_, ds, o, hd, hg, hq⟩ := h
  refine ⟨t, pp, ?_⟩
  unfold runF at hg
  split at hg
  · rename_i o' e1
    refine sim H H _ _ _ o' _ (RelF.start hd) e1 ?_
    cases o' with
    | nx ρ => cases hg; exact fun σ H' fp R => hq .non [] H' R.ex (.d .non) fun a m => by cases m
    | rt s => cases hg; exact fun v F H' x r f => hq v F H' x r f
    | ex C => cases hg; exact fun H' x => hq H' x
    | bk ρ => cases hg
    | ct ρ => cases hg
  · cases hg
end
section
variable {X : Cx} {W : XK} {e : Expr} {es : List Expr} {ms : MA} {x n z : Str} {mc : DL.Env → Option FO} {pos : Pos}
theorem xc_callN {k n : Nat} {f : Addr} {fd : FuncData} {ps : List Str} {g : List D → Option FO} {p : Pos} (F : FnOk X.prog X.w X.K X.mg X.base (L2N.CX X.prog X.w) k f fd ps (spD X.K n g)) (hr : Room k X.A) (hg : Gl X x) (hm : X.mg x = some (.ref f)) (hk : PySem.W.keepIn X.K (.ref f) = true) (hb : Binds X.K fd ps [])
    (tk : L2N.Takes X fun c d _ H => W c d H) (ha : XA X (e :: es) ms) (hdb : (x == ("__debug__" : Str)) = false := by decide) (he : starEach (e :: es) X.env = (false, eval e X.env) :: starEach es X.env := by rfl) (hpl : (backTo pos (starEach es X.env)).any (·.1) = false := by rfl) :
    XC X W (.Call (.Name x p) (e :: es) [] pos) (mCallO n g ms) := by
  obtain ⟨t, pa, s⟩ := ha
  refine ⟨_, pe_call F hr hg hm hk hb .nil (L2N.passes_call (E := W) tk fun _ _ _ _ h => h) pa hdb he hpl, fun G H σ ρ fp r Q R hm q qe => ?_⟩
  unfold mCallO at hm
  split at hm
  · rename_i rs e1
    split at hm
    · rename_i hn
      refine s G H σ ρ fp rs _ R e1 fun vs F H1 x1 o1 => ?_
      rw [List.append_nil]
      refine ⟨o1.len.symm.trans hn, _, _, o1.data, hm, ?_⟩
      cases r with
      | ret s' => exact fun v F' H' x2 o2 f2 => q s' rfl v F' H' (x1.trans x2) (ROk.back (retR_ok (ls_mono R.ls (x1.trans x2)) o2 f2) x1)
      | exc C => exact fun H' x2 => qe C rfl H' (x1.trans x2)
    · cases hm
  · cases hm
theorem xs_raiseN {C : Addr} {txt : Str} {j : _} {p p2 p3 : Pos} (hc : X.calm = true) (T : ExcAt X.K X.mg x C) (tk : L2N.Takes X fun c d _ H => W c d H) (hg : Gl X x) (hdb : (x == ("__debug__" : Str)) = false := by decide) :
    XS X W (.Raise (some (.Call (.Name x p) [.Constant (.str txt) j p2] [] p3)) none pos) (fun _ => some (.ex C)) :=
  ⟨_, L2N.ps_raise hc tk (L2N.pmk_own PySem.F.excBase_ValueError T.q T.g T.k (raises_own T.b T.t) hg hdb), fun G H σ ρ fp o D R hm q => by cases hm; exact q H R.ex⟩
theorem xcs_callN {V : WX} {k m : Nat} {f : Addr} {fd : FuncData} {ps : List Str} {g : List D → Option FO} {p : Pos} (F : FnOk X.prog X.w X.K X.mg X.base (L2N.CX X.prog X.w) k f fd ps (spD X.K m g)) (hr : Room k X.A) (hg : Gl X x) (hm : X.mg x = some (.ref f)) (hk : PySem.W.keepIn X.K (.ref f) = true) (hb : Binds X.K fd ps [])
    (tk : L2N.Takes X V) (ha : XA X (e :: es) ms) (hdb : (x == ("__debug__" : Str)) = false := by decide) (he : starEach (e :: es) X.env = (false, eval e X.env) :: starEach es X.env := by rfl) (hpl : (backTo pos (starEach es X.env)).any (·.1) = false := by rfl) :
    XCS X V (.Call (.Name x p) (e :: es) [] pos) (mCallO m g ms) := by
  obtain ⟨t, pa, s⟩ := ha
  refine ⟨_, pe_callS (E := WE V) F hr hg hm hk hb (L2N.passAt tk) pa hdb he hpl, fun G H σ ρ fp r Q R hm q qe => ?_⟩
  unfold mCallO at hm
  split at hm
  · rename_i rs e1
    split at hm
    · rename_i hn
      refine s G H σ ρ fp rs _ R e1 fun vs F H1 x1 o1 => ?_
      refine ⟨o1.len.symm.trans hn, _, _, o1.data, hm, ?_⟩
      cases r with
      | ret s' => exact fun v F' H' x2 o2 f2 => q s' rfl v F' H' (x1.trans x2) (ROk.back (retR_ok (ls_mono R.ls (x1.trans x2)) o2 f2) x1)
      | exc C => exact fun H' x2 => qe C rfl H' (x1.trans x2)
    · cases hm
  · cases hm
open Classical in
theorem xs_tryCN {c : Value} {C : Addr} {i ix : Nat} {suite : List Stmt} {b₀ : Stmt} {np pos pos' xp ap : Pos} {m2 : Addr → MS} (hs : X.stack = X.env :: X.outer) (hf : X.env.frame = some X.env.locals) (hN : X.N.Nodup) (hi : X.N[i]? = some n) (hln : X.env.kindOf n = some .local) (hc : Names X z c)
    (hex : PySem.W.exmOne X.K (.ref C) c = some true) (tk : L2N.Takes X fun c d _ H => W c d H)
    (hix : X.N[ix]? = some x) (hlx : Loc X.env.scope x)
    (hb : ∀ (V : WX) (pn : List (Addr × Obj)) (xe : Value → Shared → Prop), L2N.Takes (X.tr pn xe) V → XCS (X.tr pn xe) V e mc)
    (hsu : ∀ (a : Addr) (oe : Obj) (pn : List (Addr × Obj)), L2N.Zn (.ref C) none oe → (∃ vs, oe.data = .fields vs) → XSs (X.suite a ((a, oe) :: pn)) (fun _ _ _ => False) (b₀ :: suite) (m2 a))
    (hsw : ∀ (pn : List (Addr × Obj)) (xe : Value → Shared → Prop), swapsWith e (some (.Name x xp)) ap.line (X.tr pn xe).env = pure false := by intro _ _; rfl)
    (hfn : ∀ (pn : List (Addr × Obj)) (xe : Value → Shared → Prop), (X.tr pn xe).fn x = true ∨ (X.tr pn xe).env.scope.names.lookup x = some .local := by intro _ _; first | exact .inl rfl | exact .inr rfl | assumption) :
    XS X W (.Try [.Assign [.Name x xp] e ap] [.ExceptHandler (some (.Name z np)) (some n) (b₀ :: suite) pos'] [] [] pos) (mTryC ix mc C i m2) := by
  let ts : Addr → Value → Option Addr → TS := fun a cls d => if cls = .ref C ∧ d = none then canS X.K (fun _ _ _ => False) (m2 a) else fun _ _ _ => False
  let tb : WX → TS := fun W0 D σ H => ∃ G ρ fp o, RelF X.K G H σ ρ fp ∧ mc ρ = some o ∧ (∀ s, o = .ret s → ∀ v F H', Ex H H' → ROk X.K H H' fp v F (retR s) → D.nx (σ.set ix (some v)) H') ∧ (∀ C, o = .exc C → ∀ H', Ex H H' → W0 (.ref C) none σ H')
  refine ⟨_, L2N.ps_try_as (i := i) (tb := tb) (ts := ts) hs hf hN hi hln hc tk (fun W0 pn xe tk0 po => ?_) (fun a oe cls d pn hz hv => ?_), fun G H σ ρ fp o D R hm q => ?_⟩
  · obtain ⟨t, p, s⟩ := hb W0 pn xe tk0
    have p1 := pss_one (ps_set (X := X.tr pn xe) (pos := ap) (pos' := xp) hN hix hlx p (hsw pn xe) (hfn pn xe))
    exact ⟨fun pins s' σ H D I ⟨G, ρ, fp, o, R, hm, q1, q2⟩ => p1.run pins s' σ H D I (s G H σ ρ fp o _ R hm (fun s e v F H' x r => q1 s e v F H' x r) q2)⟩
  · show PSs _ _ (if cls = .ref C ∧ d = none then _ else _)
    by_cases hcd : cls = .ref C ∧ d = none
    · rw [if_pos hcd]
      obtain ⟨rfl, rfl⟩ := hcd
      exact (hsu a oe pn hz hv).can
    · rw [if_neg hcd]
      exact ⟨fun pins s' σ H D I h => h.elim⟩
  · unfold mTryC at hm
    split at hm
    · rename_i s e1; cases hm
      exact ⟨G, ρ, fp, _, R, e1, fun s' e v F H' x r => by cases e; exact q _ H' _ (R.set x r), fun _ e => by cases e⟩
    · rename_i C' e1
      split at hm
      rotate_left
      · cases hm
      rename_i hC; subst hC
      split at hm
      rotate_left
      · cases hm
      rename_i hx
      have hsp := hx.choose_spec
      have ho : o = .rt hx.choose := (Option.some.inj hm).symm
      subst ho
      refine ⟨G, ρ, fp, _, R, e1, (fun _ e => by cases e), fun C2 e H' x => ?_⟩
      cases e
      refine ⟨true, hex, fun _ a ha => ?_, fun z => nomatch z⟩
      rw [show ts a (Value.ref C') none = canS X.K (fun _ _ _ => False) (m2 a) from if_pos ⟨rfl, rfl⟩]
      exact ⟨G, _, _, _, (R.grow x).setAd i a, hsp a, q⟩
    · cases hm
/-- the handled exception, in the suite -/
theorem hot_suite {a : Addr} {oe : Obj} {pn : List (Addr × Obj)} {C : Value} (hz : L2N.Zn C none oe) (hf : ∃ vs, oe.data = .fields vs) : HotC (X.suite a ((a, oe) :: pn)) := by
  obtain ⟨vs, hv⟩ := hf
  exact ⟨(a, oe), ⟨rfl, vs, hv, hz.2.2 vs hv⟩, List.mem_cons_self⟩
end
/-! what is caught, handed on -/
structure FnPN (P : Program) (w : World) (K : PySem.W.Frag) (mg : Str → Option Value) (base : Heap) (a : Addr) (oe : Obj) (k : Nat) (f : Addr) (fd : FuncData) (ps : List Str) (sp : Sp) : Prop where
  len : ∀ vs H Q E, sp vs H Q E → vs.length = ps.length
  run : ∀ (A : Around) (outer : List PySem.Env) (s : Shared) (H : Hp) (args : Args) (us : List Value) (vs : List V) (Q : VK) (E : XK), L2H.RoomH k A → L2H.PinOk outer H s (a, oe) → Env0 P w K mg base A outer s H → BindsTo s fd args (ps.zip us) → Vals vs us → sp vs H Q E →
    codeAny (model P w) A (.call (.ref f) args) (CR (L2N.CX P w) outer P w H s Q E) s
theorem fnPN {P : Program} {w : World} {K : PySem.W.Frag} {mg : Str → Option Value} {base : Heap} {x qual : Str} {st : Stmt} {f : Addr} {fd : FuncData} {N ps : List Str} {k : Nat} {a : Addr} {oe : Obj} {m : MS} {s0 : S} {nn : Nat} (F : Fun K x qual st f fd) (S : FnScope N ps (defScope st)) (hn : ps.length = 1) (hN : N.length = nn)
    (hbody : ∀ (cdv : Value) (A : Around) (outer : List PySem.Env) (s : Shared) (H : Hp) (E : XK), L2H.RoomH k (A.deeper (envOfC qual (defScope st) s.heap.objs.size f cdv)) →
      XSs (L2H.cxH (L2N.CX P w) P w K mg base N qual (defScope st) f cdv A outer s H E (a, oe)) E (defBody st) m)
    (hm : m (.ad a :: List.replicate (nn - 1) .dead) = some (.rt s0)) :
    FnPN P w K mg base a oe (k + 1) f fd ps (fun vs H Q _ => vs = [.ref a] ∧ ∀ v F H', Ex H H' → Rep K H' s0 v F → (∀ b ∈ F, H b = none) → Q v H') := by
  obtain ⟨oc, od, kV, doc, pm, an, cdv, ct, osl, rfl, lk, hcd⟩ := F.ex
  refine ⟨fun vs H Q E h => by rw [h.1, hn]; rfl, fun A outer s H args us vs Q E hr hpin e0 hb r hsp => ?_⟩
  have hl : vs.length = ps.length := by rw [hsp.1, hn]; rfl
  have KX : K.In s.heap := e0.mod.kin.keeps fun b o e => (e0.bs b o e).1
  have lim : s.heap.NoLimit := e0.mod.nolimit.keeps fun b o e => (e0.bs b o e).1
  have hkind : ∀ y ∈ ps.zip us, (defScope st).names.lookup y.1 = some .local ∨ ((defScope st).names.lookup y.1 = some .cell ∧ ((cellsFrom (s.heap.objs.size + 1) (defScope st).names []).lookup y.1).isSome = true) := fun ⟨n, v⟩ hy => by
    rcases S.par n (List.of_mem_zip hy).1 with q | q
    · exact .inl q
    · exact .inr ⟨q, PySem.W.cellsFrom_some _ _ _ (.inl q)⟩
  refine codeAny_call_function hr.depth (KX _ _ lk) rfl S.co S.gen rfl (PySem.W.codeRec_of KX hcd) (hb _ _ _ _ ?_)
  refine wpAny_newFunctionEnv_cells S.kind hkind fun env he s1 x => ?_
  subst he
  refine ⟨lim.keeps x.toInCall.keep, codeAny_func ?_⟩
  obtain ⟨t, ht, sim⟩ := (hbody cdv A outer s H E (hr.deeper _)).sim
  have I : Inv (L2H.cxH (L2N.CX P w) P w K mg base N qual (defScope st) f cdv A outer s H E (a, oe)) [] (L2.start N vs) H s1 := L2H.inv_startH S hpin e0 hl r x
  obtain ⟨e1, hq⟩ := hsp
  subst e1
  have hN1 : 1 ≤ N.length := by
    have := congrArg List.length S.pre
    rw [List.length_take, hn] at this; omega
  have R0 : RelF K H H (L2.start N [.ref a]) (.ad a :: List.replicate (nn - 1) .dead) fun _ => [] := by
    refine ⟨by unfold L2.start; simp; omega, Evl.Ex.refl H, (fun i j b m => by cases m), (fun i b m => by cases m), (fun i b m => by cases m), fun i sl hs => ?_⟩
    cases i with
    | zero => cases hs; exact ⟨rfl, rfl⟩
    | succ i =>
      rw [List.getElem?_cons_succ, List.getElem?_replicate] at hs
      split at hs
      · cases hs; rfl
      · cases hs
  have hq2 : t { nx := fun _ H' => Q .non H', rt := Q } (L2.start N [.ref a]) H := sim H H _ _ _ _ _ R0 hm fun v F H' x r f => hq v F H' x r f
  refine wpAny_mono (ht.run [] s1 (L2.start N [.ref a]) H _ I hq2) (fun fl s' hs => ?_) fun e s' hs => hs
  have fin : ∀ {σ' : L2.St} {H' : Hp} {v : V} {u : Value}, Inv (L2H.cxH (L2N.CX P w) P w K mg base N qual (defScope st) f cdv A outer s H E (a, oe)) [] σ' H' s' → RelV v u → Q v H' → CE outer P w H s Q u s' :=
    fun {σ' H' v u} J rv q => ⟨v, H', J.os, J.bare, J.base, J.hok, rv, q⟩
  cases fl with
  | ret u =>
    obtain ⟨v, σ', H', J, rv, q⟩ := hs
    exact fin J rv q
  | next =>
    obtain ⟨σ', H', J, q⟩ := hs
    exact fin (v := V.non) (u := Value.none) J rfl q
  | brk =>
    obtain ⟨_, _, _, q⟩ := hs
    exact False.elim q
  | cont =>
    obtain ⟨_, _, _, q⟩ := hs
    exact False.elim q
section
variable {X : Cx} {x : Str}
theorem x_callPN {i k : Nat} {f a : Addr} {oe : Obj} {fd : FuncData} {ps : List Str} {ss : List S} {y : Str} {pos q p : Pos} (F : FnPN X.prog X.w X.K X.mg X.base a oe k f fd ps (fun vs H Q _ => vs = [.ref a] ∧ ∀ v F H', Ex H H' → Rep X.K H' (.own ss) v F → (∀ b ∈ F, H b = none) → Q v H'))
    (hr : L2H.RoomH k X.A) (hp : (a, oe) ∈ X.pn) (hg : Gl X x) (hm : X.mg x = some (.ref f)) (hk : PySem.W.keepIn X.K (.ref f) = true) (hb : Binds X.K fd ps []) (hx : ∀ σ, PassesAt (L2N.CX X.prog X.w) X σ fun _ _ _ => False)
    (hN : X.N[i]? = some y := by rfl) (hv : Vis X.env.scope y := by first | exact Or.inl rfl | exact Or.inr (Or.inl rfl) | exact Or.inr (Or.inr rfl)) (hd : (y == ("__debug__" : Str)) = false := by decide) (hcd : (y == ("__classdict__" : Str)) = false := by decide)
    (hdb : (x == ("__debug__" : Str)) = false := by decide) (he : starEach [.Name y p] X.env = (false, eval (.Name y p) X.env) :: starEach [] X.env := by rfl) (hpl : (backTo pos (starEach [] X.env)).any (·.1) = false := by rfl) :
    XE X (.Call (.Name x q) [.Name y p] [] pos) (mCP i a ss) := by
  have pe : PE X (.Call (.Name x q) [.Name y p] [] pos) (fun σ H Q => tVar i σ H fun v H1 => v = .ref a ∧ ∀ v F H', Ex H1 H' → Rep X.K H' (.own ss) v F → (∀ b ∈ F, H1 b = none) → Q v H') := by
    refine ⟨fun pins s σ H Q I h => ?_⟩
    refine wpAny_Call_Name_kw (ld_glob I hg hm ?_ hdb)
    have pa := pa_cons (pe_var (X := X) (i := i) (pos := p) hN hv hd hcd) pa_nil he
    refine PySem.W.callWith_K (h₀ := X.base) I.ok.mod.kin hk (thn (pa.run pos pins s σ H (fun vs H1 => vs = [V.ref a] ∧ ∀ v F H', Ex H1 H' → Rep X.K H' (.own ss) v F → (∀ b ∈ F, H1 b = none) → Q v H') I ?_) fun us s1 ⟨vs, H1, I1, r, q⟩ => ⟨I1.kIn, ?_⟩) he hpl
    · obtain ⟨v, h1, h2, h3⟩ := h
      exact ⟨v, h1, by rw [h2], h3⟩
    · have hl : us.length = ps.length := by rw [← r.length]; exact F.len vs H1 Q (fun _ _ _ => False) q
      have b := hb s1 us I1.kIn (by rw [List.append_nil]; exact hl)
      rw [List.append_nil] at b
      have P1 := I1.pin (a, oe) (List.mem_append_left _ hp)
      have hpin : L2H.PinOk X.stack H1 s1 (a, oe) := ⟨P1.1, P1.2.1, fun hm => (List.mem_cons.mp (I1.stkSub a hm)).elim P1.2.2.1 P1.2.2.2.1, P1.2.2.2.2⟩
      refine wpAny_call (codeAny_mono (F.run X.A X.stack s1 H1 ⟨us, []⟩ us vs Q (fun _ _ _ => False) hr hpin I1.env0 b r q) fun r s' hq => ?_)
      cases r with
      | error e => exact hx σ pins H1 s1 e s' I1 hq
      | ok fl =>
        cases fl with
        | ret u => exact I1.after hq
        | next => exact False.elim hq
        | brk => exact False.elim hq
        | cont => exact False.elim hq
  refine ⟨_, pe, fun G H σ ρ fp r Q R hm q => ?_⟩
  unfold mCP at hm
  split at hm
  · rename_i b e1
    split at hm
    · rename_i hb; subst hb; cases hm
      obtain ⟨_, h1⟩ := R.sl i _ e1
      exact ⟨_, h1, rfl, fun v F H' x r f => q v F H' x ⟨r, f⟩⟩
    · cases hm
  · cases hm
end
end DL

set_option Elab.async false
set_option linter.all false
set_option maxRecDepth 100000
set_option maxHeartbeats 4000000
namespace My
open PySem PySem.Spec PyProof.Rows L2 DL
noncomputable section
/-! ### the text -/
def topS (i : Nat) : Stmt := PySem.Challenge.pw_boxheap_k07_texts_that_are_lanes.main.body.getD i (.Pass ⟨0, 0, 0, 0⟩)
abbrev s_is_whole : Stmt := topS 9
abbrev N_is_whole : List Str := ["value"]
theorem sc_is_whole : FnScope N_is_whole ["value"] (defScope s_is_whole) := ⟨rfl, rfl, rfl, by decide +kernel, rfl, by decide +kernel, by decide +kernel⟩
abbrev s_is_room : Stmt := topS 10
abbrev N_is_room : List Str := ["room", "number", "most"]
theorem sc_is_room : FnScope N_is_room ["room"] (defScope s_is_room) := ⟨rfl, rfl, rfl, by decide +kernel, rfl, by decide +kernel, by decide +kernel⟩
abbrev s_is_row : Stmt := topS 11
abbrev N_is_row : List Str := ["row", "columns", "height", "number"]
theorem sc_is_row : FnScope N_is_row ["row", "columns", "height"] (defScope s_is_row) := ⟨rfl, rfl, rfl, by decide +kernel, rfl, by decide +kernel, by decide +kernel⟩
abbrev s_never_rises : Stmt := topS 12
abbrev N_never_rises : List Str := ["numbers", "ahead", "number"]
theorem sc_never_rises : FnScope N_never_rises ["numbers"] (defScope s_never_rises) := ⟨rfl, rfl, rfl, by decide +kernel, rfl, by decide +kernel, by decide +kernel⟩
abbrev s_is_table : Stmt := topS 13
abbrev N_is_table : List Str := ["room", "table", "rows", "columns", "height", "row", "column"]
theorem sc_is_table : FnScope N_is_table ["room", "table"] (defScope s_is_table) := ⟨rfl, rfl, rfl, by decide +kernel, rfl, by decide +kernel, by decide +kernel⟩
abbrev s_is_lane : Stmt := topS 14
abbrev N_is_lane : List Str := ["lane", "rights", "downs"]
theorem sc_is_lane : FnScope N_is_lane ["lane", "rights", "downs"] (defScope s_is_lane) := ⟨rfl, rfl, rfl, by decide +kernel, rfl, by decide +kernel, by decide +kernel⟩
abbrev s_are_lanes : Stmt := topS 15
abbrev N_are_lanes : List Str := ["room", "ends", "lanes", "rows", "columns", "height", "k"]
theorem sc_are_lanes : FnScope N_are_lanes ["room", "ends", "lanes"] (defScope s_are_lanes) := ⟨rfl, rfl, rfl, by decide +kernel, rfl, by decide +kernel, by decide +kernel⟩
abbrev s_check_room : Stmt := topS 16
abbrev N_check_room : List Str := ["room"]
theorem sc_check_room : FnScope N_check_room ["room"] (defScope s_check_room) := ⟨rfl, rfl, rfl, by decide +kernel, rfl, by decide +kernel, by decide +kernel⟩
abbrev s_table_of : Stmt := topS 18
abbrev N_table_of : List Str := ["room", "lanes", "table", "lane"]
theorem sc_table_of : FnScope N_table_of ["room", "lanes"] (defScope s_table_of) := ⟨rfl, rfl, rfl, by decide +kernel, rfl, by decide +kernel, by decide +kernel⟩
abbrev s_row_of : Stmt := topS 19
abbrev N_row_of : List Str := ["lane", "height", "row", "number", "step"]
theorem sc_row_of : FnScope N_row_of ["lane", "height"] (defScope s_row_of) := ⟨rfl, rfl, rfl, by decide +kernel, rfl, by decide +kernel, by decide +kernel⟩
abbrev s__law_of : Stmt := topS 21
abbrev N__law_of : List Str := ["_law_script", "_law_k"]
theorem sc__law_of : FnScope N__law_of ["_law_script", "_law_k"] (defScope s__law_of) := ⟨rfl, rfl, rfl, by decide +kernel, rfl, by decide +kernel, by decide +kernel⟩
abbrev s__law_drawn : Stmt := topS 22
abbrev N__law_drawn : List Str := ["_law_script", "_law_k"]
theorem sc__law_drawn : FnScope N__law_drawn ["_law_script", "_law_k"] (defScope s__law_drawn) := ⟨rfl, rfl, rfl, by decide +kernel, rfl, by decide +kernel, by decide +kernel⟩
abbrev s__law_is_number : Stmt := topS 23
abbrev N__law_is_number : List Str := ["_law_found"]
theorem sc__law_is_number : FnScope N__law_is_number ["_law_found"] (defScope s__law_is_number) := ⟨rfl, rfl, rfl, by decide +kernel, rfl, by decide +kernel, by decide +kernel⟩
abbrev s__law_room : Stmt := topS 24
abbrev N__law_room : List Str := ["_law_cell"]
theorem sc__law_room : FnScope N__law_room ["_law_cell"] (defScope s__law_room) := ⟨rfl, rfl, rfl, by decide +kernel, rfl, by decide +kernel, by decide +kernel⟩
abbrev s__law_most : Stmt := topS 25
abbrev N__law_most : List Str := ["_law_table_here", "_law_room_here", "_law_i", "_law_j", "_law_most_here"]
theorem sc__law_most : FnScope N__law_most ["_law_table_here", "_law_room_here", "_law_i", "_law_j"] (defScope s__law_most) := ⟨rfl, rfl, rfl, by decide +kernel, rfl, by decide +kernel, by decide +kernel⟩
abbrev s__law_table : Stmt := topS 26
abbrev N__law_table : List Str := ["_law_script", "_law_start", "_law_room_here", "_law_table_here", "_law_i", "_law_j", "_law_most_here", "_law_cell", "_law_number"]
theorem sc__law_table : FnScope N__law_table ["_law_script", "_law_start", "_law_room_here"] (defScope s__law_table) := ⟨rfl, rfl, rfl, by decide +kernel, rfl, by decide +kernel, by decide +kernel⟩
abbrev s__law_good : Stmt := topS 27
abbrev N__law_good : List Str := ["_law_table_here", "_law_room_here", "_law_i", "_law_j", "_law_number"]
theorem sc__law_good : FnScope N__law_good ["_law_table_here", "_law_room_here"] (defScope s__law_good) := ⟨rfl, rfl, rfl, by decide +kernel, rfl, by decide +kernel, by decide +kernel⟩
abbrev s__law_lane : Stmt := topS 28
abbrev N__law_lane : List Str := ["_law_row", "_law_height", "_law_lane_here", "_law_k"]
theorem sc__law_lane : FnScope N__law_lane ["_law_row", "_law_height"] (defScope s__law_lane) := ⟨rfl, rfl, rfl, by decide +kernel, rfl, by decide +kernel, by decide +kernel⟩
abbrev s__law_spots : Stmt := topS 29
abbrev N__law_spots : List Str := ["_law_lane_here", "_law_s", "_law_height", "_law_way", "_law_step", "_law_x"]
theorem sc__law_spots : FnScope N__law_spots ["_law_lane_here", "_law_s", "_law_height"] (defScope s__law_spots) := ⟨rfl, rfl, rfl, by decide +kernel, rfl, by decide +kernel, by decide +kernel⟩
abbrev s__law_text : Stmt := topS 30
abbrev N__law_text : List Str := ["_law_cells", "_law_right", "_law_down", "_law_lane_here", "_law_cell"]
theorem sc__law_text : FnScope N__law_text ["_law_cells", "_law_right", "_law_down"] (defScope s__law_text) := ⟨rfl, rfl, rfl, by decide +kernel, rfl, by decide +kernel, by decide +kernel⟩
abbrev s__law_lanes : Stmt := topS 31
abbrev N__law_lanes : List Str := ["_law_script", "_law_room_here", "_law_way", "_law_lanes_here", "_law_k", "_law_at", "_law_lane_here", "_law_pair", "_law_size", "_law_cells", "_law_m", "_law_odd", "_law_row"]
theorem sc__law_lanes : FnScope N__law_lanes ["_law_script", "_law_room_here"] (defScope s__law_lanes) := ⟨rfl, rfl, rfl, by decide +kernel, rfl, by decide +kernel, by decide +kernel⟩
abbrev s__law_apart : Stmt := topS 32
abbrev N__law_apart : List Str := ["_law_lanes_here", "_law_room_here", "_law_seen", "_law_k", "_law_lane_here", "_law_spot"]
theorem sc__law_apart : FnScope N__law_apart ["_law_lanes_here", "_law_room_here"] (defScope s__law_apart) := ⟨rfl, rfl, rfl, by decide +kernel, rfl, by decide +kernel, by decide +kernel⟩
abbrev s__law_kinds : Stmt := topS 33
abbrev N__law_kinds : List Str := ["_law_e", "_law_kinds_here"]
theorem sc__law_kinds : FnScope N__law_kinds ["_law_e"] (defScope s__law_kinds) := ⟨rfl, rfl, rfl, by decide +kernel, rfl, by decide +kernel, by decide +kernel⟩
abbrev s_law : Stmt := topS 34
abbrev N_law : List Str := ["_law_script", "_law_room_here", "_law_lanes_here", "_law_handed", "_law_found", "_law_e", "_law_k", "_law_row"]
theorem sc_law : FnScope N_law ["_law_script"] (defScope s_law) := ⟨rfl, rfl, rfl, by decide +kernel, rfl, by decide +kernel, by decide +kernel⟩
/-- where all stands -/
structure Ad where
  a_is_whole : Addr
  d_is_whole : FuncData
  a_is_room : Addr
  d_is_room : FuncData
  a_is_row : Addr
  d_is_row : FuncData
  a_never_rises : Addr
  d_never_rises : FuncData
  a_is_table : Addr
  d_is_table : FuncData
  a_is_lane : Addr
  d_is_lane : FuncData
  a_are_lanes : Addr
  d_are_lanes : FuncData
  a_check_room : Addr
  d_check_room : FuncData
  a_table_of : Addr
  d_table_of : FuncData
  a_row_of : Addr
  d_row_of : FuncData
  a__law_of : Addr
  d__law_of : FuncData
  a__law_drawn : Addr
  d__law_drawn : FuncData
  a__law_is_number : Addr
  d__law_is_number : FuncData
  a__law_room : Addr
  d__law_room : FuncData
  a__law_most : Addr
  d__law_most : FuncData
  a__law_table : Addr
  d__law_table : FuncData
  a__law_good : Addr
  d__law_good : FuncData
  a__law_lane : Addr
  d__law_lane : FuncData
  a__law_spots : Addr
  d__law_spots : FuncData
  a__law_text : Addr
  d__law_text : FuncData
  a__law_lanes : Addr
  d__law_lanes : FuncData
  a__law_apart : Addr
  d__law_apart : FuncData
  a__law_kinds : Addr
  d__law_kinds : FuncData
  a_law : Addr
  d_law : FuncData
  c_HeapError : Addr
  c_NoRoom : Addr
  c_NoTable : Addr
  c_NoPlace : Addr
  c_NoLanes : Addr
  c_NoFloor : Addr
  t_MOST : Addr
structure Df (K : PySem.W.Frag) (mg : Str → Option Value) (x : Str) (st : Stmt) (ps : List Str) (f : Addr) (fd : FuncData) : Prop where
  F : Fun K x x st f fd
  b : Binds K fd ps []
  g : mg x = some (.ref f)
structure Txt (K : PySem.W.Frag) (mg : Str → Option Value) (A : Ad) : Prop where
  is_whole : Df K mg "is_whole" s_is_whole ["value"] A.a_is_whole A.d_is_whole
  is_room : Df K mg "is_room" s_is_room ["room"] A.a_is_room A.d_is_room
  is_row : Df K mg "is_row" s_is_row ["row", "columns", "height"] A.a_is_row A.d_is_row
  never_rises : Df K mg "never_rises" s_never_rises ["numbers"] A.a_never_rises A.d_never_rises
  is_table : Df K mg "is_table" s_is_table ["room", "table"] A.a_is_table A.d_is_table
  is_lane : Df K mg "is_lane" s_is_lane ["lane", "rights", "downs"] A.a_is_lane A.d_is_lane
  are_lanes : Df K mg "are_lanes" s_are_lanes ["room", "ends", "lanes"] A.a_are_lanes A.d_are_lanes
  check_room : Df K mg "check_room" s_check_room ["room"] A.a_check_room A.d_check_room
  table_of : Df K mg "table_of" s_table_of ["room", "lanes"] A.a_table_of A.d_table_of
  row_of : Df K mg "row_of" s_row_of ["lane", "height"] A.a_row_of A.d_row_of
  _law_of : Df K mg "_law_of" s__law_of ["_law_script", "_law_k"] A.a__law_of A.d__law_of
  _law_drawn : Df K mg "_law_drawn" s__law_drawn ["_law_script", "_law_k"] A.a__law_drawn A.d__law_drawn
  _law_is_number : Df K mg "_law_is_number" s__law_is_number ["_law_found"] A.a__law_is_number A.d__law_is_number
  _law_room : Df K mg "_law_room" s__law_room ["_law_cell"] A.a__law_room A.d__law_room
  _law_most : Df K mg "_law_most" s__law_most ["_law_table_here", "_law_room_here", "_law_i", "_law_j"] A.a__law_most A.d__law_most
  _law_table : Df K mg "_law_table" s__law_table ["_law_script", "_law_start", "_law_room_here"] A.a__law_table A.d__law_table
  _law_good : Df K mg "_law_good" s__law_good ["_law_table_here", "_law_room_here"] A.a__law_good A.d__law_good
  _law_lane : Df K mg "_law_lane" s__law_lane ["_law_row", "_law_height"] A.a__law_lane A.d__law_lane
  _law_spots : Df K mg "_law_spots" s__law_spots ["_law_lane_here", "_law_s", "_law_height"] A.a__law_spots A.d__law_spots
  _law_text : Df K mg "_law_text" s__law_text ["_law_cells", "_law_right", "_law_down"] A.a__law_text A.d__law_text
  _law_lanes : Df K mg "_law_lanes" s__law_lanes ["_law_script", "_law_room_here"] A.a__law_lanes A.d__law_lanes
  _law_apart : Df K mg "_law_apart" s__law_apart ["_law_lanes_here", "_law_room_here"] A.a__law_apart A.d__law_apart
  _law_kinds : Df K mg "_law_kinds" s__law_kinds ["_law_e"] A.a__law_kinds A.d__law_kinds
  law : Df K mg "law" s_law ["_law_script"] A.a_law A.d_law
  z_ValueError : mg "ValueError" = none
  z_all : mg "all" = none
  z_bool : mg "bool" = none
  z_int : mg "int" = none
  z_isinstance : mg "isinstance" = none
  z_len : mg "len" = none
  z_list : mg "list" = none
  z_max : mg "max" = none
  z_min : mg "min" = none
  z_range : mg "range" = none
  z_str : mg "str" = none
  z_tuple : mg "tuple" = none
  z_zip : mg "zip" = none
  e_HeapError : ExcAt K mg "HeapError" A.c_HeapError
  e_NoRoom : ExcAt K mg "NoRoom" A.c_NoRoom
  e_NoTable : ExcAt K mg "NoTable" A.c_NoTable
  e_NoPlace : ExcAt K mg "NoPlace" A.c_NoPlace
  e_NoLanes : ExcAt K mg "NoLanes" A.c_NoLanes
  e_NoFloor : ExcAt K mg "NoFloor" A.c_NoFloor
  xc_NoLanes : ExcC K A.c_NoLanes
  xk_NoLanes_ValueError : PySem.W.kitOne K (.ref A.c_NoLanes) (.type "ValueError") = some true
  xk_NoLanes_NoFloor : PySem.W.kitOne K (.ref A.c_NoLanes) (.ref A.c_NoFloor) = some false
  xk_NoLanes_NoLanes : PySem.W.kitOne K (.ref A.c_NoLanes) (.ref A.c_NoLanes) = some true
  xk_NoLanes_NoPlace : PySem.W.kitOne K (.ref A.c_NoLanes) (.ref A.c_NoPlace) = some false
  xk_NoLanes_NoRoom : PySem.W.kitOne K (.ref A.c_NoLanes) (.ref A.c_NoRoom) = some false
  xk_NoLanes_NoTable : PySem.W.kitOne K (.ref A.c_NoLanes) (.ref A.c_NoTable) = some false
  xm_NoLanes_HeapError : PySem.W.exmOne K (.ref A.c_NoLanes) (.ref A.c_HeapError) = some true
  g_MOST : mg "MOST" = some (.ref A.t_MOST)
  s_MOST : ∀ H, SqT K H A.t_MOST (([6, 20, 20] : List Int).map V.int)
section
variable {P : Program} {w : World} {K : PySem.W.Frag} {mg : Str → Option Value} {base : Heap} {A : Ad}
/-! is_whole -/
def m_is_whole (A : Ad) : MS := (mRet (mAndV (mIsi "int" (mVar 0)) (mNotV (mIsi "bool" (mVar 0)))))
def g_is_whole (A : Ad) : List D → Option FO := runF N_is_whole.length (m_is_whole A)
theorem ok_is_whole (T : Txt K mg A) : FnOk P w K mg base (L2N.CX P w) 1 A.a_is_whole A.d_is_whole ["value"] (spD K 1 (g_is_whole A)) := by
  have S := sc_is_whole
  exact fnDN T.is_whole.F sc_is_whole rfl fun cdv AA outer s H E hr =>
    (xss_one (xs_ret (x_and (x_isi (T := "int") (by decide) (by rfl) T.z_isinstance (by rfl) T.z_int (by decide +kernel) (xv 0)) (x_one (x_not (x_isi (T := "bool") (by decide) (by rfl) T.z_isinstance (by rfl) T.z_bool (by decide +kernel) (xv 0)))))))
/-! is_room -/
def m_is_room (A : Ad) : MS := (mSeq (mIfS (mOr (mNot (mTst (mIsi "tuple" (mVar 0)))) (mTst (mOp fNe (mCB gLen (mCons (mVar 0) mNil)) (mCB gLen (mCons (mC (.ktp [(6 : Int), (20 : Int), (20 : Int)])) mNil))))) (mRet (mC (.bl false))) mNext)
    (mRet (mCB gAll (mCons (mLc (mZip (mCons (mVar 0) (mCons (mC (.ktp [(6 : Int), (20 : Int), (20 : Int)])) mNil))) (mgTup [1, 2]) mYes (mAndV (mCall 1 (g_is_whole A) (mCons (mVar 1) mNil)) (mCh (fun i j => decide (i ≤ j)) (fun i j => decide (i ≤ j)) (mC (.int 1)) (mVar 1) (mVar 2))) [1, 2]) mNil))))
def g_is_room (A : Ad) : List D → Option FO := runF N_is_room.length (m_is_room A)
theorem ok_is_room (T : Txt K mg A) : FnOk P w K mg base (L2N.CX P w) 2 A.a_is_room A.d_is_room ["room"] (spD K 1 (g_is_room A)) := by
  have S := sc_is_room
  exact fnDN T.is_room.F sc_is_room rfl fun cdv AA outer s H E hr =>
    (xss_cons (xs_if (xw_pt (xw_or (xt_not (xt_val (x_isi (T := "tuple") (by decide) (by rfl) T.z_isinstance (by rfl) T.z_tuple (by decide +kernel) (xv 0)))) (xw_or1 (xtcmp (op_neD hr.units) op2_ne (nomark _) (xcallB call_len ok_len (by rfl) T.z_len PySem.boot_len (xa (xv 0) xa_nil)) (xcallB call_len ok_len (by rfl) T.z_len PySem.boot_len (xa (xglobT (by rfl) T.g_MOST T.s_MOST) xa_nil)))))) (xss_one (xs_ret xbl)) xss_nil)
    (xss_one (xs_ret (xcallB (cr_all rfl) ok_all (by rfl) T.z_all (by decide +kernel) (xa (x_lc (own := [("number", 1), ("most", 2)]) rfl S.nd (xi_zip (by rfl) T.z_zip (xa (xv 0) (xa (xglobT (by rfl) T.g_MOST T.s_MOST) xa_nil))) (blkOk_by (own := [("number", 1), ("most", 2)]) (N := N_is_room) (sc := defScope s_is_room) (by decide +kernel)) (by decide) (fun _ _ _ _ _ => (xg_tup rfl (xns_cons (i := 1) S.nd rfl (by first | exact Or.inl rfl | exact Or.inr rfl) (xns_cons (i := 2) S.nd rfl (by first | exact Or.inl rfl | exact Or.inr rfl) xns_nil)))) (fun _ _ _ _ _ => xts_nil) (fun _ _ _ _ _ => (x_and (xcall (ok_is_whole T) (hr.mono (by decide)) (by rfl) T.is_whole.g T.is_whole.F.kp T.is_whole.b passLN (xa (xv 1) xa_nil)) (x_one (x_chain op_le op_le xint (xv 1) (xv 2)))))) xa_nil)))))
/-! is_row -/
def m_is_row (A : Ad) : MS := (mSeq (mIfS (mOr (mNot (mTst (mIsi "list" (mVar 0)))) (mTst (mOp fNe (mCB gLen (mCons (mVar 0) mNil)) (mVar 1)))) (mRet (mC (.bl false))) mNext)
    (mRet (mCB gAll (mCons (mLc (mIL (mVar 0)) (mgName 3) mYes (mAndV (mCall 1 (g_is_whole A) (mCons (mVar 3) mNil)) (mCh (fun i j => decide (i ≤ j)) (fun i j => decide (i ≤ j)) (mC (.int 0)) (mVar 3) (mVar 2))) [3]) mNil))))
def g_is_row (A : Ad) : List D → Option FO := runF N_is_row.length (m_is_row A)
theorem ok_is_row (T : Txt K mg A) : FnOk P w K mg base (L2N.CX P w) 2 A.a_is_row A.d_is_row ["row", "columns", "height"] (spD K 3 (g_is_row A)) := by
  have S := sc_is_row
  exact fnDN T.is_row.F sc_is_row rfl fun cdv AA outer s H E hr =>
    (xss_cons (xs_if (xw_pt (xw_or (xt_not (xt_val (x_isi (T := "list") (by decide) (by rfl) T.z_isinstance (by rfl) T.z_list (by decide +kernel) (xv 0)))) (xw_or1 (xtcmp (op_neD hr.units) op2_ne (nomark _) (xcallB call_len ok_len (by rfl) T.z_len PySem.boot_len (xa (xv 0) xa_nil)) (xv 1))))) (xss_one (xs_ret xbl)) xss_nil)
    (xss_one (xs_ret (xcallB (cr_all rfl) ok_all (by rfl) T.z_all (by decide +kernel) (xa (x_lc (own := [("number", 3)]) rfl S.nd (xi_l (xv 0)) (blkOk_by (own := [("number", 3)]) (N := N_is_row) (sc := defScope s_is_row) (by decide +kernel)) (by decide) (fun _ _ _ _ _ => (xg_name (i := 3) S.nd rfl (by first | exact Or.inl rfl | exact Or.inr rfl))) (fun _ _ _ _ _ => xts_nil) (fun _ _ _ _ _ => (x_and (xcall (ok_is_whole T) (hr.mono (by decide)) (by rfl) T.is_whole.g T.is_whole.F.kp T.is_whole.b passLN (xa (xv 3) xa_nil)) (x_one (x_chain op_le op_le xint (xv 3) (xv 2)))))) xa_nil)))))
/-! never_rises -/
def m_never_rises (A : Ad) : MS := (mRet (mCB gAll (mCons (mLc (mZip (mCons (mVar 0) (mCons (mSl (mVar 0) (mPart (mC (.int 1))) mNoPart) mNil))) (mgTup [1, 2]) mYes (mOp fLe (mVar 2) (mVar 1)) [1, 2]) mNil)))
def g_never_rises (A : Ad) : List D → Option FO := runF N_never_rises.length (m_never_rises A)
theorem ok_never_rises (T : Txt K mg A) : FnOk P w K mg base (L2N.CX P w) 1 A.a_never_rises A.d_never_rises ["numbers"] (spD K 1 (g_never_rises A)) := by
  have S := sc_never_rises
  exact fnDN T.never_rises.F sc_never_rises rfl fun cdv AA outer s H E hr =>
    (xss_one (xs_ret (xcallB (cr_all rfl) ok_all (by rfl) T.z_all (by decide +kernel) (xa (x_lc (own := [("ahead", 1), ("number", 2)]) rfl S.nd (xi_zip (by rfl) T.z_zip (xa (xv 0) (xa (x_sl (xv 0) (xo_some xint) xo_none) xa_nil))) (blkOk_by (own := [("ahead", 1), ("number", 2)]) (N := N_never_rises) (sc := defScope s_never_rises) (by decide +kernel)) (by decide) (fun _ _ _ _ _ => (xg_tup rfl (xns_cons (i := 1) S.nd rfl (by first | exact Or.inl rfl | exact Or.inr rfl) (xns_cons (i := 2) S.nd rfl (by first | exact Or.inl rfl | exact Or.inr rfl) xns_nil)))) (fun _ _ _ _ _ => xts_nil) (fun _ _ _ _ _ => (xcmp op_le op2_le (nomark _) (xv 2) (xv 1)))) xa_nil))))
/-! is_table -/
def m_is_table (A : Ad) : MS := (mSeq (mSetT (mgTup [2, 3, 4]) (mVar 0))
    (mSeq (mIfS (mOr (mNot (mTst (mIsi "list" (mVar 1)))) (mTst (mOp fNe (mCB gLen (mCons (mVar 1) mNil)) (mVar 2)))) (mRet (mC (.bl false))) mNext)
    (mSeq (mIfS (mNot (mTst (mCB gAll (mCons (mLc (mIL (mVar 1)) (mgName 5) mYes (mCall 3 (g_is_row A) (mCons (mVar 5) (mCons (mVar 3) (mCons (mVar 4) mNil)))) [5]) mNil)))) (mRet (mC (.bl false))) mNext)
    (mSeq (mIfS (mNot (mTst (mCB gAll (mCons (mLc (mIL (mVar 1)) (mgName 5) mYes (mCall 1 (g_never_rises A) (mCons (mVar 5) mNil)) [5]) mNil)))) (mRet (mC (.bl false))) mNext)
    (mRet (mCB gAll (mCons (mLc (mZipN (mVar 1)) (mgName 6) mYes (mCall 1 (g_never_rises A) (mCons (mVar 6) mNil)) [6]) mNil)))))))
def g_is_table (A : Ad) : List D → Option FO := runF N_is_table.length (m_is_table A)
theorem ok_is_table (T : Txt K mg A) : FnOk P w K mg base (L2N.CX P w) 3 A.a_is_table A.d_is_table ["room", "table"] (spD K 2 (g_is_table A)) := by
  have S := sc_is_table
  exact fnDN T.is_table.F sc_is_table rfl fun cdv AA outer s H E hr =>
    (xss_cons (xs_setT (xv 0) (xg_tup rfl (xns_cons (i := 2) S.nd rfl (by first | exact Or.inl rfl | exact Or.inr rfl) (xns_cons (i := 3) S.nd rfl (by first | exact Or.inl rfl | exact Or.inr rfl) (xns_cons (i := 4) S.nd rfl (by first | exact Or.inl rfl | exact Or.inr rfl) xns_nil)))))
    (xss_cons (xs_if (xw_pt (xw_or (xt_not (xt_val (x_isi (T := "list") (by decide) (by rfl) T.z_isinstance (by rfl) T.z_list (by decide +kernel) (xv 1)))) (xw_or1 (xtcmp (op_neD hr.units) op2_ne (nomark _) (xcallB call_len ok_len (by rfl) T.z_len PySem.boot_len (xa (xv 1) xa_nil)) (xv 2))))) (xss_one (xs_ret xbl)) xss_nil)
    (xss_cons (xs_if (xt_not (xt_val (xcallB (cr_all rfl) ok_all (by rfl) T.z_all (by decide +kernel) (xa (x_lc (own := [("row", 5)]) rfl S.nd (xi_l (xv 1)) (blkOk_by (own := [("row", 5)]) (N := N_is_table) (sc := defScope s_is_table) (by decide +kernel)) (by decide) (fun _ _ _ _ _ => (xg_name (i := 5) S.nd rfl (by first | exact Or.inl rfl | exact Or.inr rfl))) (fun _ _ _ _ _ => xts_nil) (fun _ _ _ _ _ => (xcall (ok_is_row T) (hr.mono (by decide)) (by rfl) T.is_row.g T.is_row.F.kp T.is_row.b passLN (xa (xv 5) (xa (xv 3) (xa (xv 4) xa_nil)))))) xa_nil)))) (xss_one (xs_ret xbl)) xss_nil)
    (xss_cons (xs_if (xt_not (xt_val (xcallB (cr_all rfl) ok_all (by rfl) T.z_all (by decide +kernel) (xa (x_lc (own := [("row", 5)]) rfl S.nd (xi_l (xv 1)) (blkOk_by (own := [("row", 5)]) (N := N_is_table) (sc := defScope s_is_table) (by decide +kernel)) (by decide) (fun _ _ _ _ _ => (xg_name (i := 5) S.nd rfl (by first | exact Or.inl rfl | exact Or.inr rfl))) (fun _ _ _ _ _ => xts_nil) (fun _ _ _ _ _ => (xcall (ok_never_rises T) (hr.mono (by decide)) (by rfl) T.never_rises.g T.never_rises.F.kp T.never_rises.b passLN (xa (xv 5) xa_nil)))) xa_nil)))) (xss_one (xs_ret xbl)) xss_nil)
    (xss_one (xs_ret (xcallB (cr_all rfl) ok_all (by rfl) T.z_all (by decide +kernel) (xa (x_lc (own := [("column", 6)]) rfl S.nd (xi_zipN (by rfl) T.z_zip (xv 1)) (blkOk_by (own := [("column", 6)]) (N := N_is_table) (sc := defScope s_is_table) (by decide +kernel)) (by decide) (fun _ _ _ _ _ => (xg_name (i := 6) S.nd rfl (by first | exact Or.inl rfl | exact Or.inr rfl))) (fun _ _ _ _ _ => xts_nil) (fun _ _ _ _ _ => (xcall (ok_never_rises T) (hr.mono (by decide)) (by rfl) T.never_rises.g T.never_rises.F.kp T.never_rises.b passLN (xa (xv 6) xa_nil)))) xa_nil))))))))
/-! is_lane -/
def m_is_lane (A : Ad) : MS := (mSeq (mIfS (mOr (mNot (mTst (mIsi "str" (mVar 0)))) (mTst (mOp fNe (mCB gLen (mCons (mVar 0) mNil)) (mOp fAdd (mVar 1) (mVar 2))))) (mRet (mC (.bl false))) mNext)
    (mRet (mAndV (mOp fEq (mCount (mVar 0) (mC (.str (PySem.Str.ofString "r")))) (mVar 1)) (mOp fEq (mCount (mVar 0) (mC (.str (PySem.Str.ofString "d")))) (mVar 2)))))
def g_is_lane (A : Ad) : List D → Option FO := runF N_is_lane.length (m_is_lane A)
theorem ok_is_lane (T : Txt K mg A) : FnOk P w K mg base (L2N.CX P w) 1 A.a_is_lane A.d_is_lane ["lane", "rights", "downs"] (spD K 3 (g_is_lane A)) := by
  have S := sc_is_lane
  exact fnDN T.is_lane.F sc_is_lane rfl fun cdv AA outer s H E hr =>
    (xss_cons (xs_if (xw_pt (xw_or (xt_not (xt_val (x_isi (T := "str") (by decide) (by rfl) T.z_isinstance (by rfl) T.z_str (by decide +kernel) (xv 0)))) (xw_or1 (xtcmp (op_neD hr.units) op2_ne (nomark _) (xcallB call_len ok_len (by rfl) T.z_len PySem.boot_len (xa (xv 0) xa_nil)) (xadd (xv 1) (xv 2)))))) (xss_one (xs_ret xbl)) xss_nil)
    (xss_one (xs_ret (x_and (xcmp (op_eqD hr.units) op2_eq (nomark _) (x_count (xv 0) xstr) (xv 1)) (x_one (xcmp (op_eqD hr.units) op2_eq (nomark _) (x_count (xv 0) xstr) (xv 2)))))))
/-! are_lanes -/
def m_are_lanes (A : Ad) : MS := (mSeq (mSetT (mgTup [3, 4, 5]) (mVar 0))
    (mSeq (mIfS (mOr (mNot (mTst (mIsi "list" (mVar 2)))) (mTst (mOp fNe (mCB gLen (mCons (mVar 2) mNil)) (mVar 3)))) (mRet (mC (.bl false))) mNext)
    (mRet (mCB gAll (mCons (mLc (mRg1 (mCons (mVar 3) mNil)) (mgName 6) mYes (mCall 3 (g_is_lane A) (mCons (mOp fIx (mVar 2) (mVar 6)) (mCons (mOp fSub (mOp fAdd (mVar 4) (mVar 6)) (mOp fIx (mVar 1) (mVar 6))) (mCons (mOp fAdd (mOp fSub (mVar 5) (mVar 6)) (mOp fIx (mVar 1) (mVar 6))) mNil)))) [6]) mNil)))))
def g_are_lanes (A : Ad) : List D → Option FO := runF N_are_lanes.length (m_are_lanes A)
theorem ok_are_lanes (T : Txt K mg A) : FnOk P w K mg base (L2N.CX P w) 2 A.a_are_lanes A.d_are_lanes ["room", "ends", "lanes"] (spD K 3 (g_are_lanes A)) := by
  have S := sc_are_lanes
  exact fnDN T.are_lanes.F sc_are_lanes rfl fun cdv AA outer s H E hr =>
    (xss_cons (xs_setT (xv 0) (xg_tup rfl (xns_cons (i := 3) S.nd rfl (by first | exact Or.inl rfl | exact Or.inr rfl) (xns_cons (i := 4) S.nd rfl (by first | exact Or.inl rfl | exact Or.inr rfl) (xns_cons (i := 5) S.nd rfl (by first | exact Or.inl rfl | exact Or.inr rfl) xns_nil)))))
    (xss_cons (xs_if (xw_pt (xw_or (xt_not (xt_val (x_isi (T := "list") (by decide) (by rfl) T.z_isinstance (by rfl) T.z_list (by decide +kernel) (xv 2)))) (xw_or1 (xtcmp (op_neD hr.units) op2_ne (nomark _) (xcallB call_len ok_len (by rfl) T.z_len PySem.boot_len (xa (xv 2) xa_nil)) (xv 3))))) (xss_one (xs_ret xbl)) xss_nil)
    (xss_one (xs_ret (xcallB (cr_all rfl) ok_all (by rfl) T.z_all (by decide +kernel) (xa (x_lc (own := [("k", 6)]) rfl S.nd (xi_rg1 (by rfl) T.z_range (xa (xv 3) xa_nil)) (blkOk_by (own := [("k", 6)]) (N := N_are_lanes) (sc := defScope s_are_lanes) (by decide +kernel)) (by decide) (fun _ _ _ _ _ => (xg_name (i := 6) S.nd rfl (by first | exact Or.inl rfl | exact Or.inr rfl))) (fun _ _ _ _ _ => xts_nil) (fun _ _ _ _ _ => (xcall (ok_is_lane T) (hr.mono (by decide)) (by rfl) T.is_lane.g T.is_lane.F.kp T.is_lane.b passLN (xa (xix (xv 2) (xv 6)) (xa (xsub (xadd (xv 4) (xv 6)) (xix (xv 1) (xv 6))) (xa (xadd (xsub (xv 5) (xv 6)) (xix (xv 1) (xv 6))) xa_nil)))))) xa_nil))))))
/-! check_room -/
def m_check_room (A : Ad) : MS := (mIfS (mNot (mTst (mCall 1 (g_is_room A) (mCons (mVar 0) mNil)))) (fun _ => some (.ex A.c_NoRoom)) mNext)
def g_check_room (A : Ad) : List D → Option FO := runF N_check_room.length (m_check_room A)
theorem ok_check_room (T : Txt K mg A) : FnOk P w K mg base (L2N.CX P w) 3 A.a_check_room A.d_check_room ["room"] (spD K 1 (g_check_room A)) := by
  have S := sc_check_room
  exact fnDN T.check_room.F sc_check_room rfl fun cdv AA outer s H E hr =>
    (xss_one (xs_if (xt_not (xt_val (xcall (ok_is_room T) (hr.mono (by decide)) (by rfl) T.is_room.g T.is_room.F.kp T.is_room.b passLN (xa (xv 0) xa_nil)))) (xss_one (xs_raiseN rfl T.e_NoRoom (L2N.takes_of rfl rfl rfl rfl) (by rfl))) xss_nil))
/-! row_of -/
def m_row_of (A : Ad) : MS := (mSeq (mSet 2 (mLst mNil))
    (mSeq (mSet 3 (mVar 1))
    (mKill [1, 4] (mSeq (mFor (mIL (mVar 0)) (mgName 4) (mIfS (mTst (mOp fEq (mVar 4) (mC (.str (PySem.Str.ofString "r"))))) (mAppend (mpV 2) (mVar 3)) (mAug 3 (fun a b => a - b) (mC (.int 1)))) [4])
    (mRetV 2)))))
def g_row_of (A : Ad) : List D → Option FO := runF N_row_of.length (m_row_of A)
theorem ok_row_of (T : Txt K mg A) : FnOk P w K mg base (L2N.CX P w) 1 A.a_row_of A.d_row_of ["lane", "height"] (spD K 2 (g_row_of A)) := by
  have S := sc_row_of
  exact fnDN T.row_of.F sc_row_of rfl fun cdv AA outer s H E hr =>
    (xss_cons (xs_set (i := 2) S.nd rfl (by first | exact Or.inl rfl | exact Or.inr rfl) (x_lst xa_nil))
    (xss_cons (xs_set (i := 3) S.nd rfl (by first | exact Or.inl rfl | exact Or.inr rfl) (xv 1))
    (xss_kill [1, 4] (xss_cons (xs_for [4] (passes_of rfl) rfl (xi_l (xv 0)) (xg_name (i := 4) S.nd rfl (by first | exact Or.inl rfl | exact Or.inr rfl)) (xss_one (xs_if (xtcmp (op_eqD hr.units) op2_eq (nomark _) (xv 4) xstr) (xss_one (xs_append (xp_v 2) (xv 3))) (xss_one (xs_augSub (i := 3) S.nd rfl (by first | exact Or.inl rfl | exact Or.inr rfl) xint)))))
    (xss_one (xs_retV 2))))))
/-! table_of -/
def m_table_of (A : Ad) : MS := (mSeq (mDropC (mCallO 1 (g_check_room A) (mCons (mVar 0) mNil)))
    (mSeq (mIfS (mNot (mTst (mCall 3 (g_are_lanes A) (mCons (mVar 0) (mCons (mListRg (mOp fIx (mVar 0) (mC (.int 0)))) (mCons (mVar 1) mNil)))))) (fun _ => some (.ex A.c_NoLanes)) mNext)
    (mSeq (mSet 2 (mLc (mIL (mVar 1)) (mgName 3) mYes (mCall 2 (g_row_of A) (mCons (mVar 3) (mCons (mOp fIx (mVar 0) (mC (.int 2))) mNil))) [3]))
    (mSeq (mIfS (mNot (mTst (mCall 2 (g_is_table A) (mCons (mVar 0) (mCons (mVar 2) mNil))))) (fun _ => some (.ex A.c_NoLanes)) mNext)
    (mRetV 2)))))
def g_table_of (A : Ad) : List D → Option FO := runF N_table_of.length (m_table_of A)
theorem ok_table_of (T : Txt K mg A) : FnOk P w K mg base (L2N.CX P w) 4 A.a_table_of A.d_table_of ["room", "lanes"] (spD K 2 (g_table_of A)) := by
  have S := sc_table_of
  exact fnDN T.table_of.F sc_table_of rfl fun cdv AA outer s H E hr =>
    (xss_cons (xs_dropC (xc_callN (ok_check_room T) (hr.mono (by decide)) (by rfl) T.check_room.g T.check_room.F.kp T.check_room.b (L2N.takes_of rfl rfl rfl rfl) (xa (xv 0) xa_nil)))
    (xss_cons (xs_if (xt_not (xt_val (xcall (ok_are_lanes T) (hr.mono (by decide)) (by rfl) T.are_lanes.g T.are_lanes.F.kp T.are_lanes.b passLN (xa (xv 0) (xa (x_listRg rfl (by rfl) T.z_list (by rfl) T.z_range (xix (xv 0) xint)) (xa (xv 1) xa_nil)))))) (xss_one (xs_raiseN rfl T.e_NoLanes (L2N.takes_of rfl rfl rfl rfl) (by rfl))) xss_nil)
    (xss_cons (xs_setLc (i := 2) (own := [("lane", 3)]) rfl S.nd rfl rfl (sw_true rfl rfl rfl (by decide +kernel)) (xi_l (xv 1)) (blkOk_by (own := [("lane", 3)]) (N := N_table_of) (sc := defScope s_table_of) (by decide +kernel)) (by decide) (fun _ _ _ _ _ => (xg_name (i := 3) S.nd rfl (by first | exact Or.inl rfl | exact Or.inr rfl))) (fun _ _ _ _ _ => xts_nil) (fun _ _ _ _ _ => (xcall (ok_row_of T) (hr.mono (by decide)) (by rfl) T.row_of.g T.row_of.F.kp T.row_of.b passLN (xa (xv 3) (xa (xix (xv 0) xint) xa_nil)))))
    (xss_cons (xs_if (xt_not (xt_val (xcall (ok_is_table T) (hr.mono (by decide)) (by rfl) T.is_table.g T.is_table.F.kp T.is_table.b passLN (xa (xv 0) (xa (xv 2) xa_nil))))) (xss_one (xs_raiseN rfl T.e_NoLanes (L2N.takes_of rfl rfl rfl rfl) (by rfl))) xss_nil)
    (xss_one (xs_retV 2))))))
/-! _law_of -/
def m__law_of (A : Ad) : MS := (mRet (mOp fIx (mOp fAdd (mSl (mVar 0) (mPart (mVar 1)) (mPart (mOp fAdd (mVar 1) (mC (.int 1))))) (mLst (mCons (mC (.int 0)) mNil))) (mC (.int 0))))
def g__law_of (A : Ad) : List D → Option FO := runF N__law_of.length (m__law_of A)
theorem ok__law_of (T : Txt K mg A) : FnOk P w K mg base (L2N.CX P w) 1 A.a__law_of A.d__law_of ["_law_script", "_law_k"] (spD K 2 (g__law_of A)) := by
  have S := sc__law_of
  exact fnDN T._law_of.F sc__law_of rfl fun cdv AA outer s H E hr =>
    (xss_one (xs_ret (xix (xadd (x_sl (xv 0) (xo_some (xv 1)) (xo_some (xadd (xv 1) xint))) (x_lst (xa xint xa_nil))) xint)))
/-! _law_drawn -/
def m__law_drawn (A : Ad) : MS := (mSeq (mIfS (mTst (mOp fLt (mVar 1) (mCB gLen (mCons (mVar 0) mNil)))) (mRet (mOp fIx (mVar 0) (mVar 1))) mNext)
    (mRet (mOp fMod (mOp fAdd (mOp fAdd (mOp fMul (mOp fMul (mVar 1) (mVar 1)) (mC (.int 48271))) (mOp fMul (mVar 1) (mC (.int 11)))) (mCall 2 (g__law_of A) (mCons (mVar 0) (mCons (mC (.int 0)) mNil)))) (mC (.int 2147483647)))))
def g__law_drawn (A : Ad) : List D → Option FO := runF N__law_drawn.length (m__law_drawn A)
theorem ok__law_drawn (T : Txt K mg A) : FnOk P w K mg base (L2N.CX P w) 2 A.a__law_drawn A.d__law_drawn ["_law_script", "_law_k"] (spD K 2 (g__law_drawn A)) := by
  have S := sc__law_drawn
  exact fnDN T._law_drawn.F sc__law_drawn rfl fun cdv AA outer s H E hr =>
    (xss_cons (xs_if (xtcmp op_lt op2_lt (nomark _) (xv 1) (xcallB call_len ok_len (by rfl) T.z_len PySem.boot_len (xa (xv 0) xa_nil))) (xss_one (xs_ret (xix (xv 0) (xv 1)))) xss_nil)
    (xss_one (xs_ret (xmod (xadd (xadd (xmul (xmul (xv 1) (xv 1)) xint) (xmul (xv 1) xint)) (xcall (ok__law_of T) (hr.mono (by decide)) (by rfl) T._law_of.g T._law_of.F.kp T._law_of.b passLN (xa (xv 0) (xa xint xa_nil)))) xint))))
/-! _law_is_number -/
def m__law_is_number (A : Ad) : MS := (mRet (mAndV (mNotV (mIsi "bool" (mVar 0))) (mIsi "int" (mVar 0))))
def g__law_is_number (A : Ad) : List D → Option FO := runF N__law_is_number.length (m__law_is_number A)
theorem ok__law_is_number (T : Txt K mg A) : FnOk P w K mg base (L2N.CX P w) 1 A.a__law_is_number A.d__law_is_number ["_law_found"] (spD K 1 (g__law_is_number A)) := by
  have S := sc__law_is_number
  exact fnDN T._law_is_number.F sc__law_is_number rfl fun cdv AA outer s H E hr =>
    (xss_one (xs_ret (x_and (x_not (x_isi (T := "bool") (by decide) (by rfl) T.z_isinstance (by rfl) T.z_bool (by decide +kernel) (xv 0))) (x_one (x_isi (T := "int") (by decide) (by rfl) T.z_isinstance (by rfl) T.z_int (by decide +kernel) (xv 0))))))
/-! _law_room -/
def m__law_room (A : Ad) : MS := (mSeq (mIfS (mTst (mOp fEq (mOp fMod (mOp fDiv (mVar 0) (mC (.int 6))) (mC (.int 4))) (mC (.int 1)))) (mRet (mTup (mCons (mOp fAdd (mC (.int 1)) (mOp fMod (mVar 0) (mC (.int 6)))) (mCons (mOp fAdd (mC (.int 1)) (mOp fMod (mOp fDiv (mVar 0) (mC (.int 24))) (mC (.int 20)))) (mCons (mOp fAdd (mC (.int 1)) (mOp fMod (mOp fDiv (mVar 0) (mC (.int 480))) (mC (.int 20)))) mNil))))) mNext)
    (mRet (mTup (mCons (mOp fAdd (mC (.int 1)) (mOp fMod (mVar 0) (mC (.int 6)))) (mCons (mOp fAdd (mC (.int 1)) (mOp fMod (mOp fDiv (mVar 0) (mC (.int 24))) (mC (.int 5)))) (mCons (mOp fAdd (mC (.int 1)) (mOp fMod (mOp fDiv (mVar 0) (mC (.int 120))) (mC (.int 5)))) mNil))))))
def g__law_room (A : Ad) : List D → Option FO := runF N__law_room.length (m__law_room A)
theorem ok__law_room (T : Txt K mg A) : FnOk P w K mg base (L2N.CX P w) 1 A.a__law_room A.d__law_room ["_law_cell"] (spD K 1 (g__law_room A)) := by
  have S := sc__law_room
  exact fnDN T._law_room.F sc__law_room rfl fun cdv AA outer s H E hr =>
    (xss_cons (xs_if (xtcmp (op_eqD hr.units) op2_eq (nomark _) (xmod (xdiv (xv 0) xint) xint) xint) (xss_one (xs_ret (x_tup (xa (xadd xint (xmod (xv 0) xint)) (xa (xadd xint (xmod (xdiv (xv 0) xint) xint)) (xa (xadd xint (xmod (xdiv (xv 0) xint) xint)) xa_nil)))))) xss_nil)
    (xss_one (xs_ret (x_tup (xa (xadd xint (xmod (xv 0) xint)) (xa (xadd xint (xmod (xdiv (xv 0) xint) xint)) (xa (xadd xint (xmod (xdiv (xv 0) xint) xint)) xa_nil)))))))
/-! _law_most -/
def m__law_most (A : Ad) : MS := (mSeq (mSet 4 (mOp fIx (mVar 1) (mC (.int 2))))
    (mSeq (mIfS (mTst (mOp fGt (mVar 3) (mC (.int 0)))) (mSet 4 (mCB gMin (mCons (mVar 4) (mCons (mOp fIx (mOp fIx (mVar 0) (mVar 2)) (mOp fSub (mVar 3) (mC (.int 1)))) mNil)))) mNext)
    (mSeq (mIfS (mTst (mOp fGt (mVar 2) (mC (.int 0)))) (mSet 4 (mCB gMin (mCons (mVar 4) (mCons (mOp fIx (mOp fIx (mVar 0) (mOp fSub (mVar 2) (mC (.int 1)))) (mVar 3)) mNil)))) mNext)
    (mRetV 4))))
def g__law_most (A : Ad) : List D → Option FO := runF N__law_most.length (m__law_most A)
theorem ok__law_most (T : Txt K mg A) : FnOk P w K mg base (L2N.CX P w) 1 A.a__law_most A.d__law_most ["_law_table_here", "_law_room_here", "_law_i", "_law_j"] (spD K 4 (g__law_most A)) := by
  have S := sc__law_most
  exact fnDN T._law_most.F sc__law_most rfl fun cdv AA outer s H E hr =>
    (xss_cons (xs_set (i := 4) S.nd rfl (by first | exact Or.inl rfl | exact Or.inr rfl) (xix (xv 1) xint))
    (xss_cons (xs_if (xtcmp op_gt op2_gt (nomark _) (xv 3) xint) (xss_one (xs_set (i := 4) S.nd rfl (by first | exact Or.inl rfl | exact Or.inr rfl) (xcallB (call_min2 rfl) ok_min (by rfl) T.z_min (by decide +kernel) (xa (xv 4) (xa (xix (xix (xv 0) (xv 2)) (xsub (xv 3) xint)) xa_nil))))) xss_nil)
    (xss_cons (xs_if (xtcmp op_gt op2_gt (nomark _) (xv 2) xint) (xss_one (xs_set (i := 4) S.nd rfl (by first | exact Or.inl rfl | exact Or.inr rfl) (xcallB (call_min2 rfl) ok_min (by rfl) T.z_min (by decide +kernel) (xa (xv 4) (xa (xix (xix (xv 0) (xsub (xv 2) xint)) (xv 3)) xa_nil))))) xss_nil)
    (xss_one (xs_retV 4)))))
/-! _law_table -/
def m__law_table (A : Ad) : MS := (mSeq (mSet 3 (mLst mNil))
    (mKill [4, 5, 6, 7, 8] (mSeq (mFor (mRg1 (mCons (mOp fIx (mVar 2) (mC (.int 0))) mNil)) (mgName 4) (mSeq (mAppend (mpV 3) (mLst mNil))
    (mKill [5, 6, 7, 8] (mFor (mRg1 (mCons (mOp fIx (mVar 2) (mC (.int 1))) mNil)) (mgName 5) (mSeq (mSet 6 (mCall 4 (g__law_most A) (mCons (mVar 3) (mCons (mVar 2) (mCons (mVar 4) (mCons (mVar 5) mNil))))))
    (mSeq (mSet 7 (mCall 2 (g__law_drawn A) (mCons (mVar 0) (mCons (mOp fAdd (mOp fAdd (mVar 1) (mOp fMul (mVar 4) (mOp fIx (mVar 2) (mC (.int 1))))) (mVar 5)) mNil))))
    (mSeq (mSet 8 (mOp fMod (mOp fDiv (mVar 7) (mC (.int 3))) (mOp fAdd (mVar 6) (mC (.int 1)))))
    (mSeq (mIfS (mTst (mOp fEq (mOp fMod (mVar 7) (mC (.int 3))) (mC (.int 0)))) (mSet 8 (mVar 6)) mNext)
    (mSeq (mIfS (mTst (mOp fEq (mOp fMod (mVar 7) (mC (.int 3))) (mC (.int 1)))) (mSet 8 (mCB gMax (mCons (mC (.int 0)) (mCons (mOp fSub (mOp fSub (mVar 6) (mC (.int 1))) (mOp fMod (mOp fDiv (mVar 7) (mC (.int 3))) (mC (.int 2)))) mNil)))) mNext)
    (mAppend (mpIx (mpV 3) (mVar 4)) (mVar 8))))))) [5, 6, 7, 8]))) [4, 5, 6, 7, 8])
    (mRetV 3))))
def g__law_table (A : Ad) : List D → Option FO := runF N__law_table.length (m__law_table A)
theorem ok__law_table (T : Txt K mg A) : FnOk P w K mg base (L2N.CX P w) 3 A.a__law_table A.d__law_table ["_law_script", "_law_start", "_law_room_here"] (spD K 3 (g__law_table A)) := by
  have S := sc__law_table
  exact fnDN T._law_table.F sc__law_table rfl fun cdv AA outer s H E hr =>
    (xss_cons (xs_set (i := 3) S.nd rfl (by first | exact Or.inl rfl | exact Or.inr rfl) (x_lst xa_nil))
    (xss_kill [4, 5, 6, 7, 8] (xss_cons (xs_for [4, 5, 6, 7, 8] (passes_of rfl) rfl (xi_rg1 (by rfl) T.z_range (xa (xix (xv 2) xint) xa_nil)) (xg_name (i := 4) S.nd rfl (by first | exact Or.inl rfl | exact Or.inr rfl)) (xss_cons (xs_append (xp_v 3) (x_lst xa_nil))
    (xss_kill [5, 6, 7, 8] (xss_one (xs_for [5, 6, 7, 8] (passes_of rfl) rfl (xi_rg1 (by rfl) T.z_range (xa (xix (xv 2) xint) xa_nil)) (xg_name (i := 5) S.nd rfl (by first | exact Or.inl rfl | exact Or.inr rfl)) (xss_cons (xs_set (i := 6) S.nd rfl (by first | exact Or.inl rfl | exact Or.inr rfl) (xcall (ok__law_most T) (hr.mono (by decide)) (by rfl) T._law_most.g T._law_most.F.kp T._law_most.b passLN (xa (xv 3) (xa (xv 2) (xa (xv 4) (xa (xv 5) xa_nil))))))
    (xss_cons (xs_set (i := 7) S.nd rfl (by first | exact Or.inl rfl | exact Or.inr rfl) (xcall (ok__law_drawn T) (hr.mono (by decide)) (by rfl) T._law_drawn.g T._law_drawn.F.kp T._law_drawn.b passLN (xa (xv 0) (xa (xadd (xadd (xv 1) (xmul (xv 4) (xix (xv 2) xint))) (xv 5)) xa_nil))))
    (xss_cons (xs_set (i := 8) S.nd rfl (by first | exact Or.inl rfl | exact Or.inr rfl) (xmod (xdiv (xv 7) xint) (xadd (xv 6) xint)))
    (xss_cons (xs_if (xtcmp (op_eqD hr.units) op2_eq (nomark _) (xmod (xv 7) xint) xint) (xss_one (xs_set (i := 8) S.nd rfl (by first | exact Or.inl rfl | exact Or.inr rfl) (xv 6))) xss_nil)
    (xss_cons (xs_if (xtcmp (op_eqD hr.units) op2_eq (nomark _) (xmod (xv 7) xint) xint) (xss_one (xs_set (i := 8) S.nd rfl (by first | exact Or.inl rfl | exact Or.inr rfl) (xcallB (call_max2 rfl) ok_max (by rfl) T.z_max (by decide +kernel) (xa xint (xa (xsub (xsub (xv 6) xint) (xmod (xdiv (xv 7) xint) xint)) xa_nil))))) xss_nil)
    (xss_one (xs_append (xp_ix (xp_v 3) (xv 4)) (xv 8)))))))))))))
    (xss_one (xs_retV 3)))))
/-! _law_good -/
def m__law_good (A : Ad) : MS := (mSeq (mIfS (mOr (mNot (mTst (mIsi "list" (mVar 0)))) (mTst (mOp fNe (mCB gLen (mCons (mVar 0) mNil)) (mOp fIx (mVar 1) (mC (.int 0)))))) (mRet (mC (.bl false))) mNext)
    (mKill [2, 3, 4] (mSeq (mFor (mRg1 (mCons (mOp fIx (mVar 1) (mC (.int 0))) mNil)) (mgName 2) (mSeq (mIfS (mOr (mNot (mTst (mIsi "list" (mOp fIx (mVar 0) (mVar 2))))) (mTst (mOp fNe (mCB gLen (mCons (mOp fIx (mVar 0) (mVar 2)) mNil)) (mOp fIx (mVar 1) (mC (.int 1)))))) (mRet (mC (.bl false))) mNext)
    (mKill [3, 4] (mFor (mRg1 (mCons (mOp fIx (mVar 1) (mC (.int 1))) mNil)) (mgName 3) (mSeq (mSet 4 (mOp fIx (mOp fIx (mVar 0) (mVar 2)) (mVar 3)))
    (mSeq (mIfS (mOr (mNot (mTst (mCall 1 (g__law_is_number A) (mCons (mVar 4) mNil)))) (mTst (mOp fLt (mVar 4) (mC (.int 0))))) (mRet (mC (.bl false))) mNext)
    (mIfS (mTst (mOp fGt (mVar 4) (mCall 4 (g__law_most A) (mCons (mVar 0) (mCons (mVar 1) (mCons (mVar 2) (mCons (mVar 3) mNil))))))) (mRet (mC (.bl false))) mNext))) [3, 4]))) [2, 3, 4])
    (mRet (mC (.bl true))))))
def g__law_good (A : Ad) : List D → Option FO := runF N__law_good.length (m__law_good A)
theorem ok__law_good (T : Txt K mg A) : FnOk P w K mg base (L2N.CX P w) 2 A.a__law_good A.d__law_good ["_law_table_here", "_law_room_here"] (spD K 2 (g__law_good A)) := by
  have S := sc__law_good
  exact fnDN T._law_good.F sc__law_good rfl fun cdv AA outer s H E hr =>
    (xss_cons (xs_if (xw_pt (xw_or (xt_not (xt_val (x_isi (T := "list") (by decide) (by rfl) T.z_isinstance (by rfl) T.z_list (by decide +kernel) (xv 0)))) (xw_or1 (xtcmp (op_neD hr.units) op2_ne (nomark _) (xcallB call_len ok_len (by rfl) T.z_len PySem.boot_len (xa (xv 0) xa_nil)) (xix (xv 1) xint))))) (xss_one (xs_ret xbl)) xss_nil)
    (xss_kill [2, 3, 4] (xss_cons (xs_for [2, 3, 4] (passes_of rfl) rfl (xi_rg1 (by rfl) T.z_range (xa (xix (xv 1) xint) xa_nil)) (xg_name (i := 2) S.nd rfl (by first | exact Or.inl rfl | exact Or.inr rfl)) (xss_cons (xs_if (xw_pt (xw_or (xt_not (xt_val (x_isi (T := "list") (by decide) (by rfl) T.z_isinstance (by rfl) T.z_list (by decide +kernel) (xix (xv 0) (xv 2))))) (xw_or1 (xtcmp (op_neD hr.units) op2_ne (nomark _) (xcallB call_len ok_len (by rfl) T.z_len PySem.boot_len (xa (xix (xv 0) (xv 2)) xa_nil)) (xix (xv 1) xint))))) (xss_one (xs_ret xbl)) xss_nil)
    (xss_kill [3, 4] (xss_one (xs_for [3, 4] (passes_of rfl) rfl (xi_rg1 (by rfl) T.z_range (xa (xix (xv 1) xint) xa_nil)) (xg_name (i := 3) S.nd rfl (by first | exact Or.inl rfl | exact Or.inr rfl)) (xss_cons (xs_set (i := 4) S.nd rfl (by first | exact Or.inl rfl | exact Or.inr rfl) (xix (xix (xv 0) (xv 2)) (xv 3)))
    (xss_cons (xs_if (xw_pt (xw_or (xt_not (xt_val (xcall (ok__law_is_number T) (hr.mono (by decide)) (by rfl) T._law_is_number.g T._law_is_number.F.kp T._law_is_number.b passLN (xa (xv 4) xa_nil)))) (xw_or1 (xtcmp op_lt op2_lt (nomark _) (xv 4) xint)))) (xss_one (xs_ret xbl)) xss_nil)
    (xss_one (xs_if (xtcmp op_gt op2_gt (nomark _) (xv 4) (xcall (ok__law_most T) (hr.mono (by decide)) (by rfl) T._law_most.g T._law_most.F.kp T._law_most.b passLN (xa (xv 0) (xa (xv 1) (xa (xv 2) (xa (xv 3) xa_nil)))))) (xss_one (xs_ret xbl)) xss_nil)))))))))
    (xss_one (xs_ret xbl)))))
/-! _law_lane -/
def m__law_lane (A : Ad) : MS := (mSeq (mSet 2 (mC (.str (PySem.Str.ofString ""))))
    (mKill [3] (mSeq (mFor (mRg1 (mCons (mCB gLen (mCons (mVar 0) mNil)) mNil)) (mgName 3) (mSet 2 (mOp fAdd (mOp fAdd (mVar 2) (mOp fMul (mC (.str (PySem.Str.ofString "d"))) (mOp fSub (mOp fIx (mOp fAdd (mLst (mCons (mVar 1) mNil)) (mVar 0)) (mVar 3)) (mOp fIx (mVar 0) (mVar 3))))) (mC (.str (PySem.Str.ofString "r"))))) [3])
    (mRet (mOp fAdd (mVar 2) (mOp fMul (mC (.str (PySem.Str.ofString "d"))) (mOp fIx (mVar 0) (mNeg (mC (.int 1))))))))))
def g__law_lane (A : Ad) : List D → Option FO := runF N__law_lane.length (m__law_lane A)
theorem ok__law_lane (T : Txt K mg A) : FnOk P w K mg base (L2N.CX P w) 1 A.a__law_lane A.d__law_lane ["_law_row", "_law_height"] (spD K 2 (g__law_lane A)) := by
  have S := sc__law_lane
  exact fnDN T._law_lane.F sc__law_lane rfl fun cdv AA outer s H E hr =>
    (xss_cons (xs_set (i := 2) S.nd rfl (by first | exact Or.inl rfl | exact Or.inr rfl) xstr)
    (xss_kill [3] (xss_cons (xs_for [3] (passes_of rfl) rfl (xi_rg1 (by rfl) T.z_range (xa (xcallB call_len ok_len (by rfl) T.z_len PySem.boot_len (xa (xv 0) xa_nil)) xa_nil)) (xg_name (i := 3) S.nd rfl (by first | exact Or.inl rfl | exact Or.inr rfl)) (xss_one (xs_set (i := 2) S.nd rfl (by first | exact Or.inl rfl | exact Or.inr rfl) (xadd (xadd (xv 2) (xmul xstr (xsub (xix (xadd (x_lst (xa (xv 1) xa_nil)) (xv 0)) (xv 3)) (xix (xv 0) (xv 3))))) xstr))))
    (xss_one (xs_ret (xadd (xv 2) (xmul xstr (xix (xv 0) (x_neg xint)))))))))
/-! _law_spots -/
def m__law_spots (A : Ad) : MS := (mSeq (mSet 3 (mLst (mCons (mTup (mCons (mVar 1) (mCons (mOp fAdd (mVar 1) (mVar 2)) mNil))) mNil)))
    (mKill [1, 2, 4, 5] (mSeq (mFor (mIL (mVar 0)) (mgName 4) (mSeq (mSet 5 (mOp fAdd (mOp fIx (mOp fIx (mVar 3) (mNeg (mC (.int 1)))) (mC (.int 0))) (mCB gInt (mCons (mOp fEq (mVar 4) (mC (.str (PySem.Str.ofString "r")))) mNil))))
    (mAppend (mpV 3) (mTup (mCons (mVar 5) (mCons (mOp fSub (mOp fIx (mOp fIx (mVar 3) (mNeg (mC (.int 1)))) (mC (.int 1))) (mCB gInt (mCons (mOp fEq (mVar 4) (mC (.str (PySem.Str.ofString "d")))) mNil))) mNil))))) [4, 5])
    (mRetV 3))))
def g__law_spots (A : Ad) : List D → Option FO := runF N__law_spots.length (m__law_spots A)
theorem ok__law_spots (T : Txt K mg A) : FnOk P w K mg base (L2N.CX P w) 1 A.a__law_spots A.d__law_spots ["_law_lane_here", "_law_s", "_law_height"] (spD K 3 (g__law_spots A)) := by
  have S := sc__law_spots
  exact fnDN T._law_spots.F sc__law_spots rfl fun cdv AA outer s H E hr =>
    (xss_cons (xs_set (i := 3) S.nd rfl (by first | exact Or.inl rfl | exact Or.inr rfl) (x_lst (xa (x_tup (xa (xv 1) (xa (xadd (xv 1) (xv 2)) xa_nil))) xa_nil)))
    (xss_kill [1, 2, 4, 5] (xss_cons (xs_for [4, 5] (passes_of rfl) rfl (xi_l (xv 0)) (xg_name (i := 4) S.nd rfl (by first | exact Or.inl rfl | exact Or.inr rfl)) (xss_cons (xs_set (i := 5) S.nd rfl (by first | exact Or.inl rfl | exact Or.inr rfl) (xadd (xix (xix (xv 3) (x_neg xint)) xint) (xcallTy call_int1 ok_int (by rfl) T.z_int (by decide +kernel) (xa (xcmp (op_eqD hr.units) op2_eq (nomark _) (xv 4) xstr) xa_nil))))
    (xss_one (xs_append (xp_v 3) (x_tup (xa (xv 5) (xa (xsub (xix (xix (xv 3) (x_neg xint)) xint) (xcallTy call_int1 ok_int (by rfl) T.z_int (by decide +kernel) (xa (xcmp (op_eqD hr.units) op2_eq (nomark _) (xv 4) xstr) xa_nil))) xa_nil)))))))
    (xss_one (xs_retV 3)))))
theorem okH__law_spots (T : Txt K mg A) : L2H.FnH P w K mg base (L2N.CX P w) 1 A.a__law_spots A.d__law_spots ["_law_lane_here", "_law_s", "_law_height"] (spD K 3 (g__law_spots A)) := by
  have S := sc__law_spots
  exact fnDHN T._law_spots.F sc__law_spots rfl fun cdv AA outer s H E p hc hr =>
    (xss_cons (xs_set (i := 3) S.nd rfl (by first | exact Or.inl rfl | exact Or.inr rfl) (x_lst (xa (x_tup (xa (xv 1) (xa (xadd (xv 1) (xv 2)) xa_nil))) xa_nil)))
    (xss_kill [1, 2, 4, 5] (xss_cons (xs_forH [4, 5] (passes_of rfl) hc (xiH_l (xv 0)) (xg_name (i := 4) S.nd rfl (by first | exact Or.inl rfl | exact Or.inr rfl)) (xss_cons (xs_set (i := 5) S.nd rfl (by first | exact Or.inl rfl | exact Or.inr rfl) (xadd (xix (xix (xv 3) (x_neg xint)) xint) (xcallTy call_int1 ok_int (by rfl) T.z_int (by decide +kernel) (xa (xcmp (op_eqD hr.units) op2_eq (nomark _) (xv 4) xstr) xa_nil))))
    (xss_one (xs_append (xp_v 3) (x_tup (xa (xv 5) (xa (xsub (xix (xix (xv 3) (x_neg xint)) xint) (xcallTy call_int1 ok_int (by rfl) T.z_int (by decide +kernel) (xa (xcmp (op_eqD hr.units) op2_eq (nomark _) (xv 4) xstr) xa_nil))) xa_nil)))))))
    (xss_one (xs_retV 3)))))
/-! _law_text -/
def m__law_text (A : Ad) : MS := (mSeq (mSet 3 (mC (.str (PySem.Str.ofString ""))))
    (mKill [4] (mSeq (mFor (mIL (mVar 0)) (mgName 4) (mIfS (mAnd (mTst (mOp fGt (mVar 1) (mC (.int 0)))) (mOr (mTst (mOp fEq (mVar 2) (mC (.int 0)))) (mTst (mOp fLt (mOp fMod (mVar 4) (mOp fAdd (mVar 1) (mVar 2))) (mVar 1))))) (mSeq (mSet 3 (mOp fAdd (mVar 3) (mC (.str (PySem.Str.ofString "r")))))
    (mSet 1 (mOp fSub (mVar 1) (mC (.int 1))))) (mIfS (mTst (mOp fGt (mVar 2) (mC (.int 0)))) (mSeq (mSet 3 (mOp fAdd (mVar 3) (mC (.str (PySem.Str.ofString "d")))))
    (mSet 2 (mOp fSub (mVar 2) (mC (.int 1))))) mNext)) [4])
    (mRet (mOp fAdd (mOp fAdd (mVar 3) (mOp fMul (mC (.str (PySem.Str.ofString "r"))) (mVar 1))) (mOp fMul (mC (.str (PySem.Str.ofString "d"))) (mVar 2)))))))
def g__law_text (A : Ad) : List D → Option FO := runF N__law_text.length (m__law_text A)
theorem ok__law_text (T : Txt K mg A) : FnOk P w K mg base (L2N.CX P w) 1 A.a__law_text A.d__law_text ["_law_cells", "_law_right", "_law_down"] (spD K 3 (g__law_text A)) := by
  have S := sc__law_text
  exact fnDN T._law_text.F sc__law_text rfl fun cdv AA outer s H E hr =>
    (xss_cons (xs_set (i := 3) S.nd rfl (by first | exact Or.inl rfl | exact Or.inr rfl) xstr)
    (xss_kill [4] (xss_cons (xs_for [4] (passes_of rfl) rfl (xi_l (xv 0)) (xg_name (i := 4) S.nd rfl (by first | exact Or.inl rfl | exact Or.inr rfl)) (xss_one (xs_if (xw_pt (xw_and (xtcmp op_gt op2_gt (nomark _) (xv 1) xint) (xw_and1 (xw_pt (xw_or (xtcmp (op_eqD hr.units) op2_eq (nomark _) (xv 2) xint) (xw_or1 (xtcmp op_lt op2_lt (nomark _) (xmod (xv 4) (xadd (xv 1) (xv 2))) (xv 1)))))))) (xss_cons (xs_set (i := 3) S.nd rfl (by first | exact Or.inl rfl | exact Or.inr rfl) (xadd (xv 3) xstr))
    (xss_one (xs_set (i := 1) S.nd rfl (by first | exact Or.inl rfl | exact Or.inr rfl) (xsub (xv 1) xint)))) (xss_one (xs_if (xtcmp op_gt op2_gt (nomark _) (xv 2) xint) (xss_cons (xs_set (i := 3) S.nd rfl (by first | exact Or.inl rfl | exact Or.inr rfl) (xadd (xv 3) xstr))
    (xss_one (xs_set (i := 2) S.nd rfl (by first | exact Or.inl rfl | exact Or.inr rfl) (xsub (xv 2) xint)))) xss_nil)))))
    (xss_one (xs_ret (xadd (xadd (xv 3) (xmul xstr (xv 1))) (xmul xstr (xv 2))))))))
/-! _law_lanes -/
def m__law_lanes (A : Ad) : MS := (mSeq (mSet 2 (mOp fMod (mCall 2 (g__law_of A) (mCons (mVar 0) (mCons (mC (.int 1)) mNil))) (mC (.int 3))))
    (mKill [3, 4, 5, 6, 7, 8, 9, 10, 11] (mSeq (mSet 3 (mLc (mIL (mCall 3 (g__law_table A) (mCons (mVar 0) (mCons (mC (.int 3)) (mCons (mVar 1) mNil))))) (mgName 12) mYes (mCall 2 (g__law_lane A) (mCons (mVar 12) (mCons (mOp fIx (mVar 1) (mC (.int 2))) mNil))) [12]))
    (mSeq (mSet 4 (mOp fMod (mCall 2 (g__law_of A) (mCons (mVar 0) (mCons (mC (.int 2)) mNil))) (mOp fIx (mVar 1) (mC (.int 0)))))
    (mSeq (mSet 5 (mOp fMod (mOp fDiv (mCall 2 (g__law_of A) (mCons (mVar 0) (mCons (mC (.int 2)) mNil))) (mC (.int 6))) (mOp fAdd (mOp fIx (mVar 1) (mC (.int 1))) (mOp fIx (mVar 1) (mC (.int 2))))))
    (mSeq (mIfS (mAnd (mTst (mOp fEq (mVar 2) (mC (.int 1)))) (mTst (mOp fGt (mVar 5) (mC (.int 0))))) (mSeq (mSet 6 (mOp fIx (mVar 3) (mVar 4)))
    (mSeq (mSet 7 (mOp fAdd (mOp fIx (mVar 6) (mVar 5)) (mOp fIx (mVar 6) (mOp fSub (mVar 5) (mC (.int 1))))))
    (mSetIx (mpV 3) (mVar 4) (mOp fAdd (mOp fAdd (mSl (mVar 6) mNoPart (mPart (mOp fSub (mVar 5) (mC (.int 1))))) (mVar 7)) (mSl (mVar 6) (mPart (mOp fAdd (mVar 5) (mC (.int 1)))) mNoPart))))) mNext)
    (mKill [6, 7, 8, 9, 10, 11] (mSeq (mIfS (mTst (mOp fEq (mVar 2) (mC (.int 2)))) (mSeq (mSet 8 (mOp fAdd (mOp fIx (mVar 1) (mC (.int 1))) (mOp fIx (mVar 1) (mC (.int 2)))))
    (mKill [2, 3, 6, 7, 9, 10, 11] (mSeq (mSet 9 (mLc (mRg1 (mCons (mOp fMul (mVar 8) (mOp fIx (mVar 1) (mC (.int 0)))) mNil)) (mgName 10) mYes (mOp fDiv (mCall 2 (g__law_drawn A) (mCons (mVar 0) (mCons (mOp fAdd (mC (.int 3)) (mVar 10)) mNil))) (mC (.int 7))) [10]))
    (mSeq (mSet 3 (mLst mNil))
    (mKill [2, 6, 7, 10, 11] (mFor (mRg1 (mCons (mOp fIx (mVar 1) (mC (.int 0))) mNil)) (mgName 10) (mAppend (mpV 3) (mCall 3 (g__law_text A) (mCons (mSl (mVar 9) (mPart (mOp fMul (mVar 8) (mVar 10))) (mPart (mOp fAdd (mOp fMul (mVar 8) (mVar 10)) (mVar 8)))) (mCons (mOp fIx (mVar 1) (mC (.int 1))) (mCons (mOp fIx (mVar 1) (mC (.int 2))) mNil))))) [10])))))) mNext)
    (mSeq (mSet 11 (mOp fMod (mOp fDiv (mCall 2 (g__law_of A) (mCons (mVar 0) (mCons (mC (.int 1)) mNil))) (mC (.int 3))) (mC (.int 10))))
    (mSeq (mIfS (mTst (mOp fEq (mVar 11) (mC (.int 0)))) (mAppend (mpV 3) (mOp fIx (mVar 3) (mVar 4))) mNext)
    (mSeq (mIfS (mTst (mOp fEq (mVar 11) (mC (.int 1)))) (mPop (mpV 3) (mVar 4)) mNext)
    (mSeq (mIfS (mTst (mOp fEq (mVar 11) (mC (.int 2)))) (mSetIx (mpV 3) (mVar 4) (mOp fAdd (mOp fIx (mVar 3) (mVar 4)) (mOp fIx (mC (.str (PySem.Str.ofString "rd"))) (mOp fMod (mVar 5) (mC (.int 2)))))) mNext)
    (mSeq (mIfS (mTst (mOp fEq (mVar 11) (mC (.int 3)))) (mSetIx (mpV 3) (mVar 4) (mOp fAdd (mSl (mOp fIx (mVar 3) (mVar 4)) mNoPart (mPart (mVar 5))) (mSl (mOp fIx (mVar 3) (mVar 4)) (mPart (mOp fAdd (mVar 5) (mC (.int 1)))) mNoPart))) mNext)
    (mSeq (mIfS (mTst (mOp fEq (mVar 11) (mC (.int 4)))) (mSeq (mSet 6 (mOp fIx (mVar 3) (mVar 4)))
    (mSetIx (mpV 3) (mVar 4) (mOp fAdd (mOp fAdd (mSl (mVar 6) mNoPart (mPart (mVar 5))) (mOp fIx (mC (.str (PySem.Str.ofString "rdxx"))) (mOp fMod (mOp fDiv (mCall 2 (g__law_of A) (mCons (mVar 0) (mCons (mC (.int 2)) mNil))) (mC (.int 999))) (mC (.int 4))))) (mSl (mVar 6) (mPart (mOp fAdd (mVar 5) (mC (.int 1)))) mNoPart)))) mNext)
    (mRetV 3)))))))))))))))
def g__law_lanes (A : Ad) : List D → Option FO := runF N__law_lanes.length (m__law_lanes A)
theorem ok__law_lanes (T : Txt K mg A) : FnOk P w K mg base (L2N.CX P w) 4 A.a__law_lanes A.d__law_lanes ["_law_script", "_law_room_here"] (spD K 2 (g__law_lanes A)) := by
  have S := sc__law_lanes
  exact fnDN T._law_lanes.F sc__law_lanes rfl fun cdv AA outer s H E hr =>
    (xss_cons (xs_set (i := 2) S.nd rfl (by first | exact Or.inl rfl | exact Or.inr rfl) (xmod (xcall (ok__law_of T) (hr.mono (by decide)) (by rfl) T._law_of.g T._law_of.F.kp T._law_of.b passLN (xa (xv 0) (xa xint xa_nil))) xint))
    (xss_kill [3, 4, 5, 6, 7, 8, 9, 10, 11] (xss_cons (xs_setLc (i := 3) (own := [("_law_row", 12)]) rfl S.nd rfl rfl (sw_true rfl rfl rfl (by decide +kernel)) (xi_l (xcall (ok__law_table T) (hr.mono (by decide)) (by rfl) T._law_table.g T._law_table.F.kp T._law_table.b passLN (xa (xv 0) (xa xint (xa (xv 1) xa_nil))))) (blkOk_by (own := [("_law_row", 12)]) (N := N__law_lanes) (sc := defScope s__law_lanes) (by decide +kernel)) (by decide) (fun _ _ _ _ _ => (xg_name (i := 12) S.nd rfl (by first | exact Or.inl rfl | exact Or.inr rfl))) (fun _ _ _ _ _ => xts_nil) (fun _ _ _ _ _ => (xcall (ok__law_lane T) (hr.mono (by decide)) (by rfl) T._law_lane.g T._law_lane.F.kp T._law_lane.b passLN (xa (xv 12) (xa (xix (xv 1) xint) xa_nil)))))
    (xss_cons (xs_set (i := 4) S.nd rfl (by first | exact Or.inl rfl | exact Or.inr rfl) (xmod (xcall (ok__law_of T) (hr.mono (by decide)) (by rfl) T._law_of.g T._law_of.F.kp T._law_of.b passLN (xa (xv 0) (xa xint xa_nil))) (xix (xv 1) xint)))
    (xss_cons (xs_set (i := 5) S.nd rfl (by first | exact Or.inl rfl | exact Or.inr rfl) (xmod (xdiv (xcall (ok__law_of T) (hr.mono (by decide)) (by rfl) T._law_of.g T._law_of.F.kp T._law_of.b passLN (xa (xv 0) (xa xint xa_nil))) xint) (xadd (xix (xv 1) xint) (xix (xv 1) xint))))
    (xss_cons (xs_if (xw_pt (xw_and (xtcmp (op_eqD hr.units) op2_eq (nomark _) (xv 2) xint) (xw_and1 (xtcmp op_gt op2_gt (nomark _) (xv 5) xint)))) (xss_cons (xs_set (i := 6) S.nd rfl (by first | exact Or.inl rfl | exact Or.inr rfl) (xix (xv 3) (xv 4)))
    (xss_cons (xs_set (i := 7) S.nd rfl (by first | exact Or.inl rfl | exact Or.inr rfl) (xadd (xix (xv 6) (xv 5)) (xix (xv 6) (xsub (xv 5) xint))))
    (xss_one (xs_setIx (xadd (xadd (x_sl (xv 6) xo_none (xo_some (xsub (xv 5) xint))) (xv 7)) (x_sl (xv 6) (xo_some (xadd (xv 5) xint)) xo_none)) (xp_v 3) (xv 4))))) xss_nil)
    (xss_kill [6, 7, 8, 9, 10, 11] (xss_cons (xs_if (xtcmp (op_eqD hr.units) op2_eq (nomark _) (xv 2) xint) (xss_cons (xs_set (i := 8) S.nd rfl (by first | exact Or.inl rfl | exact Or.inr rfl) (xadd (xix (xv 1) xint) (xix (xv 1) xint)))
    (xss_kill [2, 3, 6, 7, 9, 10, 11] (xss_cons (xs_setLc (i := 9) (own := [("_law_m", 10)]) rfl S.nd rfl rfl (sw_true rfl rfl rfl (by decide +kernel)) (xi_rg1 (by rfl) T.z_range (xa (xmul (xv 8) (xix (xv 1) xint)) xa_nil)) (blkOk_by (own := [("_law_m", 10)]) (N := N__law_lanes) (sc := defScope s__law_lanes) (by decide +kernel)) (by decide) (fun _ _ _ _ _ => (xg_name (i := 10) S.nd rfl (by first | exact Or.inl rfl | exact Or.inr rfl))) (fun _ _ _ _ _ => xts_nil) (fun _ _ _ _ _ => (xdiv (xcall (ok__law_drawn T) (hr.mono (by decide)) (by rfl) T._law_drawn.g T._law_drawn.F.kp T._law_drawn.b passLN (xa (xv 0) (xa (xadd xint (xv 10)) xa_nil))) xint)))
    (xss_cons (xs_set (i := 3) S.nd rfl (by first | exact Or.inl rfl | exact Or.inr rfl) (x_lst xa_nil))
    (xss_kill [2, 6, 7, 10, 11] (xss_one (xs_for [10] (passes_of rfl) rfl (xi_rg1 (by rfl) T.z_range (xa (xix (xv 1) xint) xa_nil)) (xg_name (i := 10) S.nd rfl (by first | exact Or.inl rfl | exact Or.inr rfl)) (xss_one (xs_append (xp_v 3) (xcall (ok__law_text T) (hr.mono (by decide)) (by rfl) T._law_text.g T._law_text.F.kp T._law_text.b passLN (xa (x_sl (xv 9) (xo_some (xmul (xv 8) (xv 10))) (xo_some (xadd (xmul (xv 8) (xv 10)) (xv 8)))) (xa (xix (xv 1) xint) (xa (xix (xv 1) xint) xa_nil))))))))))))) xss_nil)
    (xss_cons (xs_set (i := 11) S.nd rfl (by first | exact Or.inl rfl | exact Or.inr rfl) (xmod (xdiv (xcall (ok__law_of T) (hr.mono (by decide)) (by rfl) T._law_of.g T._law_of.F.kp T._law_of.b passLN (xa (xv 0) (xa xint xa_nil))) xint) xint))
    (xss_cons (xs_if (xtcmp (op_eqD hr.units) op2_eq (nomark _) (xv 11) xint) (xss_one (xs_append (xp_v 3) (xix (xv 3) (xv 4)))) xss_nil)
    (xss_cons (xs_if (xtcmp (op_eqD hr.units) op2_eq (nomark _) (xv 11) xint) (xss_one (xs_pop (xf_pop (xp_v 3) (xv 4)))) xss_nil)
    (xss_cons (xs_if (xtcmp (op_eqD hr.units) op2_eq (nomark _) (xv 11) xint) (xss_one (xs_setIx (xadd (xix (xv 3) (xv 4)) (xix xstr (xmod (xv 5) xint))) (xp_v 3) (xv 4))) xss_nil)
    (xss_cons (xs_if (xtcmp (op_eqD hr.units) op2_eq (nomark _) (xv 11) xint) (xss_one (xs_setIx (xadd (x_sl (xix (xv 3) (xv 4)) xo_none (xo_some (xv 5))) (x_sl (xix (xv 3) (xv 4)) (xo_some (xadd (xv 5) xint)) xo_none)) (xp_v 3) (xv 4))) xss_nil)
    (xss_cons (xs_if (xtcmp (op_eqD hr.units) op2_eq (nomark _) (xv 11) xint) (xss_cons (xs_set (i := 6) S.nd rfl (by first | exact Or.inl rfl | exact Or.inr rfl) (xix (xv 3) (xv 4)))
    (xss_one (xs_setIx (xadd (xadd (x_sl (xv 6) xo_none (xo_some (xv 5))) (xix xstr (xmod (xdiv (xcall (ok__law_of T) (hr.mono (by decide)) (by rfl) T._law_of.g T._law_of.F.kp T._law_of.b passLN (xa (xv 0) (xa xint xa_nil))) xint) xint))) (x_sl (xv 6) (xo_some (xadd (xv 5) xint)) xo_none)) (xp_v 3) (xv 4)))) xss_nil)
    (xss_one (xs_retV 3))))))))))))))))
/-! _law_apart -/
def m__law_apart (A : Ad) : MS := (mSeq (mIfS (mTst (mOp fNe (mCB gLen (mCons (mVar 0) mNil)) (mOp fIx (mVar 1) (mC (.int 0))))) (mRet (mC (.bl false))) mNext)
    (mSeq (mSetM 2 (.t []))
    (mKill [3, 4, 5] (mSeq (mFor (mRg1 (mCons (mCB gLen (mCons (mVar 0) mNil)) mNil)) (mgName 3) (mSeq (mSet 4 (mOp fIx (mVar 0) (mVar 3)))
    (mSeq (mIfS (mTst (mOp fNe (mCB gLen (mCons (mVar 4) mNil)) (mOp fAdd (mOp fIx (mVar 1) (mC (.int 1))) (mOp fIx (mVar 1) (mC (.int 2)))))) (mRet (mC (.bl false))) mNext)
    (mSeq (mIfS (mTst (mOp fNe (mCount (mVar 4) (mC (.str (PySem.Str.ofString "r")))) (mOp fIx (mVar 1) (mC (.int 1))))) (mRet (mC (.bl false))) mNext)
    (mSeq (mIfS (mTst (mOp fNe (mCount (mVar 4) (mC (.str (PySem.Str.ofString "d")))) (mOp fIx (mVar 1) (mC (.int 2))))) (mRet (mC (.bl false))) mNext)
    (mKill [5] (mFor (mIL (mCall 3 (g__law_spots A) (mCons (mVar 4) (mCons (mOp fSub (mOp fSub (mOp fIx (mVar 1) (mC (.int 0))) (mC (.int 1))) (mVar 3)) (mCons (mOp fIx (mVar 1) (mC (.int 2))) mNil))))) (mgName 5) (mSeq (mIfS (mTst (mIn false (mVar 5) 2)) (mRet (mC (.bl false))) mNext)
    (mDPut 2 (mVar 5) (mC (.bl true)))) [5])))))) [3, 4, 5])
    (mRet (mC (.bl true)))))))
def g__law_apart (A : Ad) : List D → Option FO := runF N__law_apart.length (m__law_apart A)
theorem ok__law_apart (T : Txt K mg A) : FnOk P w K mg base (L2N.CX P w) 2 A.a__law_apart A.d__law_apart ["_law_lanes_here", "_law_room_here"] (spD K 2 (g__law_apart A)) := by
  have S := sc__law_apart
  exact fnDN T._law_apart.F sc__law_apart rfl fun cdv AA outer s H E hr =>
    (xss_cons (xs_if (xtcmp (op_neD hr.units) op2_ne (nomark _) (xcallB call_len ok_len (by rfl) T.z_len PySem.boot_len (xa (xv 0) xa_nil)) (xix (xv 1) xint)) (xss_one (xs_ret xbl)) xss_nil)
    (xss_cons (xs_setDT (i := 2) S.nd rfl (by first | exact Or.inl rfl | exact Or.inr rfl))
    (xss_kill [3, 4, 5] (xss_cons (xs_for [3, 4, 5] (passes_of rfl) rfl (xi_rg1 (by rfl) T.z_range (xa (xcallB call_len ok_len (by rfl) T.z_len PySem.boot_len (xa (xv 0) xa_nil)) xa_nil)) (xg_name (i := 3) S.nd rfl (by first | exact Or.inl rfl | exact Or.inr rfl)) (xss_cons (xs_set (i := 4) S.nd rfl (by first | exact Or.inl rfl | exact Or.inr rfl) (xix (xv 0) (xv 3)))
    (xss_cons (xs_if (xtcmp (op_neD hr.units) op2_ne (nomark _) (xcallB call_len ok_len (by rfl) T.z_len PySem.boot_len (xa (xv 4) xa_nil)) (xadd (xix (xv 1) xint) (xix (xv 1) xint))) (xss_one (xs_ret xbl)) xss_nil)
    (xss_cons (xs_if (xtcmp (op_neD hr.units) op2_ne (nomark _) (x_count (xv 4) xstr) (xix (xv 1) xint)) (xss_one (xs_ret xbl)) xss_nil)
    (xss_cons (xs_if (xtcmp (op_neD hr.units) op2_ne (nomark _) (x_count (xv 4) xstr) (xix (xv 1) xint)) (xss_one (xs_ret xbl)) xss_nil)
    (xss_kill [5] (xss_one (xs_for [5] (passes_of rfl) rfl (xi_l (xcall (ok__law_spots T) (hr.mono (by decide)) (by rfl) T._law_spots.g T._law_spots.F.kp T._law_spots.b passLN (xa (xv 4) (xa (xsub (xsub (xix (xv 1) xint) xint) (xv 3)) (xa (xix (xv 1) xint) xa_nil))))) (xg_name (i := 5) S.nd rfl (by first | exact Or.inl rfl | exact Or.inr rfl)) (xss_cons (xs_if (xt_in (i := 2) (hu_of hr) (xv 5)) (xss_one (xs_ret xbl)) xss_nil)
    (xss_one (xs_dput (i := 2) (hu_of hr) (xv 5) xbl)))))))))))
    (xss_one (xs_ret xbl))))))
theorem okH__law_apart (T : Txt K mg A) : L2H.FnH P w K mg base (L2N.CX P w) 2 A.a__law_apart A.d__law_apart ["_law_lanes_here", "_law_room_here"] (spD K 2 (g__law_apart A)) := by
  have S := sc__law_apart
  exact fnDHN T._law_apart.F sc__law_apart rfl fun cdv AA outer s H E p hc hr =>
    (xss_cons (xs_if (xtcmp (op_neD hr.units) op2_ne (nomark _) (xcallB call_len ok_len (by rfl) T.z_len PySem.boot_len (xa (xv 0) xa_nil)) (xix (xv 1) xint)) (xss_one (xs_ret xbl)) xss_nil)
    (xss_cons (xs_setDT (i := 2) S.nd rfl (by first | exact Or.inl rfl | exact Or.inr rfl))
    (xss_kill [3, 4, 5] (xss_cons (xs_forH [3, 4, 5] (passes_of rfl) hc (xiH_rg1 (by rfl) T.z_range (xa (xcallB call_len ok_len (by rfl) T.z_len PySem.boot_len (xa (xv 0) xa_nil)) xa_nil)) (xg_name (i := 3) S.nd rfl (by first | exact Or.inl rfl | exact Or.inr rfl)) (xss_cons (xs_set (i := 4) S.nd rfl (by first | exact Or.inl rfl | exact Or.inr rfl) (xix (xv 0) (xv 3)))
    (xss_cons (xs_if (xtcmp (op_neD hr.units) op2_ne (nomark _) (xcallB call_len ok_len (by rfl) T.z_len PySem.boot_len (xa (xv 4) xa_nil)) (xadd (xix (xv 1) xint) (xix (xv 1) xint))) (xss_one (xs_ret xbl)) xss_nil)
    (xss_cons (xs_if (xtcmp (op_neD hr.units) op2_ne (nomark _) (x_count (xv 4) xstr) (xix (xv 1) xint)) (xss_one (xs_ret xbl)) xss_nil)
    (xss_cons (xs_if (xtcmp (op_neD hr.units) op2_ne (nomark _) (x_count (xv 4) xstr) (xix (xv 1) xint)) (xss_one (xs_ret xbl)) xss_nil)
    (xss_kill [5] (xss_one (xs_forH [5] (passes_of rfl) hc (xiH_l (xcallH (okH__law_spots T) (hr.mono (by decide)) hc (by rfl) T._law_spots.g T._law_spots.F.kp T._law_spots.b passLAN (xa (xv 4) (xa (xsub (xsub (xix (xv 1) xint) xint) (xv 3)) (xa (xix (xv 1) xint) xa_nil))))) (xg_name (i := 5) S.nd rfl (by first | exact Or.inl rfl | exact Or.inr rfl)) (xss_cons (xs_if (xt_in (i := 2) (hu_ofH hr) (xv 5)) (xss_one (xs_ret xbl)) xss_nil)
    (xss_one (xs_dput (i := 2) (hu_ofH hr) (xv 5) xbl)))))))))))
    (xss_one (xs_ret xbl))))))
/-! _law_kinds -/
def m__law_kinds (A : Ad) (a : Addr) : MS := (mSeq (mSet 1 (mLst (mCons (mIsE 0 a false) (mCons (mIsE 0 a false) (mCons (mIsE 0 a false) mNil)))))
    (mRet (mOp fAdd (mVar 1) (mLst (mCons (mIsE 0 a true) (mCons (mIsE 0 a false) (mCons (mIsE 0 a true) mNil)))))))
theorem okP__law_kinds (T : Txt K mg A) {a : Addr} {oe : Obj} (hz : Zc (.ref A.c_NoLanes) none oe) (hf : ∃ vs, oe.data = .fields vs) : FnPN P w K mg base a oe 1 A.a__law_kinds A.d__law_kinds ["_law_e"] (fun vs H Q _ => vs = [.ref a] ∧ ∀ v F H', Evl.Ex H H' → Rep K H' (.own [.d (.bl false), .d (.bl false), .d (.bl false), .d (.bl true), .d (.bl false), .d (.bl true)]) v F → (∀ b ∈ F, H b = none) → Q v H') := by
  have S := sc__law_kinds
  exact fnPN (nn := N__law_kinds.length) (m := m__law_kinds A a) (s0 := .own [.d (.bl false), .d (.bl false), .d (.bl false), .d (.bl true), .d (.bl false), .d (.bl true)]) T._law_kinds.F sc__law_kinds rfl rfl (fun cdv AA outer s H E hr =>
    (xss_cons (xs_set (i := 1) S.nd rfl (by first | exact Or.inl rfl | exact Or.inr rfl) (x_lst (xa (x_isE (i := 0) (List.Mem.head _) T.xc_NoLanes hz hf (by rfl) T.z_isinstance (by rfl) T.e_NoRoom.g T.xk_NoLanes_NoRoom) (xa (x_isE (i := 0) (List.Mem.head _) T.xc_NoLanes hz hf (by rfl) T.z_isinstance (by rfl) T.e_NoTable.g T.xk_NoLanes_NoTable) (xa (x_isE (i := 0) (List.Mem.head _) T.xc_NoLanes hz hf (by rfl) T.z_isinstance (by rfl) T.e_NoPlace.g T.xk_NoLanes_NoPlace) xa_nil)))))
    (xss_one (xs_ret (xadd (xv 1) (x_lst (xa (x_isE (i := 0) (List.Mem.head _) T.xc_NoLanes hz hf (by rfl) T.z_isinstance (by rfl) T.e_NoLanes.g T.xk_NoLanes_NoLanes) (xa (x_isE (i := 0) (List.Mem.head _) T.xc_NoLanes hz hf (by rfl) T.z_isinstance (by rfl) T.e_NoFloor.g T.xk_NoLanes_NoFloor) (xa (x_isEV (i := 0) (List.Mem.head _) T.xc_NoLanes hz hf (by rfl) T.z_isinstance (by rfl) T.z_ValueError T.xk_NoLanes_ValueError) xa_nil))))))))) (by simp (config := { decide := true }) [m__law_kinds, mSeq, mSet, mRet, mOp, mLst, mCons, mNil, mIsE, mVar, trees, R.tree, R.slot, imm, fAdd, R.data, DL.S.data, DL.S.dataL, newL, immL])
/-! law -/
def m_law (A : Ad) : MS := (mSeq (mSet 1 (mCall 1 (g__law_room A) (mCons (mCall 2 (g__law_of A) (mCons (mVar 0) (mCons (mC (.int 0)) mNil))) mNil)))
    (mSeq (mSet 2 (mCall 2 (g__law_lanes A) (mCons (mVar 0) (mCons (mVar 1) mNil))))
    (mSeq (mSet 3 (mCB gList (mCons (mVar 2) mNil)))
    (mSeq (mSet 4 (mC .non))
    (mSeq (mTryC 4 (mCallO 2 (g_table_of A) (mCons (mVar 1) (mCons (mVar 3) mNil))) A.c_NoLanes 5 (fun a => (mSeq (mIfS (mTst (mOp fNe (mCP 5 a [.d (.bl false), .d (.bl false), .d (.bl false), .d (.bl true), .d (.bl false), .d (.bl true)]) (mLst (mCons (mC (.bl false)) (mCons (mC (.bl false)) (mCons (mC (.bl false)) (mCons (mC (.bl true)) (mCons (mC (.bl false)) (mCons (mC (.bl true)) mNil))))))))) (mRet (mC (.bl false))) mNext)
    (mRet (mAndV (mNotV (mCall 2 (g__law_apart A) (mCons (mVar 2) (mCons (mVar 1) mNil)))) (mOp fEq (mVar 3) (mVar 2)))))))
    (mSeq (mIfS (mOr (mNot (mTst (mCall 2 (g__law_apart A) (mCons (mVar 2) (mCons (mVar 1) mNil))))) (mOr (mNot (mTst (mCall 2 (g__law_good A) (mCons (mVar 4) (mCons (mVar 1) mNil))))) (mTst (mOp fNe (mVar 3) (mVar 2))))) (mRet (mC (.bl false))) mNext)
    (mKill [0, 5, 6] (mSeq (mIfS (mTst (mOp fNe (mLc (mIL (mVar 4)) (mgName 7) mYes (mCall 2 (g__law_lane A) (mCons (mVar 7) (mCons (mOp fIx (mVar 1) (mC (.int 2))) mNil))) [7]) (mVar 2))) (mRet (mC (.bl false))) mNext)
    (mKill [0, 5, 6] (mSeq (mFor (mRg1 (mCons (mOp fIx (mVar 1) (mC (.int 0))) mNil)) (mgName 6) (mAppend (mpIx (mpV 4) (mVar 6)) (mC (.int 0))) [6])
    (mKill [0, 4, 5, 6] (mRet (mOp fEq (mLc (mIL (mCall 2 (g_table_of A) (mCons (mVar 1) (mCons (mVar 3) mNil)))) (mgName 7) mYes (mCall 2 (g__law_lane A) (mCons (mVar 7) (mCons (mOp fIx (mVar 1) (mC (.int 2))) mNil))) [7]) (mVar 2))))))))))))))
def g_law (A : Ad) : List D → Option FO := runF N_law.length (m_law A)
theorem ok_law (T : Txt K mg A) : FnOk P w K mg base (L2N.CX P w) 5 A.a_law A.d_law ["_law_script"] (spD K 1 (g_law A)) := by
  have S := sc_law
  exact fnDN T.law.F sc_law rfl fun cdv AA outer s H E hr =>
    (xss_cons (xs_set (i := 1) S.nd rfl (by first | exact Or.inl rfl | exact Or.inr rfl) (xcall (ok__law_room T) (hr.mono (by decide)) (by rfl) T._law_room.g T._law_room.F.kp T._law_room.b passLN (xa (xcall (ok__law_of T) (hr.mono (by decide)) (by rfl) T._law_of.g T._law_of.F.kp T._law_of.b passLN (xa (xv 0) (xa xint xa_nil))) xa_nil)))
    (xss_cons (xs_set (i := 2) S.nd rfl (by first | exact Or.inl rfl | exact Or.inr rfl) (xcall (ok__law_lanes T) (hr.mono (by decide)) (by rfl) T._law_lanes.g T._law_lanes.F.kp T._law_lanes.b passLN (xa (xv 0) (xa (xv 1) xa_nil))))
    (xss_cons (xs_set (i := 3) S.nd rfl (by first | exact Or.inl rfl | exact Or.inr rfl) (xcallTy call_list_of ok_list (by rfl) T.z_list (by decide +kernel) (xa (xv 2) xa_nil)))
    (xss_cons (xs_set (i := 4) S.nd rfl (by first | exact Or.inl rfl | exact Or.inr rfl) xnon)
    (xss_cons (xs_tryCN (i := 5) (ix := 4) (m2 := fun a => (mSeq (mIfS (mTst (mOp fNe (mCP 5 a [.d (.bl false), .d (.bl false), .d (.bl false), .d (.bl true), .d (.bl false), .d (.bl true)]) (mLst (mCons (mC (.bl false)) (mCons (mC (.bl false)) (mCons (mC (.bl false)) (mCons (mC (.bl true)) (mCons (mC (.bl false)) (mCons (mC (.bl true)) mNil))))))))) (mRet (mC (.bl false))) mNext)
    (mRet (mAndV (mNotV (mCall 2 (g__law_apart A) (mCons (mVar 2) (mCons (mVar 1) mNil)))) (mOp fEq (mVar 3) (mVar 2)))))) rfl rfl S.nd rfl rfl ⟨by rfl, by decide, .inl T.e_HeapError.g⟩ T.xm_NoLanes_HeapError (L2N.takes_of rfl rfl rfl rfl) rfl (by first | exact Or.inl rfl | exact Or.inr rfl)
    (fun V pn xe tk => xcs_callN (ok_table_of T) (hr.mono (by decide)) (by rfl) T.table_of.g T.table_of.F.kp T.table_of.b tk (xa (xv 1) (xa (xv 3) xa_nil)))
    (fun a oe pn hz hf => (xss_cons (xs_if (xtcmp (op_neD hr.units) op2_ne (nomark _) (x_callPN (i := 5) (okP__law_kinds T hz.zc hf) (roomH_mark (k := 1) (hr.mono (by decide))) (List.Mem.head _) (by rfl) T._law_kinds.g T._law_kinds.F.kp T._law_kinds.b passLAN) (x_lst (xa xbl (xa xbl (xa xbl (xa xbl (xa xbl (xa xbl xa_nil)))))))) (xss_one (xs_ret xbl)) xss_nil)
    (xss_one (xs_ret (x_and (x_not (xcallH (okH__law_apart T) (roomH_mark (k := 2) (hr.mono (by decide))) (hot_suite hz hf) (by rfl) T._law_apart.g T._law_apart.F.kp T._law_apart.b passLAN (xa (xv 2) (xa (xv 1) xa_nil)))) (x_one (xcmp (op_eqD hr.units) op2_eq (nomark _) (xv 3) (xv 2)))))))))
    (xss_cons (xs_if (xw_pt (xw_or (xt_not (xt_val (xcall (ok__law_apart T) (hr.mono (by decide)) (by rfl) T._law_apart.g T._law_apart.F.kp T._law_apart.b passLN (xa (xv 2) (xa (xv 1) xa_nil))))) (xw_or (xt_not (xt_val (xcall (ok__law_good T) (hr.mono (by decide)) (by rfl) T._law_good.g T._law_good.F.kp T._law_good.b passLN (xa (xv 4) (xa (xv 1) xa_nil))))) (xw_or1 (xtcmp (op_neD hr.units) op2_ne (nomark _) (xv 3) (xv 2)))))) (xss_one (xs_ret xbl)) xss_nil)
    (xss_kill [0, 5, 6] (xss_cons (xs_if (xtcmp (op_neD hr.units) op2_ne (nomark _) (x_lc (own := [("_law_row", 7)]) rfl S.nd (xi_l (xv 4)) (blkOk_by (own := [("_law_row", 7)]) (N := N_law) (sc := defScope s_law) (by decide +kernel)) (by decide) (fun _ _ _ _ _ => (xg_name (i := 7) S.nd rfl (by first | exact Or.inl rfl | exact Or.inr rfl))) (fun _ _ _ _ _ => xts_nil) (fun _ _ _ _ _ => (xcall (ok__law_lane T) (hr.mono (by decide)) (by rfl) T._law_lane.g T._law_lane.F.kp T._law_lane.b passLN (xa (xv 7) (xa (xix (xv 1) xint) xa_nil))))) (xv 2)) (xss_one (xs_ret xbl)) xss_nil)
    (xss_kill [0, 5, 6] (xss_cons (xs_for [6] (passes_of rfl) rfl (xi_rg1 (by rfl) T.z_range (xa (xix (xv 1) xint) xa_nil)) (xg_name (i := 6) S.nd rfl (by first | exact Or.inl rfl | exact Or.inr rfl)) (xss_one (xs_append (xp_ix (xp_v 4) (xv 6)) xint)))
    (xss_kill [0, 4, 5, 6] (xss_one (xs_ret (xcmp (op_eqD hr.units) op2_eq (nomark _) (x_lc (own := [("_law_row", 7)]) rfl S.nd (xi_l (xcall (ok_table_of T) (hr.mono (by decide)) (by rfl) T.table_of.g T.table_of.F.kp T.table_of.b passLN (xa (xv 1) (xa (xv 3) xa_nil)))) (blkOk_by (own := [("_law_row", 7)]) (N := N_law) (sc := defScope s_law) (by decide +kernel)) (by decide) (fun _ _ _ _ _ => (xg_name (i := 7) S.nd rfl (by first | exact Or.inl rfl | exact Or.inr rfl))) (fun _ _ _ _ _ => xts_nil) (fun _ _ _ _ _ => (xcall (ok__law_lane T) (hr.mono (by decide)) (by rfl) T._law_lane.g T._law_lane.F.kp T._law_lane.b passLN (xa (xv 7) (xa (xix (xv 1) xint) xa_nil))))) (xv 2)))))))))))))))
end
/-! ### the end -/
theorem all_mk {l : PySem.W.OpenLaw} {w : World} {K : PySem.W.Frag} {h : Heap} {mg : Str → Option Value} {fa : Addr} (X : K.In h) (G : h.Ns mainGlobals mg) (hfa : mg "law" = some (.ref fa))
    {f0 f1 f2 f3 f4 f5 f6 f7 f8 f9 f10 f11 f12 f13 f14 f15 f16 f17 f18 f19 f20 f21 f22 f23 : Addr} {od0 an0 od1 an1 od2 an2 od3 an3 od4 an4 od5 an5 od6 an6 od7 an7 od8 an8 od9 an9 od10 an10 od11 an11 od12 an12 od13 an13 od14 an14 od15 an15 od16 an16 od17 an17 od18 an18 od19 an19 od20 an20 od21 an21 od22 an22 od23 an23 : Option Addr} {sl0 sl1 sl2 sl3 sl4 sl5 sl6 sl7 sl8 sl9 sl10 sl11 sl12 sl13 sl14 sl15 sl16 sl17 sl18 sl19 sl20 sl21 sl22 sl23 : Array (Option Value)}
    {oc0 kV0 dc0 pm0 cd0 ct0 oc1 kV1 dc1 pm1 cd1 ct1 oc2 kV2 dc2 pm2 cd2 ct2 oc3 kV3 dc3 pm3 cd3 ct3 oc4 kV4 dc4 pm4 cd4 ct4 oc5 kV5 dc5 pm5 cd5 ct5 oc6 kV6 dc6 pm6 cd6 ct6 oc7 kV7 dc7 pm7 cd7 ct7 oc8 kV8 dc8 pm8 cd8 ct8 oc9 kV9 dc9 pm9 cd9 ct9 oc10 kV10 dc10 pm10 cd10 ct10 oc11 kV11 dc11 pm11 cd11 ct11 oc12 kV12 dc12 pm12 cd12 ct12 oc13 kV13 dc13 pm13 cd13 ct13 oc14 kV14 dc14 pm14 cd14 ct14 oc15 kV15 dc15 pm15 cd15 ct15 oc16 kV16 dc16 pm16 cd16 ct16 oc17 kV17 dc17 pm17 cd17 ct17 oc18 kV18 dc18 pm18 cd18 ct18 oc19 kV19 dc19 pm19 cd19 ct19 oc20 kV20 dc20 pm20 cd20 ct20 oc21 kV21 dc21 pm21 cd21 ct21 oc22 kV22 dc22 pm22 cd22 ct22 oc23 kV23 dc23 pm23 cd23 ct23 : Value}
    (a0 : PySem.W.nsIn K mainGlobals "is_whole" = some (some (.ref f0))) (l0 : K.lookup f0 = some ⟨oc0, od0, .func (PySem.W.fnOf "is_whole" "is_whole" (defArgs s_is_whole) (defBody s_is_whole) (defScope s_is_whole) .none kV0 dc0 pm0 an0 cd0 ct0), sl0⟩) (c0 : PySem.W.codeIn K cd0 "is_whole" = true) (k0 : PySem.W.keepIn K (.ref f0) = true)
    (a1 : PySem.W.nsIn K mainGlobals "is_room" = some (some (.ref f1))) (l1 : K.lookup f1 = some ⟨oc1, od1, .func (PySem.W.fnOf "is_room" "is_room" (defArgs s_is_room) (defBody s_is_room) (defScope s_is_room) .none kV1 dc1 pm1 an1 cd1 ct1), sl1⟩) (c1 : PySem.W.codeIn K cd1 "is_room" = true) (k1 : PySem.W.keepIn K (.ref f1) = true)
    (a2 : PySem.W.nsIn K mainGlobals "is_row" = some (some (.ref f2))) (l2 : K.lookup f2 = some ⟨oc2, od2, .func (PySem.W.fnOf "is_row" "is_row" (defArgs s_is_row) (defBody s_is_row) (defScope s_is_row) .none kV2 dc2 pm2 an2 cd2 ct2), sl2⟩) (c2 : PySem.W.codeIn K cd2 "is_row" = true) (k2 : PySem.W.keepIn K (.ref f2) = true)
    (a3 : PySem.W.nsIn K mainGlobals "never_rises" = some (some (.ref f3))) (l3 : K.lookup f3 = some ⟨oc3, od3, .func (PySem.W.fnOf "never_rises" "never_rises" (defArgs s_never_rises) (defBody s_never_rises) (defScope s_never_rises) .none kV3 dc3 pm3 an3 cd3 ct3), sl3⟩) (c3 : PySem.W.codeIn K cd3 "never_rises" = true) (k3 : PySem.W.keepIn K (.ref f3) = true)
    (a4 : PySem.W.nsIn K mainGlobals "is_table" = some (some (.ref f4))) (l4 : K.lookup f4 = some ⟨oc4, od4, .func (PySem.W.fnOf "is_table" "is_table" (defArgs s_is_table) (defBody s_is_table) (defScope s_is_table) .none kV4 dc4 pm4 an4 cd4 ct4), sl4⟩) (c4 : PySem.W.codeIn K cd4 "is_table" = true) (k4 : PySem.W.keepIn K (.ref f4) = true)
    (a5 : PySem.W.nsIn K mainGlobals "is_lane" = some (some (.ref f5))) (l5 : K.lookup f5 = some ⟨oc5, od5, .func (PySem.W.fnOf "is_lane" "is_lane" (defArgs s_is_lane) (defBody s_is_lane) (defScope s_is_lane) .none kV5 dc5 pm5 an5 cd5 ct5), sl5⟩) (c5 : PySem.W.codeIn K cd5 "is_lane" = true) (k5 : PySem.W.keepIn K (.ref f5) = true)
    (a6 : PySem.W.nsIn K mainGlobals "are_lanes" = some (some (.ref f6))) (l6 : K.lookup f6 = some ⟨oc6, od6, .func (PySem.W.fnOf "are_lanes" "are_lanes" (defArgs s_are_lanes) (defBody s_are_lanes) (defScope s_are_lanes) .none kV6 dc6 pm6 an6 cd6 ct6), sl6⟩) (c6 : PySem.W.codeIn K cd6 "are_lanes" = true) (k6 : PySem.W.keepIn K (.ref f6) = true)
    (a7 : PySem.W.nsIn K mainGlobals "check_room" = some (some (.ref f7))) (l7 : K.lookup f7 = some ⟨oc7, od7, .func (PySem.W.fnOf "check_room" "check_room" (defArgs s_check_room) (defBody s_check_room) (defScope s_check_room) .none kV7 dc7 pm7 an7 cd7 ct7), sl7⟩) (c7 : PySem.W.codeIn K cd7 "check_room" = true) (k7 : PySem.W.keepIn K (.ref f7) = true)
    (a8 : PySem.W.nsIn K mainGlobals "table_of" = some (some (.ref f8))) (l8 : K.lookup f8 = some ⟨oc8, od8, .func (PySem.W.fnOf "table_of" "table_of" (defArgs s_table_of) (defBody s_table_of) (defScope s_table_of) .none kV8 dc8 pm8 an8 cd8 ct8), sl8⟩) (c8 : PySem.W.codeIn K cd8 "table_of" = true) (k8 : PySem.W.keepIn K (.ref f8) = true)
    (a9 : PySem.W.nsIn K mainGlobals "row_of" = some (some (.ref f9))) (l9 : K.lookup f9 = some ⟨oc9, od9, .func (PySem.W.fnOf "row_of" "row_of" (defArgs s_row_of) (defBody s_row_of) (defScope s_row_of) .none kV9 dc9 pm9 an9 cd9 ct9), sl9⟩) (c9 : PySem.W.codeIn K cd9 "row_of" = true) (k9 : PySem.W.keepIn K (.ref f9) = true)
    (a10 : PySem.W.nsIn K mainGlobals "_law_of" = some (some (.ref f10))) (l10 : K.lookup f10 = some ⟨oc10, od10, .func (PySem.W.fnOf "_law_of" "_law_of" (defArgs s__law_of) (defBody s__law_of) (defScope s__law_of) .none kV10 dc10 pm10 an10 cd10 ct10), sl10⟩) (c10 : PySem.W.codeIn K cd10 "_law_of" = true) (k10 : PySem.W.keepIn K (.ref f10) = true)
    (a11 : PySem.W.nsIn K mainGlobals "_law_drawn" = some (some (.ref f11))) (l11 : K.lookup f11 = some ⟨oc11, od11, .func (PySem.W.fnOf "_law_drawn" "_law_drawn" (defArgs s__law_drawn) (defBody s__law_drawn) (defScope s__law_drawn) .none kV11 dc11 pm11 an11 cd11 ct11), sl11⟩) (c11 : PySem.W.codeIn K cd11 "_law_drawn" = true) (k11 : PySem.W.keepIn K (.ref f11) = true)
    (a12 : PySem.W.nsIn K mainGlobals "_law_is_number" = some (some (.ref f12))) (l12 : K.lookup f12 = some ⟨oc12, od12, .func (PySem.W.fnOf "_law_is_number" "_law_is_number" (defArgs s__law_is_number) (defBody s__law_is_number) (defScope s__law_is_number) .none kV12 dc12 pm12 an12 cd12 ct12), sl12⟩) (c12 : PySem.W.codeIn K cd12 "_law_is_number" = true) (k12 : PySem.W.keepIn K (.ref f12) = true)
    (a13 : PySem.W.nsIn K mainGlobals "_law_room" = some (some (.ref f13))) (l13 : K.lookup f13 = some ⟨oc13, od13, .func (PySem.W.fnOf "_law_room" "_law_room" (defArgs s__law_room) (defBody s__law_room) (defScope s__law_room) .none kV13 dc13 pm13 an13 cd13 ct13), sl13⟩) (c13 : PySem.W.codeIn K cd13 "_law_room" = true) (k13 : PySem.W.keepIn K (.ref f13) = true)
    (a14 : PySem.W.nsIn K mainGlobals "_law_most" = some (some (.ref f14))) (l14 : K.lookup f14 = some ⟨oc14, od14, .func (PySem.W.fnOf "_law_most" "_law_most" (defArgs s__law_most) (defBody s__law_most) (defScope s__law_most) .none kV14 dc14 pm14 an14 cd14 ct14), sl14⟩) (c14 : PySem.W.codeIn K cd14 "_law_most" = true) (k14 : PySem.W.keepIn K (.ref f14) = true)
    (a15 : PySem.W.nsIn K mainGlobals "_law_table" = some (some (.ref f15))) (l15 : K.lookup f15 = some ⟨oc15, od15, .func (PySem.W.fnOf "_law_table" "_law_table" (defArgs s__law_table) (defBody s__law_table) (defScope s__law_table) .none kV15 dc15 pm15 an15 cd15 ct15), sl15⟩) (c15 : PySem.W.codeIn K cd15 "_law_table" = true) (k15 : PySem.W.keepIn K (.ref f15) = true)
    (a16 : PySem.W.nsIn K mainGlobals "_law_good" = some (some (.ref f16))) (l16 : K.lookup f16 = some ⟨oc16, od16, .func (PySem.W.fnOf "_law_good" "_law_good" (defArgs s__law_good) (defBody s__law_good) (defScope s__law_good) .none kV16 dc16 pm16 an16 cd16 ct16), sl16⟩) (c16 : PySem.W.codeIn K cd16 "_law_good" = true) (k16 : PySem.W.keepIn K (.ref f16) = true)
    (a17 : PySem.W.nsIn K mainGlobals "_law_lane" = some (some (.ref f17))) (l17 : K.lookup f17 = some ⟨oc17, od17, .func (PySem.W.fnOf "_law_lane" "_law_lane" (defArgs s__law_lane) (defBody s__law_lane) (defScope s__law_lane) .none kV17 dc17 pm17 an17 cd17 ct17), sl17⟩) (c17 : PySem.W.codeIn K cd17 "_law_lane" = true) (k17 : PySem.W.keepIn K (.ref f17) = true)
    (a18 : PySem.W.nsIn K mainGlobals "_law_spots" = some (some (.ref f18))) (l18 : K.lookup f18 = some ⟨oc18, od18, .func (PySem.W.fnOf "_law_spots" "_law_spots" (defArgs s__law_spots) (defBody s__law_spots) (defScope s__law_spots) .none kV18 dc18 pm18 an18 cd18 ct18), sl18⟩) (c18 : PySem.W.codeIn K cd18 "_law_spots" = true) (k18 : PySem.W.keepIn K (.ref f18) = true)
    (a19 : PySem.W.nsIn K mainGlobals "_law_text" = some (some (.ref f19))) (l19 : K.lookup f19 = some ⟨oc19, od19, .func (PySem.W.fnOf "_law_text" "_law_text" (defArgs s__law_text) (defBody s__law_text) (defScope s__law_text) .none kV19 dc19 pm19 an19 cd19 ct19), sl19⟩) (c19 : PySem.W.codeIn K cd19 "_law_text" = true) (k19 : PySem.W.keepIn K (.ref f19) = true)
    (a20 : PySem.W.nsIn K mainGlobals "_law_lanes" = some (some (.ref f20))) (l20 : K.lookup f20 = some ⟨oc20, od20, .func (PySem.W.fnOf "_law_lanes" "_law_lanes" (defArgs s__law_lanes) (defBody s__law_lanes) (defScope s__law_lanes) .none kV20 dc20 pm20 an20 cd20 ct20), sl20⟩) (c20 : PySem.W.codeIn K cd20 "_law_lanes" = true) (k20 : PySem.W.keepIn K (.ref f20) = true)
    (a21 : PySem.W.nsIn K mainGlobals "_law_apart" = some (some (.ref f21))) (l21 : K.lookup f21 = some ⟨oc21, od21, .func (PySem.W.fnOf "_law_apart" "_law_apart" (defArgs s__law_apart) (defBody s__law_apart) (defScope s__law_apart) .none kV21 dc21 pm21 an21 cd21 ct21), sl21⟩) (c21 : PySem.W.codeIn K cd21 "_law_apart" = true) (k21 : PySem.W.keepIn K (.ref f21) = true)
    (a22 : PySem.W.nsIn K mainGlobals "_law_kinds" = some (some (.ref f22))) (l22 : K.lookup f22 = some ⟨oc22, od22, .func (PySem.W.fnOf "_law_kinds" "_law_kinds" (defArgs s__law_kinds) (defBody s__law_kinds) (defScope s__law_kinds) .none kV22 dc22 pm22 an22 cd22 ct22), sl22⟩) (c22 : PySem.W.codeIn K cd22 "_law_kinds" = true) (k22 : PySem.W.keepIn K (.ref f22) = true)
    (a23 : PySem.W.nsIn K mainGlobals "law" = some (some (.ref f23))) (l23 : K.lookup f23 = some ⟨oc23, od23, .func (PySem.W.fnOf "law" "law" (defArgs s_law) (defBody s_law) (defScope s_law) .none kV23 dc23 pm23 an23 cd23 ct23), sl23⟩) (c23 : PySem.W.codeIn K cd23 "law" = true) (k23 : PySem.W.keepIn K (.ref f23) = true)
    {CHeapError : Addr} (xa_HeapError : PySem.W.nsIn K mainGlobals "HeapError" = some (some (.ref CHeapError))) (xq_HeapError : PySem.W.excIn K CHeapError [.type "ValueError", .type "Exception", .type "BaseException", .type "object"] "ValueError.__new__" = true) (xk_HeapError : PySem.W.keepIn K (.ref CHeapError) = true) (xb_HeapError : PySem.W.subIn K (.ref CHeapError) (.type "BaseException") = some true) (xt_HeapError : PySem.W.typeIn K (.ref CHeapError) = some (.type "type"))
    {CNoRoom : Addr} (xa_NoRoom : PySem.W.nsIn K mainGlobals "NoRoom" = some (some (.ref CNoRoom))) (xq_NoRoom : PySem.W.excIn K CNoRoom [.type "ValueError", .type "Exception", .type "BaseException", .type "object"] "ValueError.__new__" = true) (xk_NoRoom : PySem.W.keepIn K (.ref CNoRoom) = true) (xb_NoRoom : PySem.W.subIn K (.ref CNoRoom) (.type "BaseException") = some true) (xt_NoRoom : PySem.W.typeIn K (.ref CNoRoom) = some (.type "type"))
    {CNoTable : Addr} (xa_NoTable : PySem.W.nsIn K mainGlobals "NoTable" = some (some (.ref CNoTable))) (xq_NoTable : PySem.W.excIn K CNoTable [.type "ValueError", .type "Exception", .type "BaseException", .type "object"] "ValueError.__new__" = true) (xk_NoTable : PySem.W.keepIn K (.ref CNoTable) = true) (xb_NoTable : PySem.W.subIn K (.ref CNoTable) (.type "BaseException") = some true) (xt_NoTable : PySem.W.typeIn K (.ref CNoTable) = some (.type "type"))
    {CNoPlace : Addr} (xa_NoPlace : PySem.W.nsIn K mainGlobals "NoPlace" = some (some (.ref CNoPlace))) (xq_NoPlace : PySem.W.excIn K CNoPlace [.type "ValueError", .type "Exception", .type "BaseException", .type "object"] "ValueError.__new__" = true) (xk_NoPlace : PySem.W.keepIn K (.ref CNoPlace) = true) (xb_NoPlace : PySem.W.subIn K (.ref CNoPlace) (.type "BaseException") = some true) (xt_NoPlace : PySem.W.typeIn K (.ref CNoPlace) = some (.type "type"))
    {CNoLanes : Addr} (xa_NoLanes : PySem.W.nsIn K mainGlobals "NoLanes" = some (some (.ref CNoLanes))) (xq_NoLanes : PySem.W.excIn K CNoLanes [.type "ValueError", .type "Exception", .type "BaseException", .type "object"] "ValueError.__new__" = true) (xk_NoLanes : PySem.W.keepIn K (.ref CNoLanes) = true) (xb_NoLanes : PySem.W.subIn K (.ref CNoLanes) (.type "BaseException") = some true) (xt_NoLanes : PySem.W.typeIn K (.ref CNoLanes) = some (.type "type"))
    {CNoFloor : Addr} (xa_NoFloor : PySem.W.nsIn K mainGlobals "NoFloor" = some (some (.ref CNoFloor))) (xq_NoFloor : PySem.W.excIn K CNoFloor [.type "ValueError", .type "Exception", .type "BaseException", .type "object"] "ValueError.__new__" = true) (xk_NoFloor : PySem.W.keepIn K (.ref CNoFloor) = true) (xb_NoFloor : PySem.W.subIn K (.ref CNoFloor) (.type "BaseException") = some true) (xt_NoFloor : PySem.W.typeIn K (.ref CNoFloor) = some (.type "type"))
    (x1_NoLanes : PySem.W.findIn K (.ref CNoLanes) "__getattribute__" = some (some (.builtin "BaseException.__getattribute__"))) (x2_NoLanes : PySem.W.findIn K (.ref CNoLanes) "__getattr__" = some none) (x3_NoLanes : PySem.W.hasDictIn K CNoLanes = true) (x4_NoLanes : PySem.W.findIn K (.ref CNoLanes) "__class__" = some (some (.builtin "object.__class__"))) (x5_NoLanes : PySem.W.specialIn K (.builtin "object.__class__") "__get__" = some (some (.builtin "getset_descriptor.__get__"))) (x6_NoLanes : PySem.W.takesIn K (.builtin "object.__class__") = some true) (x7_NoLanes : PySem.W.mroIn K CNoLanes (.type "object") = some true) (x8_NoLanes : PySem.W.kitOne K (.ref CNoLanes) (.type "ValueError") = some true)
    (xn_NoLanes_NoFloor : PySem.W.kitOne K (.ref CNoLanes) (.ref CNoFloor) = some false)
    (xn_NoLanes_NoLanes : PySem.W.kitOne K (.ref CNoLanes) (.ref CNoLanes) = some true)
    (xn_NoLanes_NoPlace : PySem.W.kitOne K (.ref CNoLanes) (.ref CNoPlace) = some false)
    (xn_NoLanes_NoRoom : PySem.W.kitOne K (.ref CNoLanes) (.ref CNoRoom) = some false)
    (xn_NoLanes_NoTable : PySem.W.kitOne K (.ref CNoLanes) (.ref CNoTable) = some false)
    (xm_NoLanes_HeapError : PySem.W.exmOne K (.ref CNoLanes) (.ref CHeapError) = some true)
    {TMOST : Addr} {odMOST : Option Addr} {nMOST : Nat} {slMOST : Array (Option Value)} {kMOST0 kMOST1 kMOST2 : Tok} (ca_MOST : PySem.W.nsIn K mainGlobals "MOST" = some (some (.ref TMOST))) (cl_MOST : K.lookup TMOST = some ⟨.type "tuple", odMOST, .seq #[.int 6 kMOST0, .int 20 kMOST1, .int 20 kMOST2] nMOST, slMOST⟩)
    (z_ValueError : PySem.W.nsIn K mainGlobals "ValueError" = some none)
    (z_all : PySem.W.nsIn K mainGlobals "all" = some none)
    (z_bool : PySem.W.nsIn K mainGlobals "bool" = some none)
    (z_int : PySem.W.nsIn K mainGlobals "int" = some none)
    (z_isinstance : PySem.W.nsIn K mainGlobals "isinstance" = some none)
    (z_len : PySem.W.nsIn K mainGlobals "len" = some none)
    (z_list : PySem.W.nsIn K mainGlobals "list" = some none)
    (z_max : PySem.W.nsIn K mainGlobals "max" = some none)
    (z_min : PySem.W.nsIn K mainGlobals "min" = some none)
    (z_range : PySem.W.nsIn K mainGlobals "range" = some none)
    (z_str : PySem.W.nsIn K mainGlobals "str" = some none)
    (z_tuple : PySem.W.nsIn K mainGlobals "tuple" = some none)
    (z_zip : PySem.W.nsIn K mainGlobals "zip" = some none)
    : ∃ (A : Ad) (fd : FuncData), Txt K mg A ∧ A.a_law = fa ∧ A.d_law = fd ∧ (∀ (s : Shared) (v : Value), BindsTo s fd ⟨[v], []⟩ [("_law_script", v)]) := by
  have e := hfa.symm.trans (PySem.W.mg_of X G a23)
  cases e
  have F0 := fun_mk (st := s_is_whole) l0 c0 k0
  have b0 := F0.binds (ps := ["value"]) fun _ _ _ _ _ _ us hl => match us, hl with | [_], _ => rfl
  have F1 := fun_mk (st := s_is_room) l1 c1 k1
  have b1 := F1.binds (ps := ["room"]) fun _ _ _ _ _ _ us hl => match us, hl with | [_], _ => rfl
  have F2 := fun_mk (st := s_is_row) l2 c2 k2
  have b2 := F2.binds (ps := ["row", "columns", "height"]) fun _ _ _ _ _ _ us hl => match us, hl with | [_, _, _], _ => rfl
  have F3 := fun_mk (st := s_never_rises) l3 c3 k3
  have b3 := F3.binds (ps := ["numbers"]) fun _ _ _ _ _ _ us hl => match us, hl with | [_], _ => rfl
  have F4 := fun_mk (st := s_is_table) l4 c4 k4
  have b4 := F4.binds (ps := ["room", "table"]) fun _ _ _ _ _ _ us hl => match us, hl with | [_, _], _ => rfl
  have F5 := fun_mk (st := s_is_lane) l5 c5 k5
  have b5 := F5.binds (ps := ["lane", "rights", "downs"]) fun _ _ _ _ _ _ us hl => match us, hl with | [_, _, _], _ => rfl
  have F6 := fun_mk (st := s_are_lanes) l6 c6 k6
  have b6 := F6.binds (ps := ["room", "ends", "lanes"]) fun _ _ _ _ _ _ us hl => match us, hl with | [_, _, _], _ => rfl
  have F7 := fun_mk (st := s_check_room) l7 c7 k7
  have b7 := F7.binds (ps := ["room"]) fun _ _ _ _ _ _ us hl => match us, hl with | [_], _ => rfl
  have F8 := fun_mk (st := s_table_of) l8 c8 k8
  have b8 := F8.binds (ps := ["room", "lanes"]) fun _ _ _ _ _ _ us hl => match us, hl with | [_, _], _ => rfl
  have F9 := fun_mk (st := s_row_of) l9 c9 k9
  have b9 := F9.binds (ps := ["lane", "height"]) fun _ _ _ _ _ _ us hl => match us, hl with | [_, _], _ => rfl
  have F10 := fun_mk (st := s__law_of) l10 c10 k10
  have b10 := F10.binds (ps := ["_law_script", "_law_k"]) fun _ _ _ _ _ _ us hl => match us, hl with | [_, _], _ => rfl
  have F11 := fun_mk (st := s__law_drawn) l11 c11 k11
  have b11 := F11.binds (ps := ["_law_script", "_law_k"]) fun _ _ _ _ _ _ us hl => match us, hl with | [_, _], _ => rfl
  have F12 := fun_mk (st := s__law_is_number) l12 c12 k12
  have b12 := F12.binds (ps := ["_law_found"]) fun _ _ _ _ _ _ us hl => match us, hl with | [_], _ => rfl
  have F13 := fun_mk (st := s__law_room) l13 c13 k13
  have b13 := F13.binds (ps := ["_law_cell"]) fun _ _ _ _ _ _ us hl => match us, hl with | [_], _ => rfl
  have F14 := fun_mk (st := s__law_most) l14 c14 k14
  have b14 := F14.binds (ps := ["_law_table_here", "_law_room_here", "_law_i", "_law_j"]) fun _ _ _ _ _ _ us hl => match us, hl with | [_, _, _, _], _ => rfl
  have F15 := fun_mk (st := s__law_table) l15 c15 k15
  have b15 := F15.binds (ps := ["_law_script", "_law_start", "_law_room_here"]) fun _ _ _ _ _ _ us hl => match us, hl with | [_, _, _], _ => rfl
  have F16 := fun_mk (st := s__law_good) l16 c16 k16
  have b16 := F16.binds (ps := ["_law_table_here", "_law_room_here"]) fun _ _ _ _ _ _ us hl => match us, hl with | [_, _], _ => rfl
  have F17 := fun_mk (st := s__law_lane) l17 c17 k17
  have b17 := F17.binds (ps := ["_law_row", "_law_height"]) fun _ _ _ _ _ _ us hl => match us, hl with | [_, _], _ => rfl
  have F18 := fun_mk (st := s__law_spots) l18 c18 k18
  have b18 := F18.binds (ps := ["_law_lane_here", "_law_s", "_law_height"]) fun _ _ _ _ _ _ us hl => match us, hl with | [_, _, _], _ => rfl
  have F19 := fun_mk (st := s__law_text) l19 c19 k19
  have b19 := F19.binds (ps := ["_law_cells", "_law_right", "_law_down"]) fun _ _ _ _ _ _ us hl => match us, hl with | [_, _, _], _ => rfl
  have F20 := fun_mk (st := s__law_lanes) l20 c20 k20
  have b20 := F20.binds (ps := ["_law_script", "_law_room_here"]) fun _ _ _ _ _ _ us hl => match us, hl with | [_, _], _ => rfl
  have F21 := fun_mk (st := s__law_apart) l21 c21 k21
  have b21 := F21.binds (ps := ["_law_lanes_here", "_law_room_here"]) fun _ _ _ _ _ _ us hl => match us, hl with | [_, _], _ => rfl
  have F22 := fun_mk (st := s__law_kinds) l22 c22 k22
  have b22 := F22.binds (ps := ["_law_e"]) fun _ _ _ _ _ _ us hl => match us, hl with | [_], _ => rfl
  have F23 := fun_mk (st := s_law) l23 c23 k23
  have b23 := F23.binds (ps := ["_law_script"]) fun _ _ _ _ _ _ us hl => match us, hl with | [_], _ => rfl
  refine ⟨{ a_is_whole := f0, d_is_whole := _, a_is_room := f1, d_is_room := _, a_is_row := f2, d_is_row := _, a_never_rises := f3, d_never_rises := _, a_is_table := f4, d_is_table := _, a_is_lane := f5, d_is_lane := _, a_are_lanes := f6, d_are_lanes := _, a_check_room := f7, d_check_room := _, a_table_of := f8, d_table_of := _, a_row_of := f9, d_row_of := _, a__law_of := f10, d__law_of := _, a__law_drawn := f11, d__law_drawn := _, a__law_is_number := f12, d__law_is_number := _, a__law_room := f13, d__law_room := _, a__law_most := f14, d__law_most := _, a__law_table := f15, d__law_table := _, a__law_good := f16, d__law_good := _, a__law_lane := f17, d__law_lane := _, a__law_spots := f18, d__law_spots := _, a__law_text := f19, d__law_text := _, a__law_lanes := f20, d__law_lanes := _, a__law_apart := f21, d__law_apart := _, a__law_kinds := f22, d__law_kinds := _, a_law := fa, d_law := _, c_HeapError := CHeapError, c_NoRoom := CNoRoom, c_NoTable := CNoTable, c_NoPlace := CNoPlace, c_NoLanes := CNoLanes, c_NoFloor := CNoFloor, t_MOST := TMOST }, _, { is_whole := ⟨F0, b0, PySem.W.mg_of X G a0⟩, is_room := ⟨F1, b1, PySem.W.mg_of X G a1⟩, is_row := ⟨F2, b2, PySem.W.mg_of X G a2⟩, never_rises := ⟨F3, b3, PySem.W.mg_of X G a3⟩, is_table := ⟨F4, b4, PySem.W.mg_of X G a4⟩, is_lane := ⟨F5, b5, PySem.W.mg_of X G a5⟩, are_lanes := ⟨F6, b6, PySem.W.mg_of X G a6⟩, check_room := ⟨F7, b7, PySem.W.mg_of X G a7⟩, table_of := ⟨F8, b8, PySem.W.mg_of X G a8⟩, row_of := ⟨F9, b9, PySem.W.mg_of X G a9⟩, _law_of := ⟨F10, b10, PySem.W.mg_of X G a10⟩, _law_drawn := ⟨F11, b11, PySem.W.mg_of X G a11⟩, _law_is_number := ⟨F12, b12, PySem.W.mg_of X G a12⟩, _law_room := ⟨F13, b13, PySem.W.mg_of X G a13⟩, _law_most := ⟨F14, b14, PySem.W.mg_of X G a14⟩, _law_table := ⟨F15, b15, PySem.W.mg_of X G a15⟩, _law_good := ⟨F16, b16, PySem.W.mg_of X G a16⟩, _law_lane := ⟨F17, b17, PySem.W.mg_of X G a17⟩, _law_spots := ⟨F18, b18, PySem.W.mg_of X G a18⟩, _law_text := ⟨F19, b19, PySem.W.mg_of X G a19⟩, _law_lanes := ⟨F20, b20, PySem.W.mg_of X G a20⟩, _law_apart := ⟨F21, b21, PySem.W.mg_of X G a21⟩, _law_kinds := ⟨F22, b22, PySem.W.mg_of X G a22⟩, law := ⟨F23, b23, PySem.W.mg_of X G a23⟩, z_ValueError := PySem.W.mg_none_of X G z_ValueError, z_all := PySem.W.mg_none_of X G z_all, z_bool := PySem.W.mg_none_of X G z_bool, z_int := PySem.W.mg_none_of X G z_int, z_isinstance := PySem.W.mg_none_of X G z_isinstance, z_len := PySem.W.mg_none_of X G z_len, z_list := PySem.W.mg_none_of X G z_list, z_max := PySem.W.mg_none_of X G z_max, z_min := PySem.W.mg_none_of X G z_min, z_range := PySem.W.mg_none_of X G z_range, z_str := PySem.W.mg_none_of X G z_str, z_tuple := PySem.W.mg_none_of X G z_tuple, z_zip := PySem.W.mg_none_of X G z_zip, e_HeapError := ⟨PySem.W.mg_of X G xa_HeapError, xq_HeapError, xk_HeapError, xb_HeapError, xt_HeapError⟩, e_NoRoom := ⟨PySem.W.mg_of X G xa_NoRoom, xq_NoRoom, xk_NoRoom, xb_NoRoom, xt_NoRoom⟩, e_NoTable := ⟨PySem.W.mg_of X G xa_NoTable, xq_NoTable, xk_NoTable, xb_NoTable, xt_NoTable⟩, e_NoPlace := ⟨PySem.W.mg_of X G xa_NoPlace, xq_NoPlace, xk_NoPlace, xb_NoPlace, xt_NoPlace⟩, e_NoLanes := ⟨PySem.W.mg_of X G xa_NoLanes, xq_NoLanes, xk_NoLanes, xb_NoLanes, xt_NoLanes⟩, e_NoFloor := ⟨PySem.W.mg_of X G xa_NoFloor, xq_NoFloor, xk_NoFloor, xb_NoFloor, xt_NoFloor⟩, xc_NoLanes := ⟨x1_NoLanes, x2_NoLanes, xb_NoLanes, x3_NoLanes, x4_NoLanes, x5_NoLanes, x6_NoLanes, x7_NoLanes⟩, xk_NoLanes_ValueError := x8_NoLanes, xk_NoLanes_NoFloor := xn_NoLanes_NoFloor, xk_NoLanes_NoLanes := xn_NoLanes_NoLanes, xk_NoLanes_NoPlace := xn_NoLanes_NoPlace, xk_NoLanes_NoRoom := xn_NoLanes_NoRoom, xk_NoLanes_NoTable := xn_NoLanes_NoTable, xm_NoLanes_HeapError := xm_NoLanes_HeapError, g_MOST := PySem.W.mg_of X G ca_MOST, s_MOST := fun H => .inr ⟨_, _, _, cl_MOST, rfl, rfl, by show 3 ≤ sizeLine; decide, .cons ⟨_, rfl⟩ (.cons ⟨_, rfl⟩ (.cons ⟨_, rfl⟩ .nil))⟩ }, rfl, rfl, fun s v => .of_eq rfl⟩
--END
end
end My

set_option Elab.async false
set_option linter.all false
set_option maxRecDepth 100000
set_option maxHeartbeats 4000000
namespace My
open PySem PySem.Spec PyProof.Rows L2 DL
variable {A : Ad}
local macro_rules | `(tactic| walk_at "ev") => `(tactic| simp (config := { decide := true }) [runF, env0, outF, mRet, mRetV, mAndV, mOrV, mTst, mIsi, mVar, mNotV, R.data, R.tree, R.slot, R.fixed, D.ty, isTy, imm, immL, mSeq, mIfS, mOr, mNot, mAnd, mOp, mCB, gLen, gMin, gMax, mCons, mNil, mC, fNe, fEq, fSub, fDiv, fMod, fAdd, fMul, fLt, fLe, fGt, fGe, flat2, gI, gIC, fIx, mNext, mSet, mIf, mCall, retR, mNeg, mCh, mLst, mTup, trees, S.data, S.dataL])
theorem is_whole_int (i : Int) : g_is_whole A [.int i] = some (.ret (.d (.bl true))) := by
  simp only [g_is_whole, m_is_whole]
  walk_at "ev"
theorem is_room_ok {r c h : Int} (h1 : 1 ≤ r ∧ r ≤ 6) (h2 : 1 ≤ c ∧ c ≤ 20) (h3 : 1 ≤ h ∧ h ≤ 20) : g_is_room A [.tup [.int r, .int c, .int h]] = some (.ret (.d (.bl true))) := by
  simp only [g_is_room, m_is_room]
  walk_at "ev"
  simp [mLc, mZip, pairs, gather, lcTurn, mgTup, setE, itR, isDead, mYes, is_whole_int, mCh, mVar, mC, mCons, mNil, R.data, R.fixed, R.slot, mAndV, mTst, mCall, retR, nrm, lcRes, noVw, trees, R.tree, imm, gAll, S.data, S.dataL, bls?, h1, h2, h3]
theorem all_true_d {ds : List S} (h : ∀ d ∈ ds, d = .d (.bl true)) : gAll [.lst (S.dataL ds)] = some (.sh (.bl true)) := by
  have e : S.dataL ds = (ds.map fun _ => true).map D.bl := by
    rw [S.dataL_map, List.map_map]
    apply List.map_congr_left
    intro d m; rw [h d m]; rfl
  unfold gAll
  simp only [e, bls?_map, Option.map_some]
  congr 2
  rw [List.all_eq_true.mpr]
  intro x m
  obtain ⟨_, _, rfl⟩ := List.mem_map.mp m
  rfl
theorem is_row_ok {ns : List Int} {c h : Int} (hl : (ns.length : Int) = c) (hc : ns.length ≤ 100000) (hn : ∀ n ∈ ns, 0 ≤ n ∧ n ≤ h) : g_is_row A [dRow ns, .int c, .int h] = some (.ret (.d (.bl true))) := by
  simp only [g_is_row, m_is_row, dRow]
  walk_at "ev"
  simp only [hl]
  walk_at "ev"
  rw [mLc_eval (s := true) (items := ns.map .int) (fun _ => true) (fun _ => .sh (.bl true)) (fun _ => .d (.bl true))]
  · simp only [List.map_cons, List.map_nil, R.data, S.data]
    rw [all_true_d]
    · simp [R.tree, imm]
    · intro d m
      obtain ⟨_, _, rfl⟩ := List.mem_map.mp m
      rfl
  · simp [mIL, mVar, R.data, R.fixed]
  · simpa using hc
  · simp [isDead]
  · intro d m
    obtain ⟨n, hm, rfl⟩ := List.mem_map.mp m
    have := hn n hm
    refine ⟨_, rfl, rfl, fun _ => ⟨?_, rfl⟩⟩
    simp [mgName, itR, mAndV, mTst, mCall, mCons, mNil, mVar, R.slot, R.data, is_whole_int, retR, mCh, mC, this]
/-- no number rises -/
def nr (ns : List Int) : Prop := ∀ (i : Nat) (x y : Int), ns[i]? = some x → ns[i + 1]? = some y → y ≤ x
theorem pairs_mem {ds es : List D} {d : D} (h : d ∈ pairs ds es) : ∃ (i : Nat) (x y : D), ds[i]? = some x ∧ es[i]? = some y ∧ d = .tup [x, y] := by
  obtain ⟨i, hi⟩ := List.getElem?_of_mem h
  obtain ⟨x, y, h1, h2, h3⟩ := pairs_at hi
  exact ⟨i, x, y, h1, h2, h3⟩
theorem cut1 {α : Type} (xs : List α) : cut xs (some 1) none = xs.drop 1 := by
  unfold cut
  rw [show HT.sIx xs.length 0 (some 1) = min 1 xs.length from HT.sIx_nat xs.length 0 1, HT.sIx_none]
  cases xs with
  | nil => rfl
  | cons x r =>
    rw [show min 1 (x :: r).length = 1 by rw [List.length_cons]; omega]
    show (List.take ((x :: r).length - 1) r) = r
    rw [List.length_cons, Nat.add_sub_cancel]
    exact List.take_length
theorem nr_turn {ns : List Int} (h : nr ns) {d : D} (m : d ∈ pairs (ns.map .int) ((ns.drop 1).map .int)) : ∃ x y : Int, d = .tup [.int x, .int y] ∧ y ≤ x := by
  obtain ⟨i, x, y, h1, h2, rfl⟩ := pairs_mem m
  rw [List.getElem?_map, Option.map_eq_some_iff] at h1 h2
  obtain ⟨a, e1, rfl⟩ := h1
  obtain ⟨b, e2, rfl⟩ := h2
  rw [List.getElem?_drop, Nat.add_comm] at e2
  exact ⟨a, b, rfl, h i a b e1 e2⟩
theorem pairs_len {ds es : List D} : (pairs ds es).length ≤ ds.length := by unfold pairs; simp; omega
theorem never_rises_lst {ns : List Int} (hc : ns.length ≤ 100000) (h : nr ns) : g_never_rises A [dRow ns] = some (.ret (.d (.bl true))) := by
  simp only [g_never_rises, m_never_rises, dRow]
  walk_at "ev"
  rw [mLc_eval (s := true) (items := pairs (ns.map .int) ((ns.drop 1).map .int)) (fun _ => true) (fun _ => .sh (.bl true)) (fun _ => .d (.bl true))]
  · simp only [List.map_cons, List.map_nil, R.data, S.data]
    rw [all_true_d]
    · simp [R.tree, imm]
    · intro d m
      obtain ⟨_, _, rfl⟩ := List.mem_map.mp m
      rfl
  · simp [mZip, mCons, mNil, mVar, mSl, mPart, mNoPart, mC, R.data, fSl, newL]
    have : cut (ns.map D.int) (some 1) none = (ns.drop 1).map .int := by rw [cut1, List.map_drop]
    rw [this, if_pos (imm_ints _)]
    simp [R.data, S.data, dataL_d, R.fixed]
    have e2 : (List.map (S.d ∘ D.int) ns).tail = ((ns.drop 1).map D.int).map S.d := by cases ns <;> simp [Function.comp_def]
    rw [e2, dataL_d]
    cases ns <;> simp
  · exact Nat.le_trans pairs_len (by simpa using hc)
  · simp [isDead]
  · intro d m
    obtain ⟨x, y, rfl, hxy⟩ := nr_turn h m
    refine ⟨_, rfl, rfl, fun _ => ⟨?_, rfl⟩⟩
    simp [setE, itR, mOp, mVar, R.slot, R.data, fLe, flat2, gI, hxy]
theorem never_rises_tup {ns : List Int} (hc : ns.length ≤ 100000) (h0 : 0 < ns.length) (h : nr ns) : g_never_rises A [.tup (ns.map .int)] = some (.ret (.d (.bl true))) := by
  simp only [g_never_rises, m_never_rises]
  walk_at "ev"
  rw [mLc_eval (s := true) (items := pairs (ns.map .int) ((ns.drop 1).map .int)) (fun _ => true) (fun _ => .sh (.bl true)) (fun _ => .d (.bl true))]
  · simp only [List.map_cons, List.map_nil, R.data, S.data]
    rw [all_true_d]
    · simp [R.tree, imm]
    · intro d m
      obtain ⟨_, _, rfl⟩ := List.mem_map.mp m
      rfl
  · have e1 : fSl (.tup (ns.map D.int)) (some 1) none = some (.sh (.tup ((ns.drop 1).map .int))) := by
      show (if HT.sIx (ns.map D.int).length 0 (some 1) = 0 ∧ HT.sIx (ns.map D.int).length (ns.map D.int).length none = (ns.map D.int).length then none else (if immL (cut (ns.map D.int) (some 1) none) = true then some (R.sh (.tup (cut (ns.map D.int) (some 1) none))) else none)) = _
      rw [if_neg, cut1, ← List.map_drop, if_pos (imm_ints _)]
      rintro ⟨z, _⟩
      rw [show HT.sIx (ns.map D.int).length 0 (some 1) = min 1 (ns.map D.int).length from HT.sIx_nat _ 0 1, List.length_map] at z
      omega
    simp [mZip, mCons, mNil, mVar, mSl, mPart, mNoPart, mC, R.data, e1, R.fixed]
  · exact Nat.le_trans pairs_len (by simpa using hc)
  · simp [isDead]
  · intro d m
    obtain ⟨x, y, rfl, hxy⟩ := nr_turn h m
    refine ⟨_, rfl, rfl, fun _ => ⟨?_, rfl⟩⟩
    simp [setE, itR, mOp, mVar, R.slot, R.data, fLe, flat2, gI, hxy]
def at2 (t : List (List Int)) (i j : Nat) : Int := (t.getD i []).getD j 0
/-- a table of the room -/
structure Tab (r c h : Nat) (t : List (List Int)) : Prop where
  len : t.length = r
  row : ∀ x ∈ t, x.length = c
  lo : ∀ x ∈ t, ∀ n ∈ x, 0 ≤ n ∧ n ≤ (h : Int)
  nrr : ∀ x ∈ t, nr x
  nrc : ∀ j, j < c → nr (t.map fun x => x.getD j 0)
structure Rm (r c h : Nat) : Prop where
  r : 1 ≤ r ∧ r ≤ 6
  c : 1 ≤ c ∧ c ≤ 20
  h : 1 ≤ h ∧ h ≤ 20
def dRoom (r c h : Nat) : D := .tup [.int r, .int c, .int h]
theorem cols_mem {t : List (List Int)} {c : Nat} (hc : ∀ x ∈ t, x.length = c) {d : D} (m : d ∈ colsD (t.map fun x => x.map D.int) c) : ∃ j, j < c ∧ d = .tup ((t.map fun x => x.getD j 0).map .int) := by
  unfold colsD at m
  obtain ⟨j, hj, rfl⟩ := List.mem_map.mp m
  rw [List.mem_range] at hj
  refine ⟨j, hj, ?_⟩
  congr 1
  rw [List.map_map, List.map_map]
  apply List.map_congr_left
  intro x hx
  have hl : j < x.length := by rw [hc x hx]; exact hj
  simp [hl]
theorem is_table_ok {r c h : Nat} {t : List (List Int)} (M : Rm r c h) (T : Tab r c h t) : g_is_table A [dRoom r c h, dTab t] = some (.ret (.d (.bl true))) := by
  have hr := M.r; have hc := M.c; have hh := M.h
  have c1 : ∀ x ∈ t, g_is_row A [dRow x, .int c, .int h] = some (.ret (.d (.bl true))) := fun x m => is_row_ok (by rw [T.row x m]) (by rw [T.row x m]; omega) (T.lo x m)
  have c2 : ∀ x ∈ t, g_never_rises A [dRow x] = some (.ret (.d (.bl true))) := fun x m => never_rises_lst (by rw [T.row x m]; omega) (T.nrr x m)
  simp only [g_is_table, m_is_table, dRoom, dTab]
  have hlen := T.len
  have ev1 : ∀ ρ : DL.Env, ρ[1]? = some (.sh (.lst (t.map dRow))) → mIL (mVar 1) ρ = some (true, t.map dRow) := fun ρ e => by simp [mIL, mVar, e, R.data, R.fixed]
  simp (config := { decide := true }) [runF, env0, outF, mSeq, mSetT, mVar, mgTup, setE, itR, R.fixed, R.data, R.slot, mIfS, mOr, mNot, mTst, mIsi, D.ty, isTy, mOp, fNe, flat2, mCB, gLen, mCons, mNil, hlen, mNext]
  have e1 : mLc (mIL (mVar 1)) (mgName 5) mYes (mCall 3 (g_is_row A) (mCons (mVar 5) (mCons (mVar 3) (mCons (mVar 4) mNil)))) [5] [.sh (.tup [.int r, .int c, .int h]), .sh (.lst (t.map dRow)), .sh (.int r), .sh (.int c), .sh (.int h), .dead, .dead] = some (.tr (.own (((t.map dRow).filter fun _ => true).map fun _ => .d (.bl true)))) := by
    refine mLc_eval (s := true) (items := t.map dRow) (fun _ => true) (fun _ => .sh (.bl true)) (fun _ => .d (.bl true)) (ev1 _ rfl) (by simp; omega) rfl fun d m => ?_
    obtain ⟨x, hx, rfl⟩ := List.mem_map.mp m
    refine ⟨_, rfl, rfl, fun _ => ⟨?_, rfl⟩⟩
    simp [mgName, itR, setE, mCall, mCons, mNil, mVar, R.slot, R.data, c1 x hx, retR]
  have e2 : mLc (mIL (mVar 1)) (mgName 5) mYes (mCall 1 (g_never_rises A) (mCons (mVar 5) mNil)) [5] [.sh (.tup [.int r, .int c, .int h]), .sh (.lst (t.map dRow)), .sh (.int r), .sh (.int c), .sh (.int h), .dead, .dead] = some (.tr (.own (((t.map dRow).filter fun _ => true).map fun _ => .d (.bl true)))) := by
    refine mLc_eval (s := true) (items := t.map dRow) (fun _ => true) (fun _ => .sh (.bl true)) (fun _ => .d (.bl true)) (ev1 _ rfl) (by simp; omega) rfl fun d m => ?_
    obtain ⟨x, hx, rfl⟩ := List.mem_map.mp m
    refine ⟨_, rfl, rfl, fun _ => ⟨?_, rfl⟩⟩
    simp [mgName, itR, setE, mCall, mCons, mNil, mVar, R.slot, R.data, c2 x hx, retR]
  have e3 : mLc (mZipN (mVar 1)) (mgName 6) mYes (mCall 1 (g_never_rises A) (mCons (mVar 6) mNil)) [6] [.sh (.tup [.int r, .int c, .int h]), .sh (.lst (t.map dRow)), .sh (.int r), .sh (.int c), .sh (.int h), .dead, .dead] = some (.tr (.own (((colsD (t.map fun x => x.map D.int) c).filter fun _ => true).map fun _ => .d (.bl true)))) := by
    refine mLc_eval (s := true) (items := colsD (t.map fun x => x.map D.int) c) (fun _ => true) (fun _ => .sh (.bl true)) (fun _ => .d (.bl true)) ?_ (by unfold colsD; simp; omega) ?hd fun d m => ?_
    case hd => rfl
    · have hrows : rows? (t.map dRow) = some (t.map fun x => x.map D.int) := by
        have : t.map dRow = (t.map fun x => x.map D.int).map D.lst := by rw [List.map_map]; rfl
        rw [this, rows?_map]
      cases t with
      | nil => simp at hlen; omega
      | cons x0 xs =>
        have hx0 := T.row x0 List.mem_cons_self
        have hv : mVar 1 [.sh (.tup [.int r, .int c, .int h]), .sh (.lst ((x0 :: xs).map dRow)), .sh (.int r), .sh (.int c), .sh (.int h), .dead, .dead] = some (.sh (.lst ((x0 :: xs).map dRow))) := rfl
        unfold mZipN
        rw [hv]
        simp only [R.data, hrows]
        rw [List.map_cons]
        simp only []
        rw [if_pos]
        · rw [List.length_map, hx0]; rfl
        · refine ⟨by rw [List.length_map]; simp at hlen; omega, List.all_eq_true.mpr fun y hy => ?_⟩
          obtain ⟨z, hz, rfl⟩ := List.mem_map.mp hy
          rw [List.length_map, List.length_map, hx0, T.row z (List.mem_cons_of_mem _ hz)]
          simp
    · obtain ⟨j, hj, rfl⟩ := cols_mem T.row m
      refine ⟨_, rfl, rfl, fun _ => ⟨?_, rfl⟩⟩
      have := never_rises_tup (A := A) (ns := t.map fun x => x.getD j 0) (by rw [List.length_map]; omega) (by rw [List.length_map]; omega) (T.nrc j hj)
      generalize D.tup ((t.map fun x => x.getD j 0).map .int) = q at this ⊢
      simp [mgName, itR, setE, mCall, mCons, mNil, mVar, R.slot, R.data, this, retR]
  have q1 : ∀ xs : List D, gAll [.lst (S.dataL ((xs.filter fun _ => true).map fun _ => .d (.bl true)))] = some (.sh (.bl true)) := fun xs => all_true_d fun d m => by
    obtain ⟨_, _, rfl⟩ := List.mem_map.mp m
    rfl
  simp only [e1, e2, e3, R.data, List.map_cons, List.map_nil, S.data, q1]
  simp [mRet, mCB, mC, mCons, mNil, e2, e3, R.data, q1, R.tree, imm, S.data]
end My

set_option Elab.async false
set_option linter.all false
set_option maxRecDepth 100000
set_option maxHeartbeats 4000000
namespace My
open PySem PySem.Spec PyProof.Rows L2 DL
variable {A : Ad}
local macro_rules | `(tactic| walk_at "ev") => `(tactic| simp (config := { decide := true }) [runF, env0, outF, mRet, mRetV, mAndV, mOrV, mTst, mIsi, mVar, mNotV, R.data, R.tree, R.slot, R.fixed, D.ty, isTy, imm, immL, mSeq, mIfS, mOr, mNot, mAnd, mOp, mCB, gLen, gMin, gMax, mCons, mNil, mC, fNe, fEq, fSub, fDiv, fMod, fAdd, fMul, fLt, fLe, fGt, fGe, flat2, gI, gIC, fIx, mNext, mSet, mIf, mCall, retR, mNeg, mCh, mLst, mTup, trees, S.data, S.dataL])
theorem cut01 (ns : List Int) : cut ns (some 0) (some 1) = ns.take 1 := by
  unfold cut
  rw [show HT.sIx ns.length 0 (some 0) = min 0 ns.length from HT.sIx_nat ns.length 0 0, show HT.sIx ns.length ns.length (some 1) = min 1 ns.length from HT.sIx_nat ns.length ns.length 1]
  cases ns with
  | nil => rfl
  | cons x r => simp
theorem data_ints (ns : List Int) : S.dataL (ns.map fun n => S.d (.int n)) = ns.map .int := by
  rw [show (ns.map fun n => S.d (.int n)) = (ns.map D.int).map S.d by rw [List.map_map]; rfl, dataL_d]
theorem fIx_sh {ds : List D} {i : Nat} {d : D} (e : ds[i]? = some d) : fIx (.sh (.lst ds)) (.sh (.int i)) = some (.sh d) := by simp [fIx, R.data, atI_nat e]
theorem fIx_vw {ds : List D} {i : Nat} {d : D} (e : ds[i]? = some d) : fIx (.vw (.lst ds)) (.sh (.int i)) = some (.vw d) := by simp [fIx, R.data, atI_nat e]
theorem fIx_tr {s : S} {ds : List D} {i : Nat} {d : D} (h : s.data = .lst ds) (e : ds[i]? = some d) : fIx (.tr s) (.sh (.int i)) = some (.vw d) := by simp [fIx, R.data, atI_nat e, h]
theorem mOp_eq {f : R → R → Option R} {ma mb : ME} {ρ : DL.Env} {x y z : R} (h1 : ma ρ = some x) (h2 : mb ρ = some y) (h3 : f x y = some z) : mOp f ma mb ρ = some z := by
  unfold mOp; rw [h1, h2]; exact h3
theorem law_of_ok (ns : List Int) : g__law_of A [.scr ns, .int 0] = some (.ret (.d (.int (ns.headD 0)))) := by
  have e1 : newL ((cut ns (some 0) (some 1)).map D.int) = .tr (.own ((ns.take 1).map fun n => .d (.int n))) := by
    rw [cut01]
    unfold newL
    rw [if_pos (imm_ints _), List.map_map]; rfl
  have e3 : fIx (newL (List.map D.int (List.take 1 ns) ++ [D.int 0])) (.sh (.int (0 : Nat))) = some (.vw (.int (ns.headD 0))) := by
    have e4 : List.map D.int (List.take 1 ns) ++ [D.int 0] = (List.take 1 ns ++ [0]).map D.int := by simp
    rw [e4]
    unfold newL
    rw [if_pos (imm_ints _), List.map_map, show (S.d ∘ D.int) = fun n => S.d (.int n) from rfl]
    refine fIx_tr (ds := (List.take 1 ns ++ [0]).map D.int) (congrArg D.lst (data_ints _)) ?_
    cases ns <;> rfl
  have e5 : fIx (newL (List.map D.int (List.take 1 ns) ++ [D.int 0])) (.sh (.int 0)) = some (.vw (.int (ns.headD 0))) := e3
  have e6 : mOp fAdd (mSl (mVar 0) (mPart (mVar 1)) (mPart (mOp fAdd (mVar 1) (mC (.int 1))))) (mLst (mCons (mC (.int 0)) mNil)) [.sh (.scr ns), .sh (.int 0)] = some (newL (List.map D.int (List.take 1 ns) ++ [D.int 0])) := by
    refine mOp_eq (x := .tr (.own ((ns.take 1).map fun n => .d (.int n)))) (y := .tr (.own [.d (.int 0)])) ?_ rfl ?_
    · simp only [mSl, mPart, mVar, mOp, mC, fAdd, flat2, gI, fSl, R.data, S.data, List.getElem?_cons_zero, List.getElem?_cons_succ, Int.zero_add, e1]
    · simp only [fAdd, R.data, S.data, data_ints, S.dataL]
      rw [if_pos (by simp; omega)]
  have e7 : mOp fIx (mOp fAdd (mSl (mVar 0) (mPart (mVar 1)) (mPart (mOp fAdd (mVar 1) (mC (.int 1))))) (mLst (mCons (mC (.int 0)) mNil))) (mC (.int 0)) [.sh (.scr ns), .sh (.int 0)] = some (.vw (.int (ns.headD 0))) := mOp_eq e6 rfl e5
  simp only [g__law_of, m__law_of]
  simp [runF, env0, outF, mRet, e7, R.tree, imm]
theorem fMod_ok {r q : R} {i j : Int} (h1 : r.data = .int i) (h2 : q.data = .int j) (h : 0 < j) : fMod r q = some (.sh (.int (i % j))) := by simp [fMod, flat2, h1, h2, gIC, gI, h]
theorem fDiv_ok {r q : R} {i j : Int} (h1 : r.data = .int i) (h2 : q.data = .int j) (h : CDiv i j) : fDiv r q = some (.sh (.int (i / j))) := by simp [fDiv, flat2, h1, h2, gIC, gI, h]
theorem fMul_ok {r q : R} {i j : Int} (h1 : r.data = .int i) (h2 : q.data = .int j) (h : CMul i j) : fMul r q = some (.sh (.int (i * j))) := by simp [fMul, flat2, h1, h2, gIC, gI, h]
theorem fAdd_ok {r q : R} {i j : Int} (h1 : r.data = .int i) (h2 : q.data = .int j) : fAdd r q = some (.sh (.int (i + j))) := by simp [fAdd, flat2, h1, h2, gIC, gI]
theorem fSub_ok {r q : R} {i j : Int} (h1 : r.data = .int i) (h2 : q.data = .int j) : fSub r q = some (.sh (.int (i - j))) := by simp [fSub, flat2, h1, h2, gIC, gI]
theorem run2 {n : Nat} {ds : List D} {a b : MS} {ρ : DL.Env} {s : S} (h1 : a (env0 n ds) = some (.nx ρ)) (h2 : b ρ = some (.rt s)) : runF n (mSeq a b) ds = some (.ret s) := by
  unfold runF mSeq; rw [h1]; simp only [h2]; rfl
theorem mRet_d {m : ME} {ρ : DL.Env} {d : D} (h : m ρ = some (.sh d)) (hi : imm d = true) : mRet m ρ = some (.rt (.d d)) := by
  simp [mRet, h, R.tree, hi]
theorem drawn_aux (ns : List Int) (hl : ns.length ≤ 63) (k : Nat) (hk : k < 1000000) (M : Int) (hM : 0 < M) : ∃ v, runF N__law_drawn.length (mSeq (mIfS (mTst (mOp fLt (mVar 1) (mCB gLen (mCons (mVar 0) mNil)))) (mRet (mOp fIx (mVar 0) (mVar 1))) mNext)
    (mRet (mOp fMod (mOp fAdd (mOp fAdd (mOp fMul (mOp fMul (mVar 1) (mVar 1)) (mC (.int 48271))) (mOp fMul (mVar 1) (mC (.int 11)))) (mCall 2 (g__law_of A) (mCons (mVar 0) (mCons (mC (.int 0)) mNil)))) (mC (.int M))))) [.scr ns, .int k] = some (.ret (.d (.int v))) := by
  have c1 : CMul (k:Int) k := .inl (by omega)
  have c2 : CMul ((k:Int) * k) 48271 := .inr (by omega)
  have c3 : CMul (k:Int) 11 := .inr (by omega)
  have e7 : mOp fMod (mOp fAdd (mOp fAdd (mOp fMul (mOp fMul (mVar 1) (mVar 1)) (mC (.int 48271))) (mOp fMul (mVar 1) (mC (.int 11)))) (mCall 2 (g__law_of A) (mCons (mVar 0) (mCons (mC (.int 0)) mNil)))) (mC (.int M)) [.sh (.scr ns), .sh (.int k)] = some (.sh (.int (((k:Int) * k * 48271 + k * 11 + ns.headD 0) % M))) := by
    have e8 : mCall 2 (g__law_of A) (mCons (mVar 0) (mCons (mC (.int 0)) mNil)) [.sh (.scr ns), .sh (.int k)] = some (.sh (.int (ns.headD 0))) := by
      simp [mCall, mCons, mVar, mC, mNil, R.data, law_of_ok, retR]
    exact mOp_eq (mOp_eq (mOp_eq (mOp_eq (mOp_eq rfl rfl (fMul_ok rfl rfl c1)) rfl (fMul_ok rfl rfl c2)) (mOp_eq rfl rfl (fMul_ok rfl rfl c3)) (fAdd_ok rfl rfl)) e8 (fAdd_ok rfl rfl)) rfl (fMod_ok rfl rfl hM)
  by_cases h : k < ns.length
  · have e : ns[k]? = some ns[k] := List.getElem?_eq_getElem h
    refine ⟨ns[k], ?_⟩
    walk_at "ev"
    simp [h, atI_nat e, imm]
  · generalize ((k:Int) * k * 48271 + k * 11 + ns.headD 0) % M = w at e7
    refine ⟨w, ?_⟩
    have e9 : mIfS (mTst (mOp fLt (mVar 1) (mCB gLen (mCons (mVar 0) mNil)))) (mRet (mOp fIx (mVar 0) (mVar 1))) mNext [.sh (.scr ns), .sh (.int k)] = some (.nx [.sh (.scr ns), .sh (.int k)]) := by
      walk_at "ev"
      simp [h]
    exact run2 e9 (mRet_d e7 rfl)
theorem drawn_ok (ns : List Int) (hl : ns.length ≤ 63) (k : Nat) (hk : k < 1000000) : ∃ v, g__law_drawn A [.scr ns, .int k] = some (.ret (.d (.int v))) := drawn_aux ns hl k hk 2147483647 (by decide)
theorem room_ok (c : Int) : ∃ r k h, Rm r k h ∧ g__law_room A [.int c] = some (.ret (.d (dRoom r k h))) := by
  have d1 : ∀ c : Int, CDiv c 6 := fun _ => ⟨by decide, by decide⟩
  have d2 : ∀ c : Int, CDiv c 24 := fun _ => ⟨by decide, by decide⟩
  have d3 : ∀ c : Int, CDiv c 480 := fun _ => ⟨by decide, by decide⟩
  have d4 : ∀ c : Int, CDiv c 120 := fun _ => ⟨by decide, by decide⟩
  simp only [g__law_room, m__law_room]
  walk_at "ev"
  simp only [d1, d2, d3, d4, if_true, R.data, gEq_int, Option.map_some]
  have q : ∀ (c : Int) (m : Nat), 0 < m → ∃ n : Nat, 1 ≤ n ∧ n ≤ m ∧ 1 + c % m = n := fun c m hm => by
    have h0 := Int.emod_nonneg c (b := (m:Int)) (by omega)
    have h1 := Int.emod_lt_of_pos c (b := (m:Int)) (by omega)
    exact ⟨(1 + c % m).toNat, by omega, by omega, by omega⟩
  obtain ⟨r, r1, r2, r3⟩ := q c 6 (by decide)
  by_cases h : c / 6 % 4 = 1
  · obtain ⟨k, k1, k2, k3⟩ := q (c / 24) 20 (by decide)
    obtain ⟨z, z1, z2, z3⟩ := q (c / 480) 20 (by decide)
    refine ⟨r, k, z, ⟨⟨r1, r2⟩, ⟨k1, k2⟩, ⟨z1, z2⟩⟩, ?_⟩
    simp at r3 k3 z3
    simp (config := {decide := true}) [h, d2, d3, d4, R.data, r3, k3, z3, dRoom, R.tree, S.data, imm, immL]
  · obtain ⟨k, k1, k2, k3⟩ := q (c / 24) 5 (by decide)
    obtain ⟨z, z1, z2, z3⟩ := q (c / 120) 5 (by decide)
    refine ⟨r, k, z, ⟨⟨r1, r2⟩, ⟨k1, by omega⟩, ⟨z1, by omega⟩⟩, ?_⟩
    simp at r3 k3 z3
    simp (config := {decide := true}) [h, d2, d3, d4, R.data, r3, k3, z3, dRoom, R.tree, S.data, imm, immL]
end My

set_option Elab.async false
set_option linter.all false
set_option maxRecDepth 100000
set_option maxHeartbeats 4000000
namespace My
open PySem PySem.Spec PyProof.Rows L2 DL
variable {A : Ad}
local macro_rules | `(tactic| walk_at "ev") => `(tactic| simp (config := { decide := true }) [runF, env0, outF, mRet, mRetV, mAndV, mOrV, mTst, mIsi, mVar, mNotV, R.data, R.tree, R.slot, R.fixed, D.ty, isTy, imm, immL, mSeq, mIfS, mOr, mNot, mAnd, mOp, mCB, gLen, gMin, gMax, mCons, mNil, mC, fNe, fEq, fSub, fDiv, fMod, fAdd, fMul, fLt, fLe, fGt, fGe, flat2, gI, gIC, fIx, mNext, mSet, mIf, mCall, retR, mNeg, mCh, mLst, mTup, trees, S.data, S.dataL])
theorem rg0 (n : Nat) : rg 0 n = (List.range n).map fun (k : Nat) => D.int k := by simp [rg]
theorem run1 {n : Nat} {ds : List D} {a : MS} {s : S} (h1 : a (env0 n ds) = some (.rt s)) : runF n a ds = some (.ret s) := by unfold runF; rw [h1]; rfl
theorem mRet_t {m : ME} {ρ : DL.Env} {s : S} (h : m ρ = some (.tr s)) : mRet m ρ = some (.rt s) := by simp [mRet, h, R.tree]
theorem mSeq_n {a b : MS} {ρ ρ1 : DL.Env} {o : Option Out} (h1 : a ρ = some (.nx ρ1)) (h2 : b ρ1 = o) : mSeq a b ρ = o := by unfold mSeq; rw [h1]; exact h2
theorem mRg1_eval {ms : MA} {ρ : DL.Env} {r : R} {n : Nat} (h : ms ρ = some [r]) (hd : r.data = .int n) (hn : n ≤ 1000000) : mRg1 ms ρ = some (true, rg 0 n) := by
  unfold mRg1; simp only [h, List.map_cons, List.map_nil, hd]
  rw [if_pos (by omega), Int.toNat_natCast]
theorem one {m : ME} {ρ : DL.Env} {r : R} (h : m ρ = some r) : mCons m mNil ρ = some [r] := by simp [mCons, mNil, h]
theorem ft (xs : List D) : xs.filter (fun _ => true) = xs := List.filter_eq_self.mpr (by simp)
theorem fIx_lst {z y : R} {ds : List D} {i : Nat} {d : D} (hz : z.data = .lst ds) (hy : y.data = .int i) (h : ds[i]? = some d) : ∃ z', fIx z y = some z' ∧ z'.data = d ∧ (imm d = true → z'.slot = .sh d) := by
  have := atI_nat h
  cases z with
  | sh x => cases hz; exact ⟨.sh d, by simp [fIx, hy, this], rfl, fun _ => rfl⟩
  | vw x => cases hz; exact ⟨.vw d, by simp [fIx, hy, this], rfl, fun e => by simp [R.slot, e]⟩
  | tr s => simp only [R.data] at hz; exact ⟨.vw d, by simp [fIx, hy, this, hz], rfl, fun e => by simp [R.slot, e]⟩
theorem mIx {ρ : DL.Env} {ma mb : ME} {z y : R} {ds : List D} {i : Nat} {d : D} (ha : ma ρ = some z) (hb : mb ρ = some y) (hz : z.data = .lst ds) (hy : y.data = .int i) (h : ds[i]? = some d) : ∃ z', mOp fIx ma mb ρ = some z' ∧ z'.data = d ∧ (imm d = true → z'.slot = .sh d) := by
  obtain ⟨z', h1, h2, h3⟩ := fIx_lst hz hy h
  exact ⟨z', mOp_eq ha hb h1, h2, h3⟩
theorem fGt_ok {r q : R} {i j : Int} (h1 : r.data = .int i) (h2 : q.data = .int j) : fGt r q = some (.sh (.bl (decide (j < i)))) := by simp [fGt, flat2, h1, h2, gI]
theorem flat_len {α β : Type} {f : α → List β} {m : Nat} : ∀ {xs : List α}, (∀ x ∈ xs, (f x).length ≤ m) → (xs.flatMap f).length ≤ xs.length * m
  | [], _ => by simp
  | x :: xs, h => by
    have h1 := h x List.mem_cons_self
    have h2 := flat_len (xs := xs) fun y hy => h y (List.mem_cons_of_mem _ hy)
    rw [List.flatMap_cons, List.length_append, List.length_cons, Nat.succ_mul]
    omega
def dP (p : Nat × Nat) : D := .tup [.int p.1, .int p.2]
def places (r c : Nat) : List (Nat × Nat) := (List.range r).flatMap fun i => (List.range c).map fun j => (i, j)
theorem room_ix {ρ : DL.Env} {k : Nat} {r c h : Nat} (e : ρ[k]? = some (.sh (dRoom r c h))) : mOp fIx (mVar k) (mC (.int 0)) ρ = some (.sh (.int r)) ∧ mOp fIx (mVar k) (mC (.int 1)) ρ = some (.sh (.int c)) ∧ mOp fIx (mVar k) (mC (.int 2)) ρ = some (.sh (.int h)) := by
  refine ⟨?_, ?_, ?_⟩ <;> simp [mOp, mVar, e, mC, fIx, dRoom, R.data, atI, ixN]
theorem mem_places {r c : Nat} {p : Nat × Nat} : p ∈ places r c ↔ p.1 < r ∧ p.2 < c := by
  obtain ⟨i, j⟩ := p
  simp [places]
theorem tab_at {r c h : Nat} {t : List (List Int)} (T : Tab r c h t) {i j : Nat} (hi : i < r) (hj : j < c) : ∃ x, t[i]? = some x ∧ x[j]? = some (at2 t i j) ∧ x ∈ t := by
  have h1 : i < t.length := by rw [T.len]; exact hi
  have h2 : t[i] ∈ t := List.getElem_mem h1
  have h3 : j < t[i].length := by rw [T.row _ h2]; exact hj
  exact ⟨t[i], List.getElem?_eq_getElem h1, by simp [at2, h1, h3], h2⟩
end My

set_option Elab.async false
set_option linter.all false
set_option maxRecDepth 100000
set_option maxHeartbeats 4000000
namespace My
open PySem PySem.Spec PyProof.Rows L2 DL
variable {A : Ad}
def mostv (u : List (List Int)) (h i j : Nat) : Int :=
  let b := if 0 < j then min (h : Int) (at2 u i (j - 1)) else h
  if 0 < i then min b (at2 u (i - 1) j) else b
theorem gMin_ok {a b : Int} : gMin [.int a, .int b] = some (.sh (.int (min a b))) := by
  simp only [gMin]
  congr 3
  split <;> omega
theorem gMax_ok {a b : Int} : gMax [.int a, .int b] = some (.sh (.int (max a b))) := by
  simp only [gMax]
  congr 3
  split <;> omega
theorem mCB_two {g : List D → Option R} {ma mb : ME} {ρ : DL.Env} {x y z : R} (h1 : ma ρ = some x) (h2 : mb ρ = some y) (h3 : g [x.data, y.data] = some z) : mCB g (mCons ma (mCons mb mNil)) ρ = some z := by
  simp [mCB, mCons, mNil, h1, h2, h3]
theorem mSet_d {i : Nat} {m : ME} {ρ : DL.Env} {d : D} (h : m ρ = some (.sh d)) : mSet i m ρ = some (.nx (ρ.set i (.sh d))) := by simp [mSet, h, R.slot]
theorem mIfS_t {c : MT} {a b : MS} {ρ : DL.Env} (h : c ρ = some true) : mIfS c a b ρ = a ρ := by simp [mIfS, h]
theorem mIfS_f {c : MT} {a b : MS} {ρ : DL.Env} (h : c ρ = some false) : mIfS c a b ρ = b ρ := by simp [mIfS, h]
theorem mTst_b {m : ME} {ρ : DL.Env} {b : Bool} (h : m ρ = some (.sh (.bl b))) : mTst m ρ = some b := by simp [mTst, h, R.data]
theorem most_ok {u : List (List Int)} {r c h i j : Nat} (hj : 0 < j → ∃ x, u[i]? = some x ∧ j - 1 < x.length) (hi : 0 < i → ∃ x, u[i - 1]? = some x ∧ j < x.length) : g__law_most A [dTab u, dRoom r c h, .int i, .int j] = some (.ret (.d (.int (mostv u h i j)))) := by
  refine run2 (ρ := [.sh (dTab u), .sh (dRoom r c h), .sh (.int i), .sh (.int j), .sh (.int h)]) ?_ ?_
  · exact mSet_d (room_ix (k := 1) (r := r) (c := c) (h := h) (ρ := [.sh (dTab u), .sh (dRoom r c h), .sh (.int i), .sh (.int j), .dead]) rfl).2.2
  generalize hb : (if 0 < j then min (h : Int) (at2 u i (j - 1)) else h) = b
  have s1 : mIfS (mTst (mOp fGt (mVar 3) (mC (.int 0)))) (mSet 4 (mCB gMin (mCons (mVar 4) (mCons (mOp fIx (mOp fIx (mVar 0) (mVar 2)) (mOp fSub (mVar 3) (mC (.int 1)))) mNil)))) mNext [.sh (dTab u), .sh (dRoom r c h), .sh (.int i), .sh (.int j), .sh (.int h)] = some (.nx [.sh (dTab u), .sh (dRoom r c h), .sh (.int i), .sh (.int j), .sh (.int b)]) := by
    have q : mOp fGt (mVar 3) (mC (.int 0)) [.sh (dTab u), .sh (dRoom r c h), .sh (.int i), .sh (.int j), .sh (.int h)] = some (.sh (.bl (decide ((0:Int) < j)))) := mOp_eq rfl rfl (fGt_ok rfl rfl)
    by_cases h0 : 0 < j
    · rw [if_pos h0] at hb; subst hb
      obtain ⟨x, hx, hl⟩ := hj h0
      rw [mIfS_t (mTst_b (by rw [q]; simp [h0]))]
      obtain ⟨z1, q1, q2, _⟩ := mIx (ma := mVar 0) (mb := mVar 2) (ρ := [.sh (dTab u), .sh (dRoom r c h), .sh (.int i), .sh (.int j), .sh (.int h)]) rfl rfl (ds := u.map dRow) rfl (i := i) rfl (d := dRow x) (by simp [hx])
      have q3 : mOp fSub (mVar 3) (mC (.int 1)) [.sh (dTab u), .sh (dRoom r c h), .sh (.int i), .sh (.int j), .sh (.int h)] = some (.sh (.int ((j - 1 : Nat) : Int))) := by
        rw [show ((j - 1 : Nat) : Int) = (j : Int) - 1 by omega]
        exact mOp_eq rfl rfl (fSub_ok rfl rfl)
      obtain ⟨z2, q4, q5, _⟩ := mIx q1 q3 q2 rfl (d := .int (at2 u i (j - 1))) (by simp [at2, hx, hl])
      exact mSet_d (mCB_two rfl q4 (by rw [q5]; exact gMin_ok))
    · rw [if_neg h0] at hb; subst hb
      rw [mIfS_f (mTst_b (by rw [q]; simp [h0]))]; rfl
  have s2 : mIfS (mTst (mOp fGt (mVar 2) (mC (.int 0)))) (mSet 4 (mCB gMin (mCons (mVar 4) (mCons (mOp fIx (mOp fIx (mVar 0) (mOp fSub (mVar 2) (mC (.int 1)))) (mVar 3)) mNil)))) mNext [.sh (dTab u), .sh (dRoom r c h), .sh (.int i), .sh (.int j), .sh (.int b)] = some (.nx [.sh (dTab u), .sh (dRoom r c h), .sh (.int i), .sh (.int j), .sh (.int (mostv u h i j))]) := by
    have q : mOp fGt (mVar 2) (mC (.int 0)) [.sh (dTab u), .sh (dRoom r c h), .sh (.int i), .sh (.int j), .sh (.int b)] = some (.sh (.bl (decide ((0:Int) < i)))) := mOp_eq rfl rfl (fGt_ok rfl rfl)
    have hm : mostv u h i j = if 0 < i then min b (at2 u (i - 1) j) else b := by rw [← hb]; rfl
    rw [hm]
    by_cases h0 : 0 < i
    · rw [if_pos h0]
      obtain ⟨x, hx, hl⟩ := hi h0
      rw [mIfS_t (mTst_b (by rw [q]; simp [h0]))]
      have q3 : mOp fSub (mVar 2) (mC (.int 1)) [.sh (dTab u), .sh (dRoom r c h), .sh (.int i), .sh (.int j), .sh (.int b)] = some (.sh (.int ((i - 1 : Nat) : Int))) := by
        rw [show ((i - 1 : Nat) : Int) = (i : Int) - 1 by omega]
        exact mOp_eq rfl rfl (fSub_ok rfl rfl)
      obtain ⟨z1, q1, q2, _⟩ := mIx (ma := mVar 0) (ρ := [.sh (dTab u), .sh (dRoom r c h), .sh (.int i), .sh (.int j), .sh (.int b)]) rfl q3 (ds := u.map dRow) rfl rfl (d := dRow x) (by simp [hx])
      obtain ⟨z2, q4, q5, _⟩ := mIx (mb := mVar 3) q1 rfl q2 (i := j) rfl (d := .int (at2 u (i - 1) j)) (by simp [at2, hx, hl])
      exact mSet_d (mCB_two rfl q4 (by rw [q5]; exact gMin_ok))
    · rw [if_neg h0]
      rw [mIfS_f (mTst_b (by rw [q]; simp [h0]))]; rfl
  exact mSeq_n s1 (mSeq_n s2 rfl)
theorem tab_len (t : List (List Int)) : (t.map sRow).length = t.length := List.length_map _
theorem put_row (full : List (List Int)) (cur : List Int) (v : Int) : S.put (.own ((cur.map fun n => S.d (.int n)) ++ [.d (.int v)])) [full.length] (sTab (full ++ [cur])) = sTab (full ++ [cur ++ [v]]) := by
  simp [sTab, S.put, sRow]
end My

set_option Elab.async false
set_option linter.all false
set_option maxRecDepth 100000
set_option maxHeartbeats 4000000
namespace My
open PySem PySem.Spec PyProof.Rows L2 DL
variable {A : Ad}
/-- full rows -/
structure Fl (c h : Nat) (t : List (List Int)) : Prop where
  row : ∀ x ∈ t, x.length = c
  lo : ∀ i j, i < t.length → j < c → 0 ≤ at2 t i j ∧ at2 t i j ≤ (h : Int)
  rr : ∀ i j, i < t.length → j + 1 < c → at2 t i (j + 1) ≤ at2 t i j
  cc : ∀ i j, i + 1 < t.length → j < c → at2 t (i + 1) j ≤ at2 t i j
/-- the row under way -/
structure Cu (c h : Nat) (t : List (List Int)) (x : List Int) : Prop where
  len : x.length ≤ c
  lo : ∀ j, j < x.length → 0 ≤ x.getD j 0 ∧ x.getD j 0 ≤ (h : Int)
  rr : ∀ j, j + 1 < x.length → x.getD (j + 1) 0 ≤ x.getD j 0
  cc : ∀ j, 0 < t.length → j < x.length → x.getD j 0 ≤ at2 t (t.length - 1) j
theorem at2_left {t : List (List Int)} {x : List Int} {i j : Nat} (h : i < t.length) : at2 (t ++ [x]) i j = at2 t i j := by
  simp [at2, List.getElem?_append_left h]
theorem at2_last {t : List (List Int)} {x : List Int} {j : Nat} : at2 (t ++ [x]) t.length j = x.getD j 0 := by
  simp [at2]
theorem Fl.push {c h : Nat} {t : List (List Int)} {x : List Int} (F : Fl c h t) (C : Cu c h t x) (hx : x.length = c) : Fl c h (t ++ [x]) where
  row := fun y m => by
    rcases List.mem_append.mp m with m | m
    · exact F.row y m
    · rw [List.mem_singleton.mp m]; exact hx
  lo := fun i j hi hj => by
    by_cases h1 : i < t.length
    · rw [at2_left h1]; exact F.lo i j h1 hj
    · have : i = t.length := by simp at hi; omega
      subst this; rw [at2_last]; exact C.lo j (by omega)
  rr := fun i j hi hj => by
    by_cases h1 : i < t.length
    · rw [at2_left h1, at2_left h1]; exact F.rr i j h1 hj
    · have : i = t.length := by simp at hi; omega
      subst this; rw [at2_last, at2_last]; exact C.rr j (by omega)
  cc := fun i j hi hj => by
    by_cases h1 : i + 1 < t.length
    · rw [at2_left h1, at2_left (by omega)]; exact F.cc i j h1 hj
    · have : i + 1 = t.length := by simp at hi; omega
      rw [this, at2_last, at2_left (by omega)]
      have := C.cc j (by omega) (by omega)
      rw [show t.length - 1 = i by omega] at this
      exact this
theorem Cu.push {c h : Nat} {t : List (List Int)} {x : List Int} {v : Int} (C : Cu c h t x) (hx : x.length < c) (h0 : 0 ≤ v) (hv : v ≤ mostv (t ++ [x]) h t.length x.length) : Cu c h t (x ++ [v]) := by
  have hg : ∀ j, j < x.length → (x ++ [v]).getD j 0 = x.getD j 0 := fun j hj => by simp [List.getElem?_append_left hj]
  have hl : (x ++ [v]).getD x.length 0 = v := by simp
  have v1 : v ≤ h ∧ (0 < x.length → v ≤ x.getD (x.length - 1) 0) ∧ (0 < t.length → v ≤ at2 t (t.length - 1) x.length) := by
    unfold mostv at hv
    rw [at2_last] at hv
    by_cases ht : 0 < t.length
    · rw [at2_left (by omega)] at hv
      simp only [if_pos ht] at hv
      by_cases hxx : 0 < x.length
      · simp only [if_pos hxx] at hv; exact ⟨by omega, fun _ => by omega, fun _ => by omega⟩
      · simp only [if_neg hxx] at hv; exact ⟨by omega, fun z => absurd z hxx, fun _ => by omega⟩
    · simp only [if_neg ht] at hv
      by_cases hxx : 0 < x.length
      · simp only [if_pos hxx] at hv; exact ⟨by omega, fun _ => by omega, fun z => absurd z ht⟩
      · simp only [if_neg hxx] at hv; exact ⟨by omega, fun z => absurd z hxx, fun z => absurd z ht⟩
  have hlen : (x ++ [v]).length = x.length + 1 := by simp
  refine ⟨by omega, fun j hj => ?_, fun j hj => ?_, fun j ht hj => ?_⟩
  · by_cases h1 : j < x.length
    · rw [hg j h1]; exact C.lo j h1
    · rw [show j = x.length by omega, hl]; exact ⟨h0, v1.1⟩
  · by_cases h1 : j + 1 < x.length
    · rw [hg _ h1, hg j (by omega)]; exact C.rr j h1
    · rw [show j + 1 = x.length by omega, hl, hg j (by omega)]
      have := v1.2.1 (by omega)
      rw [show x.length - 1 = j by omega] at this
      exact this
  · by_cases h1 : j < x.length
    · rw [hg j h1]; exact C.cc j ht h1
    · rw [show j = x.length by omega, hl]; exact v1.2.2 ht
theorem mostv_nn {c h : Nat} {t : List (List Int)} {x : List Int} (F : Fl c h t) (C : Cu c h t x) (hx : x.length < c) : 0 ≤ mostv (t ++ [x]) h t.length x.length := by
  have a1 : 0 < x.length → 0 ≤ x.getD (x.length - 1) 0 := fun z => (C.lo _ (by omega)).1
  have a2 : 0 < t.length → 0 ≤ at2 t (t.length - 1) x.length := fun z => (F.lo _ _ (by omega) hx).1
  unfold mostv
  rw [at2_last]
  by_cases ht : 0 < t.length
  · rw [at2_left (by omega)]
    simp only [if_pos ht]
    by_cases hxx : 0 < x.length
    · simp only [if_pos hxx]; have := a1 hxx; have := a2 ht; omega
    · simp only [if_neg hxx]; have := a2 ht; omega
  · simp only [if_neg ht]
    by_cases hxx : 0 < x.length
    · simp only [if_pos hxx]; have := a1 hxx; omega
    · simp only [if_neg hxx]; omega
theorem Fl.tab {r c h : Nat} {t : List (List Int)} (F : Fl c h t) (hl : t.length = r) : Tab r c h t where
  len := hl
  row := F.row
  lo := fun x m n hn => by
    obtain ⟨i, hi⟩ := List.getElem?_of_mem m
    obtain ⟨j, hj⟩ := List.getElem?_of_mem hn
    have h1 := (List.getElem?_eq_some_iff.mp hi).1
    have h2 := (List.getElem?_eq_some_iff.mp hj).1
    have := F.lo i j h1 (by rw [← F.row x m]; exact h2)
    rw [show at2 t i j = n by simp [at2, hi, hj]] at this
    exact this
  nrr := fun x m => fun j a b ha hb => by
    obtain ⟨i, hi⟩ := List.getElem?_of_mem m
    have h1 := (List.getElem?_eq_some_iff.mp hi).1
    have h2 := (List.getElem?_eq_some_iff.mp hb).1
    have := F.rr i j h1 (by rw [← F.row x m]; exact h2)
    rw [show at2 t i j = a by simp [at2, hi, ha], show at2 t i (j + 1) = b by simp [at2, hi, hb]] at this
    exact this
  nrc := fun j hj => fun i a b ha hb => by
    rw [List.getElem?_map, Option.map_eq_some_iff] at ha hb
    obtain ⟨x, hx, rfl⟩ := ha
    obtain ⟨y, hy, rfl⟩ := hb
    have h1 := (List.getElem?_eq_some_iff.mp hy).1
    have := F.cc i j h1 hj
    rw [show at2 t i j = x.getD j 0 by simp [at2, hx], show at2 t (i + 1) j = y.getD j 0 by simp [at2, hy]] at this
    exact this
end My

set_option Elab.async false
set_option linter.all false
set_option maxRecDepth 100000
set_option maxHeartbeats 4000000
namespace My
open PySem PySem.Spec PyProof.Rows L2 DL
variable {A : Ad}
theorem fEq_int {r q : R} {i j : Int} (h1 : r.data = .int i) (h2 : q.data = .int j) : fEq r q = some (.sh (.bl (decide (i = j)))) := by simp [fEq, flat2, h1, h2]
theorem mCall_d {n : Nat} {g : List D → Option FO} {ms : MA} {ρ : DL.Env} {rs : List R} {d : D} (h1 : ms ρ = some rs) (hn : rs.length = n) (h2 : g (rs.map R.data) = some (.ret (.d d))) : mCall n g ms ρ = some (.sh d) := by
  unfold mCall
  simp [h1, hn, h2, retR]
def ET (k0 : Nat) (ns : List Int) (r c h : Nat) (t : List (List Int)) (a b m w v : Sl) : DL.Env := [.sh (.scr ns), .sh (.int k0), .sh (dRoom r c h), .tr (sTab t), a, b, m, w, v]
theorem drawn_c {ns : List Int} {z3 w : Int} {me : ME} {ρ : DL.Env} (q0 : mVar 0 ρ = some (.sh (.scr ns))) (q : me ρ = some (.sh (.int z3))) (hw : g__law_drawn A [D.scr ns, D.int z3] = some (FO.ret (S.d (D.int w)))) : mCall 2 (g__law_drawn A) (mCons (mVar 0) (mCons me mNil)) ρ = some (.sh (.int w)) := by
  refine mCall_d (rs := [.sh (.scr ns), .sh (.int z3)]) ?_ rfl hw
  simp only [mCons, mNil, q, q0]
theorem ET_0 {k0 : Nat} {ns : List Int} {r c h : Nat} {t : List (List Int)} {a b m w v : Sl} : mVar 0 (ET k0 ns r c h t a b m w v) = some (.sh (.scr ns)) := rfl
theorem drawn_s {k0 : Nat} {ns : List Int} {z3 w : Int} {r c h : Nat} {t : List (List Int)} {a b m : Sl} {me : ME} (q : me (ET k0 ns r c h t a b m .dead .dead) = some (.sh (.int z3))) (hw : g__law_drawn A [D.scr ns, D.int z3] = some (FO.ret (S.d (D.int w)))) : mSet 7 (mCall 2 (g__law_drawn A) (mCons (mVar 0) (mCons me mNil))) (ET k0 ns r c h t a b m .dead .dead) = some (.nx (ET k0 ns r c h t a b m (.sh (.int w)) .dead)) := mSet_d (drawn_c ET_0 q hw)
def mBody (A : Ad) : MS := (mSeq (mSet 6 (mCall 4 (g__law_most A) (mCons (mVar 3) (mCons (mVar 2) (mCons (mVar 4) (mCons (mVar 5) mNil))))))
    (mSeq (mSet 7 (mCall 2 (g__law_drawn A) (mCons (mVar 0) (mCons (mOp fAdd (mOp fAdd (mVar 1) (mOp fMul (mVar 4) (mOp fIx (mVar 2) (mC (.int 1))))) (mVar 5)) mNil))))
    (mSeq (mSet 8 (mOp fMod (mOp fDiv (mVar 7) (mC (.int 3))) (mOp fAdd (mVar 6) (mC (.int 1)))))
    (mSeq (mIfS (mTst (mOp fEq (mOp fMod (mVar 7) (mC (.int 3))) (mC (.int 0)))) (mSet 8 (mVar 6)) mNext)
    (mSeq (mIfS (mTst (mOp fEq (mOp fMod (mVar 7) (mC (.int 3))) (mC (.int 1)))) (mSet 8 (mCB gMax (mCons (mC (.int 0)) (mCons (mOp fSub (mOp fSub (mVar 6) (mC (.int 1))) (mOp fMod (mOp fDiv (mVar 7) (mC (.int 3))) (mC (.int 2)))) mNil)))) mNext)
    (mAppend (mpIx (mpV 3) (mVar 4)) (mVar 8)))))))
theorem body_ok {k0 : Nat} (hk0 : k0 ≤ 1000) {ns : List Int} (hns : ns.length ≤ 63) {r c h : Nat} (M : Rm r c h) {t : List (List Int)} {x : List Int} (F : Fl c h t) (C : Cu c h t x) (hx : x.length < c) (ht : t.length < r) :
    ∃ v m w, 0 ≤ v ∧ v ≤ mostv (t ++ [x]) h t.length x.length ∧ mBody A (ET k0 ns r c h (t ++ [x]) (.sh (.int t.length)) (.sh (.int x.length)) .dead .dead .dead) = some (.nx (ET k0 ns r c h (t ++ [x ++ [v]]) (.sh (.int t.length)) (.sh (.int x.length)) (.sh (.int m)) (.sh (.int w)) (.sh (.int v)))) := by
  have hr := M.r; have hc := M.c; have hh := M.h
  have hm0 := mostv_nn F C hx
  generalize hm : mostv (t ++ [x]) h t.length x.length = m at hm0
  have hk : k0 + t.length * c + x.length < 1000000 := by
    have := Nat.mul_le_mul (show t.length ≤ 6 by omega) hc.2
    omega
  obtain ⟨w, hw⟩ := drawn_ok (A := A) ns hns (k0 + t.length * c + x.length) hk
  have e1 : mSet 6 (mCall 4 (g__law_most A) (mCons (mVar 3) (mCons (mVar 2) (mCons (mVar 4) (mCons (mVar 5) mNil))))) (ET k0 ns r c h (t ++ [x]) (.sh (.int t.length)) (.sh (.int x.length)) .dead .dead .dead) = some (.nx (ET k0 ns r c h (t ++ [x]) (.sh (.int t.length)) (.sh (.int x.length)) (.sh (.int m)) .dead .dead)) := by
    refine mSet_d (mCall_d (rs := [.vw (sTab (t ++ [x])).data, .sh (dRoom r c h), .sh (.int t.length), .sh (.int x.length)]) rfl rfl ?_)
    rw [← hm]
    simp only [List.map_cons, List.map_nil, R.data, sTab_data]
    refine most_ok (fun z => ⟨x, by simp, by omega⟩) fun z => ⟨t[t.length - 1], ?_, ?_⟩
    · rw [List.getElem?_append_left (by omega)]; exact List.getElem?_eq_getElem (by omega)
    · rw [F.row _ (List.getElem_mem _)]; exact hx
  have cm : CMul (t.length : Int) (c : Int) := .inr (by omega)
  have e2 : mSet 7 (mCall 2 (g__law_drawn A) (mCons (mVar 0) (mCons (mOp fAdd (mOp fAdd (mVar 1) (mOp fMul (mVar 4) (mOp fIx (mVar 2) (mC (.int 1))))) (mVar 5)) mNil))) (ET k0 ns r c h (t ++ [x]) (.sh (.int t.length)) (.sh (.int x.length)) (.sh (.int m)) .dead .dead) = some (.nx (ET k0 ns r c h (t ++ [x]) (.sh (.int t.length)) (.sh (.int x.length)) (.sh (.int m)) (.sh (.int w)) .dead)) := by
    have q1 : mOp fMul (mVar 4) (mOp fIx (mVar 2) (mC (.int 1))) (ET k0 ns r c h (t ++ [x]) (.sh (.int t.length)) (.sh (.int x.length)) (.sh (.int m)) .dead .dead) = some (.sh (.int (t.length * c))) :=
      mOp_eq (x := .sh (.int t.length)) (y := .sh (.int c)) rfl (room_ix (k := 2) (r := r) (c := c) (h := h) rfl).2.1 (fMul_ok rfl rfl cm)
    have hp : ((k0 : Int) + (t.length : Int) * c + x.length) = ((k0 + t.length * c + x.length : Nat) : Int) := by simp
    generalize ((t.length : Int) * c) = z1 at q1 hp
    have q2 : mOp fAdd (mVar 1) (mOp fMul (mVar 4) (mOp fIx (mVar 2) (mC (.int 1)))) (ET k0 ns r c h (t ++ [x]) (.sh (.int t.length)) (.sh (.int x.length)) (.sh (.int m)) .dead .dead) = some (.sh (.int (k0 + z1))) :=
      mOp_eq (x := .sh (.int k0)) rfl q1 (fAdd_ok rfl rfl)
    generalize ((k0 : Int) + z1) = z2 at q2 hp
    have q : mOp fAdd (mOp fAdd (mVar 1) (mOp fMul (mVar 4) (mOp fIx (mVar 2) (mC (.int 1))))) (mVar 5) (ET k0 ns r c h (t ++ [x]) (.sh (.int t.length)) (.sh (.int x.length)) (.sh (.int m)) .dead .dead) = some (.sh (.int (z2 + x.length))) :=
      mOp_eq (y := .sh (.int x.length)) q2 rfl (fAdd_ok rfl rfl)
    rw [hp] at q
    generalize ((k0 + t.length * c + x.length : Nat) : Int) = z3 at q hw
    exact drawn_s q hw
  let E := ET k0 ns r c h (t ++ [x]) (.sh (.int t.length)) (.sh (.int x.length)) (.sh (.int m)) (.sh (.int w))
  have c3 : CDiv w 3 := ⟨by decide, by decide⟩
  have e3 : mSet 8 (mOp fMod (mOp fDiv (mVar 7) (mC (.int 3))) (mOp fAdd (mVar 6) (mC (.int 1)))) (E .dead) = some (.nx (E (.sh (.int (w / 3 % (m + 1)))))) :=
    mSet_d (mOp_eq (mOp_eq rfl rfl (fDiv_ok rfl rfl c3)) (mOp_eq rfl rfl (fAdd_ok rfl rfl)) (fMod_ok rfl rfl (by omega)))
  have hv1 : 0 ≤ w / 3 % (m + 1) ∧ w / 3 % (m + 1) ≤ m := by
    have := Int.emod_nonneg (w / 3) (b := m + 1) (by omega)
    have := Int.emod_lt_of_pos (w / 3) (b := m + 1) (by omega)
    omega
  generalize w / 3 % (m + 1) = v1 at e3 hv1
  have hM : ∀ s, mOp fMod (mVar 7) (mC (.int 3)) (E s) = some (.sh (.int (w % 3))) := fun s => mOp_eq rfl rfl (fMod_ok rfl rfl (by decide))
  obtain ⟨v2, hv2, e4⟩ : ∃ v2, (0 ≤ v2 ∧ v2 ≤ m) ∧ mIfS (mTst (mOp fEq (mOp fMod (mVar 7) (mC (.int 3))) (mC (.int 0)))) (mSet 8 (mVar 6)) mNext (E (.sh (.int v1))) = some (.nx (E (.sh (.int v2)))) := by
    by_cases h0 : w % 3 = 0
    · refine ⟨m, ⟨by omega, by omega⟩, ?_⟩
      rw [mIfS_t (mTst_b (mOp_eq (hM _) rfl ((fEq_int rfl rfl).trans (by rw [h0]; rfl))))]
      exact mSet_d rfl
    · refine ⟨v1, hv1, ?_⟩
      rw [mIfS_f (mTst_b (mOp_eq (hM _) rfl ((fEq_int rfl rfl).trans (by rw [decide_eq_false h0]))))]
      rfl
  obtain ⟨v, hv, e5⟩ : ∃ v, (0 ≤ v ∧ v ≤ m) ∧ mIfS (mTst (mOp fEq (mOp fMod (mVar 7) (mC (.int 3))) (mC (.int 1)))) (mSet 8 (mCB gMax (mCons (mC (.int 0)) (mCons (mOp fSub (mOp fSub (mVar 6) (mC (.int 1))) (mOp fMod (mOp fDiv (mVar 7) (mC (.int 3))) (mC (.int 2)))) mNil)))) mNext (E (.sh (.int v2))) = some (.nx (E (.sh (.int v)))) := by
    by_cases h0 : w % 3 = 1
    · refine ⟨max 0 (m - 1 - w / 3 % 2), ⟨by omega, by omega⟩, ?_⟩
      rw [mIfS_t (mTst_b (mOp_eq (hM _) rfl ((fEq_int rfl rfl).trans (by rw [h0]; rfl))))]
      have q2 : mOp fMod (mOp fDiv (mVar 7) (mC (.int 3))) (mC (.int 2)) (E (.sh (.int v2))) = some (.sh (.int (w / 3 % 2))) := mOp_eq (mOp_eq rfl rfl (fDiv_ok rfl rfl c3)) rfl (fMod_ok rfl rfl (by decide))
      generalize w / 3 % 2 = z at q2
      exact mSet_d (mCB_two rfl (mOp_eq (mOp_eq rfl rfl (fSub_ok rfl rfl)) q2 (fSub_ok rfl rfl)) gMax_ok)
    · refine ⟨v2, hv2, ?_⟩
      rw [mIfS_f (mTst_b (mOp_eq (hM _) rfl ((fEq_int rfl rfl).trans (by rw [decide_eq_false h0]))))]
      rfl
  refine ⟨v, m, w, hv.1, by omega, ?_⟩
  refine mSeq_n e1 (mSeq_n e2 (mSeq_n e3 (mSeq_n e4 (mSeq_n e5 ?_))))
  have p : mpIx (mpV 3) (mVar 4) (E (.sh (.int v))) = some (3, [t.length]) := by
    have hlt : (t.length : Int) < t.length + 1 := by omega
    simp [mpIx, mpV, E, ET, sTab, nodeAt, S.get, mVar, R.data, ixN, isNode, sRow, hlt]
  have g : S.get [t.length] (sTab (t ++ [x])) = some (.own (x.map fun n => .d (.int n))) := by simp [S.get, sTab, sRow]
  unfold mAppend
  rw [p]
  have q3 : mVar 8 (E (.sh (.int v))) = some (.sh (.int v)) := rfl
  have q4 : (E (.sh (.int v)))[3]? = some (.tr (sTab (t ++ [x]))) := rfl
  have q5 : R.tree (.sh (.int v)) = some (.d (.int v)) := by simp [R.tree, imm]
  simp only [q3, q4, q5, g, put_row]
  rw [if_pos (by rw [List.length_map]; omega)]
  rfl
end My

set_option Elab.async false
set_option linter.all false
set_option maxRecDepth 100000
set_option maxHeartbeats 4000000
namespace My
open PySem PySem.Spec PyProof.Rows L2 DL
variable {A : Ad}
theorem rg_at {n i : Nat} {d : D} (h : (rg 0 n)[i]? = some d) : i < n ∧ d = .int i := by
  rw [rg0, List.getElem?_map, Option.map_eq_some_iff] at h
  obtain ⟨k, hk, rfl⟩ := h
  have h1 := (List.getElem?_eq_some_iff.mp hk).1
  rw [List.length_range] at h1
  rw [List.getElem?_range h1] at hk
  cases hk
  exact ⟨h1, rfl⟩
theorem mFor_eq {mi : MI} {g : MG} {body : MS} {ks : List Nat} {ρ : DL.Env} {items : List D} (h : mi ρ = some (true, items)) : mFor mi g body ks ρ = forGo true g body ks items ρ := by unfold mFor; rw [h]
theorem Cu.nil {c h : Nat} {t : List (List Int)} : Cu c h t [] := ⟨Nat.zero_le _, fun j z => by simp at z, fun j z => by simp at z, fun j _ z => by simp at z⟩
theorem Fl.nil {c h : Nat} : Fl c h [] where
  row := fun x m => by cases m
  lo := fun i j z => absurd z (Nat.not_lt_zero _)
  rr := fun i j z => absurd z (Nat.not_lt_zero _)
  cc := fun i j z => absurd z (Nat.not_lt_zero _)
theorem ET_room {k0 : Nat} {ns : List Int} {r c h : Nat} {t : List (List Int)} {a b m w v : Sl} : (ET k0 ns r c h t a b m w v)[2]? = some (.sh (dRoom r c h)) := rfl
theorem inner_ok {k0 : Nat} (hk0 : k0 ≤ 1000) {ns : List Int} (hns : ns.length ≤ 63) {r c h : Nat} (M : Rm r c h) {t : List (List Int)} (F : Fl c h t) (ht : t.length < r) :
    ∃ x, Cu c h t x ∧ x.length = c ∧ forGo true (mgName 5) (mBody A) [5, 6, 7, 8] (rg 0 c) (ET k0 ns r c h (t ++ [[]]) (.sh (.int t.length)) .dead .dead .dead .dead) = some (.nx (ET k0 ns r c h (t ++ [x]) (.sh (.int t.length)) .dead .dead .dead .dead)) := by
  obtain ⟨ρ, h1, x, h2, h3, rfl⟩ := forGo_inv (s := true) (g := mgName 5) (body := mBody A) (ks := [5, 6, 7, 8]) (items := rg 0 c) (ρ0 := ET k0 ns r c h (t ++ [[]]) (.sh (.int t.length)) .dead .dead .dead .dead) (fun i ρ => ∃ x, x.length = i ∧ Cu c h t x ∧ ρ = ET k0 ns r c h (t ++ [x]) (.sh (.int t.length)) .dead .dead .dead .dead) ⟨[], rfl, .nil, rfl⟩ fun i d ρ hd hI => by
    obtain ⟨x, hx, C, rfl⟩ := hI
    obtain ⟨hi, rfl⟩ := rg_at hd
    subst hx
    obtain ⟨v, m, w, hv0, hv1, hb⟩ := body_ok (A := A) hk0 hns M F C hi ht
    exact ⟨ET k0 ns r c h (t ++ [x]) (.sh (.int t.length)) (.sh (.int x.length)) .dead .dead .dead, _, rfl, .inl hb, x ++ [v], by simp, C.push hi hv0 hv1, rfl⟩
  refine ⟨x, h3, ?_, h1⟩
  rw [h2, rg0]; simp
theorem app_row (k0 : Nat) (ns : List Int) (r c h : Nat) (t : List (List Int)) (a : Sl) (ht : t.length < 100000) (ha : ∀ x, a ≠ .vw x) : mAppend (mpV 3) (mLst mNil) (ET k0 ns r c h t a .dead .dead .dead .dead) = some (.nx (ET k0 ns r c h (t ++ [[]]) a .dead .dead .dead .dead)) := by
  have q1 : mpV 3 (ET k0 ns r c h t a .dead .dead .dead .dead) = some (3, []) := rfl
  have q2 : mLst mNil (ET k0 ns r c h t a .dead .dead .dead .dead) = some (.tr (.own [])) := by simp [mLst, mNil, trees]
  have q4 : (ET k0 ns r c h t a .dead .dead .dead .dead)[3]? = some (.tr (sTab t)) := rfl
  have q5 : R.tree (.tr (.own [])) = some (.own []) := rfl
  have q6 : S.get [] (sTab t) = some (.own (t.map sRow)) := rfl
  have q7 : S.put (.own (t.map sRow ++ [.own []])) [] (sTab t) = sTab (t ++ [[]]) := by simp [S.put, sTab, sRow]
  unfold mAppend
  simp only [q1, q2, q4, q5, q6, q7]
  rw [if_pos (by rw [List.length_map]; exact ht)]
  cases a with
  | vw x => exact (ha x rfl).elim
  | _ => rfl
theorem table_fl {k0 : Nat} (hk0 : k0 ≤ 1000) {ns : List Int} (hns : ns.length ≤ 63) {r c h : Nat} (M : Rm r c h) : ∃ t, (Fl c h t ∧ t.length = r) ∧ g__law_table A [.scr ns, .int k0, dRoom r c h] = some (.ret (sTab t)) := by
  have hr := M.r; have hc := M.c; have hh := M.h
  let ob : MS := (mSeq (mAppend (mpV 3) (mLst mNil)) (mKill [5, 6, 7, 8] (mFor (mRg1 (mCons (mOp fIx (mVar 2) (mC (.int 1))) mNil)) (mgName 5) (mBody A) [5, 6, 7, 8])))
  obtain ⟨ρ, h1, t, h2, h3, rfl⟩ := forGo_inv (s := true) (g := mgName 4) (body := ob) (ks := [4, 5, 6, 7, 8]) (items := rg 0 r) (ρ0 := ET k0 ns r c h [] .dead .dead .dead .dead .dead) (fun i ρ => ∃ t, t.length = i ∧ Fl c h t ∧ ρ = ET k0 ns r c h t .dead .dead .dead .dead .dead) ⟨[], rfl, .nil, rfl⟩ fun i d ρ hd hI => by
    obtain ⟨t, hx, F, rfl⟩ := hI
    obtain ⟨hi, rfl⟩ := rg_at hd
    subst hx
    obtain ⟨x, C, hx, hb⟩ := inner_ok (A := A) hk0 hns M F hi
    refine ⟨ET k0 ns r c h t (.sh (.int t.length)) .dead .dead .dead .dead, ET k0 ns r c h (t ++ [x]) (.sh (.int t.length)) .dead .dead .dead .dead, rfl, .inl ?_, t ++ [x], by simp, F.push C hx, rfl⟩
    refine mSeq_n (app_row k0 ns r c h t _ (by omega) (fun x => by simp)) ?_
    show mFor _ _ _ _ (ET k0 ns r c h (t ++ [[]]) (.sh (.int t.length)) .dead .dead .dead .dead) = _
    rw [mFor_eq (mRg1_eval (one (room_ix ET_room).2.1) rfl (by omega))]
    exact hb
  have hl : t.length = r := by rw [h2, rg0]; simp
  refine ⟨t, ⟨h3, hl⟩, ?_⟩
  refine run2 (ρ := ET k0 ns r c h [] .dead .dead .dead .dead .dead) ?_ ?_
  · simp [mSet, mLst, mNil, trees, R.slot, env0, ET, sTab]
  · show mSeq _ _ (ET k0 ns r c h [] .dead .dead .dead .dead .dead) = _
    have e : mFor (mRg1 (mCons (mOp fIx (mVar 2) (mC (.int 0))) mNil)) (mgName 4) ob [4, 5, 6, 7, 8] (ET k0 ns r c h [] .dead .dead .dead .dead .dead) = some (.nx (ET k0 ns r c h t .dead .dead .dead .dead .dead)) := by
      rw [mFor_eq (mRg1_eval (one (room_ix ET_room).1) rfl (by omega))]
      exact h1
    refine mSeq_n e ?_
    rfl
theorem table_ok {k0 : Nat} (hk0 : k0 ≤ 1000) {ns : List Int} (hns : ns.length ≤ 63) {r c h : Nat} (M : Rm r c h) : ∃ t, Tab r c h t ∧ g__law_table A [.scr ns, .int k0, dRoom r c h] = some (.ret (sTab t)) :=
  let ⟨t, ⟨h1, h2⟩, h3⟩ := table_fl hk0 hns M
  ⟨t, h1.tab h2, h3⟩
end My

set_option Elab.async false
set_option linter.all false
set_option maxRecDepth 100000
set_option maxHeartbeats 4000000
namespace My
open PySem PySem.Spec PyProof.Rows L2 DL
variable {A : Ad}
/-! loops, for many envs at once -/
inductive Go {ι : Type} (g : MG) (body : MS) (ks : List Nat) : List D → (ι → DL.Env) → (ι → DL.Env) → Prop
  | nil {ρ : ι → DL.Env} : Go g body ks [] ρ ρ
  | cons {d : D} {ds : List D} {ρ ρ1 ρ2 ρ' : ι → DL.Env} : (∀ v, g true d (ρ v) = some (ρ1 v)) → (∀ v, body (ρ1 v) = some (.nx (ρ2 v))) → Go g body ks ds (fun v => killE ks (ρ2 v)) ρ' → Go g body ks (d :: ds) ρ ρ'
theorem Go.run {ι : Type} {g : MG} {body : MS} {ks : List Nat} {ds : List D} {ρ ρ' : ι → DL.Env} (h : Go g body ks ds ρ ρ') (v : ι) : forGo true g body ks ds (ρ v) = some (.nx (ρ' v)) := by
  induction h with
  | nil => rfl
  | cons h1 h2 _ ih =>
    unfold forGo
    simp only [h1, h2]
    exact ih
theorem Go.append {ι : Type} {g : MG} {body : MS} {ks : List Nat} {ds es : List D} {ρ ρ1 ρ' : ι → DL.Env} (h : Go g body ks ds ρ ρ1) (h' : Go g body ks es ρ1 ρ') : Go g body ks (ds ++ es) ρ ρ' := by
  induction h with
  | nil => exact h'
  | cons h1 h2 _ ih => exact .cons h1 h2 (ih h')
theorem Go.flat {ι α : Type} {g : MG} {body : MS} {ks : List Nat} (Inv : Nat → (ι → DL.Env) → Prop) {L : List α} {f : α → List D} {ρ0 : ι → DL.Env} (h0 : Inv 0 ρ0)
    (step : ∀ k a ρ, L[k]? = some a → Inv k ρ → ∃ ρ', Go g body ks (f a) ρ ρ' ∧ Inv (k + 1) ρ') : ∃ ρ, Go g body ks (L.flatMap f) ρ0 ρ ∧ Inv L.length ρ := by
  induction L generalizing Inv ρ0 with
  | nil => exact ⟨ρ0, .nil, h0⟩
  | cons a as ih =>
    obtain ⟨ρ1, h1, h2⟩ := step 0 a ρ0 rfl h0
    obtain ⟨ρ, h4, h5⟩ := ih (fun i ρ => Inv (i + 1) ρ) h2 fun i d' ρ e hi => step (i + 1) d' ρ (by simpa using e) hi
    exact ⟨ρ, by rw [List.flatMap_cons]; exact h1.append h4, h5⟩
structure HS (r c : Nat) (f : Nat → Nat → Int) (u : List (List Int)) : Prop where
  len : u.length = r
  row : ∀ x ∈ u, x.length = c
  at_ : ∀ i j, i < r → j < c → at2 u i j = f i j
theorem HS.congr {r c : Nat} {f g : Nat → Nat → Int} {u : List (List Int)} (h : HS r c f u) (e : ∀ i j, i < r → j < c → f i j = g i j) : HS r c g u := ⟨h.len, h.row, fun i j hi hj => (h.at_ i j hi hj).trans (e i j hi hj)⟩
theorem HS.ext {r c h : Nat} {t u : List (List Int)} (T : Tab r c h t) (U : HS r c (at2 t) u) : u = t := by
  apply List.ext_getElem
  · rw [U.len, T.len]
  · intro i h1 h2
    have l1 := U.row _ (List.getElem_mem h1)
    have l2 := T.row _ (List.getElem_mem h2)
    apply List.ext_getElem
    · rw [l1, l2]
    · intro j h3 h4
      have := U.at_ i j (by rw [← U.len]; exact h1) (by rw [← l1]; exact h3)
      simpa [at2, h1, h2, h3, h4] using this
theorem HS.look {r c : Nat} {f : Nat → Nat → Int} {u : List (List Int)} (U : HS r c f u) {i j : Nat} (hi : i < r) (hj : j < c) : ∃ x, u[i]? = some x ∧ x.length = c ∧ x[j]? = some (f i j) := by
  have h1 : i < u.length := by rw [U.len]; exact hi
  have h2 := U.row _ (List.getElem_mem h1)
  have h3 : j < u[i].length := by rw [h2]; exact hj
  refine ⟨u[i], List.getElem?_eq_getElem h1, h2, ?_⟩
  rw [← U.at_ i j hi hj]
  simp [at2, h1, h3]
def put2 (u : List (List Int)) (i j : Nat) (v : Int) : List (List Int) := u.set i ((u.getD i []).set j v)
theorem HS.put {r c : Nat} {f : Nat → Nat → Int} {u : List (List Int)} (U : HS r c f u) {i j : Nat} (hi : i < r) (hj : j < c) (v : Int) : HS r c (fun i' j' => if i' = i ∧ j' = j then v else f i' j') (put2 u i j v) where
  len := by unfold put2; rw [List.length_set]; exact U.len
  row := fun x m => by
    unfold put2 at m
    rcases List.mem_or_eq_of_mem_set m with m | rfl
    · exact U.row x m
    · obtain ⟨y, h1, h2, _⟩ := U.look hi hj
      rw [List.length_set]; simp [h1, h2]
  at_ := fun i' j' hi' hj' => by
    have h1 : i < u.length := by rw [U.len]; exact hi
    have h2 := U.row _ (List.getElem_mem h1)
    have h3 : j < u[i].length := by rw [h2]; exact hj
    have hf := U.at_ i' j' hi' hj'
    unfold put2
    by_cases hii : i' = i
    · subst hii
      by_cases hjj : j' = j
      · subst hjj
        rw [if_pos ⟨rfl, rfl⟩]
        simp [at2, h1, h3]
      · rw [if_neg fun z => hjj z.2, ← hf]
        simp [at2, h1, List.getElem?_set_ne (Ne.symm hjj)]
    · rw [if_neg fun z => hii z.1, ← hf]
      simp [at2, List.getElem?_set_ne (Ne.symm hii)]
end My

set_option Elab.async false
set_option linter.all false
set_option maxRecDepth 100000
set_option maxHeartbeats 4000000
namespace My
open PySem PySem.Spec PyProof.Rows L2 DL
variable {A : Ad}
theorem mSet_z {i : Nat} {m : ME} {ρ : DL.Env} {z : R} {s : Sl} (h : m ρ = some z) (hs : z.slot = s) : mSet i m ρ = some (.nx (ρ.set i s)) := by simp [mSet, h, hs]
theorem mIf_t {c : MT} {a b : ME} {ρ : DL.Env} (h : c ρ = some true) : mIf c a b ρ = a ρ := by simp [mIf, h]
theorem mIf_f {c : MT} {a b : ME} {ρ : DL.Env} (h : c ρ = some false) : mIf c a b ρ = b ρ := by simp [mIf, h]
theorem fLt_ok {r q : R} {i j : Int} (h1 : r.data = .int i) (h2 : q.data = .int j) : fLt r q = some (.sh (.bl (decide (i < j)))) := by simp [fLt, flat2, h1, h2, gI]
theorem cut_take {α : Type} (xs : List α) (i : Nat) : cut xs none (some (i : Int)) = xs.take i := by
  unfold cut
  rw [show HT.sIx xs.length xs.length (some (i : Int)) = min i xs.length from HT.sIx_nat xs.length xs.length i, HT.sIx_none]
  simp
theorem cut_drop {α : Type} (xs : List α) (i : Nat) : cut xs (some (i : Int)) none = xs.drop i := by
  unfold cut
  rw [show HT.sIx xs.length 0 (some (i : Int)) = min i xs.length from HT.sIx_nat xs.length 0 i, HT.sIx_none]
  by_cases h : i ≤ xs.length
  · rw [Nat.min_eq_left h]; exact List.take_of_length_le (by simp)
  · rw [Nat.min_eq_right (by omega), List.drop_of_length_le (by omega), List.drop_of_length_le (by omega)]; simp
theorem fAdd_l {x y : R} {ns ms : List Int} (h1 : x.data = .lst (ns.map .int)) (h2 : y.data = .lst (ms.map .int)) (hl : ns.length + ms.length ≤ 100000) : fAdd x y = some (.tr (sRow (ns ++ ms))) := by
  simp only [fAdd, h1, h2]
  rw [if_pos (by simpa using hl), ← List.map_append]
  unfold newL
  rw [if_pos (imm_ints _), List.map_map]; rfl
theorem fMul_l {x y : R} {n : Int} {k : Nat} (h1 : x.data = .lst [.int n]) (h2 : y.data = .int k) (hk : k ≤ 100000) : fMul x y = some (.tr (sRow (List.replicate k n))) := by
  have e : (List.replicate k [D.int n]).flatten = (List.replicate k n).map .int := by
    simp [List.map_replicate, List.flatten_replicate_singleton]
  simp only [fMul, h1, h2]
  rw [if_pos ⟨by omega, by omega, by simp; omega⟩, Int.toNat_natCast, e]
  unfold newL
  rw [if_pos (imm_ints _), List.map_map]; rfl
theorem mLst_one {m : ME} {ρ : DL.Env} {n : Int} (h : m ρ = some (.sh (.int n))) : mLst (mCons m mNil) ρ = some (.tr (.own [.d (.int n)])) := by
  simp [mLst, mCons, mNil, h, trees, R.tree, imm]
theorem mCB_one {g : List D → Option R} {m : ME} {ρ : DL.Env} {x z : R} (h1 : m ρ = some x) (h3 : g [x.data] = some z) : mCB g (mCons m mNil) ρ = some z := by
  simp [mCB, mCons, mNil, h1, h3]
theorem Fl.hs {r c h : Nat} {t : List (List Int)} (F : Fl c h t) (hl : t.length = r) : HS r c (at2 t) t := ⟨hl, F.row, fun _ _ _ _ => rfl⟩
/-- a table of the room, by its places -/
structure Pw (r c h : Nat) (f : Nat → Nat → Int) : Prop where
  lo : ∀ i j, i < r → j < c → 0 ≤ f i j ∧ f i j ≤ (h : Int)
  rr : ∀ i j, i < r → j + 1 < c → f i (j + 1) ≤ f i j
  cc : ∀ i j, i + 1 < r → j < c → f (i + 1) j ≤ f i j
theorem Pw.fl {r c h : Nat} {f : Nat → Nat → Int} {t : List (List Int)} (P : Pw r c h f) (H : HS r c f t) : Fl c h t where
  row := H.row
  lo := fun i j hi hj => by rw [H.len] at hi; rw [H.at_ i j hi hj]; exact P.lo i j hi hj
  rr := fun i j hi hj => by rw [H.len] at hi; rw [H.at_ i j hi (by omega), H.at_ i _ hi hj]; exact P.rr i j hi hj
  cc := fun i j hi hj => by rw [H.len] at hi; rw [H.at_ i j (by omega) hj, H.at_ _ j hi hj]; exact P.cc i j hi hj
theorem Fl.pw {r c h : Nat} {t : List (List Int)} (F : Fl c h t) (hl : t.length = r) : Pw r c h (at2 t) where
  lo := fun i j hi hj => F.lo i j (by omega) hj
  rr := fun i j hi hj => F.rr i j (by omega) hj
  cc := fun i j hi hj => F.cc i j (by omega) hj
/-- what most says -/
theorem mostv_spec (t : List (List Int)) (h i j : Nat) (v : Int) : v ≤ mostv t h i j ↔ v ≤ h ∧ (0 < j → v ≤ at2 t i (j - 1)) ∧ (0 < i → v ≤ at2 t (i - 1) j) ∨ (v ≤ mostv t h i j ∧ False) := by
  unfold mostv
  by_cases h1 : 0 < j
  · by_cases h2 : 0 < i
    · simp only [if_pos h1, if_pos h2]; omega
    · simp only [if_pos h1, if_neg h2]; omega
  · by_cases h2 : 0 < i
    · simp only [if_neg h1, if_pos h2]; omega
    · simp only [if_neg h1, if_neg h2]; omega
theorem mostv_le {t : List (List Int)} {h i j : Nat} {v : Int} (hv : v ≤ mostv t h i j) : v ≤ h ∧ (0 < j → v ≤ at2 t i (j - 1)) ∧ (0 < i → v ≤ at2 t (i - 1) j) := by
  rcases (mostv_spec t h i j v).mp hv with z | z
  · exact z
  · exact z.2.elim
theorem Pw.le_most {r c h : Nat} {t : List (List Int)} (P : Pw r c h (at2 t)) {i j : Nat} (hi : i < r) (hj : j < c) : at2 t i j ≤ mostv t h i j := by
  rw [mostv_spec]
  refine .inl ⟨(P.lo i j hi hj).2, fun z => ?_, fun z => ?_⟩
  · have := P.rr i (j - 1) hi (by omega); rw [show j - 1 + 1 = j by omega] at this; exact this
  · have := P.cc (i - 1) j (by omega) hj; rw [show i - 1 + 1 = i by omega] at this; exact this
theorem fNe_int {r q : R} {i j : Int} (h1 : r.data = .int i) (h2 : q.data = .int j) : fNe r q = some (.sh (.bl (!decide (i = j)))) := by simp [fNe, flat2, h1, h2]
theorem mOr_f {a b : MT} {ρ : DL.Env} (h1 : a ρ = some false) (h2 : b ρ = some false) : mOr a b ρ = some false := by simp [mOr, h1, h2]
theorem mNot_t {a : MT} {ρ : DL.Env} (h1 : a ρ = some true) : mNot a ρ = some false := by simp [mNot, h1]
theorem isi_lst {m : ME} {ρ : DL.Env} {z : R} {ds : List D} (h : m ρ = some z) (hz : z.data = .lst ds) : mTst (mIsi "list" m) ρ = some true := by
  unfold mTst mIsi
  rw [h]
  simp only [Option.map_some, hz]
  simp (config := { decide := true }) [R.data, D.ty, isTy]
theorem mCB_1 {g : List D → Option R} {m : ME} {ρ : DL.Env} {x z : R} (h1 : m ρ = some x) (h3 : g [x.data] = some z) : mCB g (mCons m mNil) ρ = some z := by
  simp [mCB, mCons, mNil, h1, h3]
theorem four {ma mb mc md : ME} {ρ : DL.Env} {x y z w : R} (h1 : ma ρ = some x) (h2 : mb ρ = some y) (h3 : mc ρ = some z) (h4 : md ρ = some w) : mCons ma (mCons mb (mCons mc (mCons md mNil))) ρ = some [x, y, z, w] := by simp [mCons, mNil, h1, h2, h3, h4]
theorem most_hs {r c h : Nat} {u : List (List Int)} (U : HS r c (at2 u) u) {i j : Nat} (hi : i < r) (hj : j < c) : g__law_most A [dTab u, dRoom r c h, .int i, .int j] = some (.ret (.d (.int (mostv u h i j)))) := by
  refine most_ok (fun z => ?_) fun z => ?_
  · obtain ⟨y, k1, k2, _⟩ := U.look hi (show j - 1 < c by omega)
    exact ⟨y, k1, by omega⟩
  · obtain ⟨y, k1, k2, _⟩ := U.look (show i - 1 < r by omega) hj
    exact ⟨y, k1, by omega⟩
theorem cut_len {α : Type} (xs : List α) (a b : Option Int) : (cut xs a b).length ≤ xs.length := by
  unfold cut
  rw [List.length_take, List.length_drop]
  omega
theorem law_of_any (ns : List Int) (hl : ns.length ≤ 63) (k : Int) : ∃ v, g__law_of A [.scr ns, .int k] = some (.ret (.d (.int v))) := by
  generalize hz : cut ns (some k) (some (k + 1)) = zs
  have hzl : zs.length ≤ 63 := by rw [← hz]; exact Nat.le_trans (cut_len _ _ _) hl
  have e1 : mSl (mVar 0) (mPart (mVar 1)) (mPart (mOp fAdd (mVar 1) (mC (.int 1)))) [.sh (.scr ns), .sh (.int k)] = some (.tr (sRow zs)) := by
    have w0 : mVar 0 [.sh (.scr ns), .sh (.int k)] = some (.sh (.scr ns)) := rfl
    have w1 : mPart (mVar 1) [.sh (.scr ns), .sh (.int k)] = some (some k) := rfl
    have w2 : mPart (mOp fAdd (mVar 1) (mC (.int 1))) [.sh (.scr ns), .sh (.int k)] = some (some (k + 1)) := rfl
    unfold mSl
    rw [w0, w1, w2]
    simp only [R.data, fSl, hz, newL, imm_ints, if_true]
    rw [List.map_map]; rfl
  have e2 : mOp fAdd (mSl (mVar 0) (mPart (mVar 1)) (mPart (mOp fAdd (mVar 1) (mC (.int 1))))) (mLst (mCons (mC (.int 0)) mNil)) [.sh (.scr ns), .sh (.int k)] = some (.tr (sRow (zs ++ [0]))) :=
    mOp_eq e1 (mLst_one rfl) (fAdd_l (sRow_data _) (ms := [0]) rfl (by simp; omega))
  obtain ⟨v, hv⟩ : ∃ v, (zs ++ [0])[0]? = some v := ⟨(zs ++ [0])[0]'(by simp), List.getElem?_eq_getElem _⟩
  have e3 : mOp fIx (mOp fAdd (mSl (mVar 0) (mPart (mVar 1)) (mPart (mOp fAdd (mVar 1) (mC (.int 1))))) (mLst (mCons (mC (.int 0)) mNil))) (mC (.int 0)) [.sh (.scr ns), .sh (.int k)] = some (.vw (.int v)) :=
    mOp_eq e2 rfl (fIx_tr (i := 0) (sRow_data _) (by simp only [List.getElem?_map, hv, Option.map_some]))
  refine ⟨v, run1 ?_⟩
  show mRet _ [.sh (.scr ns), .sh (.int k)] = _
  simp [mRet, e3, R.tree, imm]
theorem wh_run {mt : MT} {body : MS} {ks : List Nat} (E : Nat → DL.Env) {p : Nat} (hc : ∀ k, k < p → mt (E k) = some true) (hb : ∀ k, k < p → ∃ ρ, body (E k) = some (.nx ρ) ∧ killE ks ρ = E (k + 1)) (he : mt (E p) = some false) :
    ∀ (m k n : Nat), k + m = p → m < n → whGo mt body ks n (E k) = some (.nx (E p)) := by
  intro m
  induction m with
  | zero =>
    intro k n hk hn
    cases n with
    | zero => omega
    | succ n =>
      rw [Nat.add_zero] at hk; subst hk
      unfold whGo
      simp only [he]
  | succ m ih =>
    intro k n hk hn
    cases n with
    | zero => omega
    | succ n =>
      obtain ⟨ρ, h1, h2⟩ := hb k (by omega)
      unfold whGo
      simp only [hc k (by omega), h1, h2]
      exact ih (k + 1) n (by omega) (by omega)
theorem mCall_t {n : Nat} {g : List D → Option FO} {ms : MA} {ρ : DL.Env} {rs : List R} {ss : List S} (h1 : ms ρ = some rs) (hn : rs.length = n) (h2 : g (rs.map R.data) = some (.ret (.own ss))) : mCall n g ms ρ = some (.tr (.own ss)) := by
  unfold mCall
  simp [h1, hn, h2, retR]
theorem two {ma mb : ME} {ρ : DL.Env} {x y : R} (h1 : ma ρ = some x) (h2 : mb ρ = some y) : mCons ma (mCons mb mNil) ρ = some [x, y] := by simp [mCons, mNil, h1, h2]
theorem three {ma mb mc : ME} {ρ : DL.Env} {x y z : R} (h1 : ma ρ = some x) (h2 : mb ρ = some y) (h3 : mc ρ = some z) : mCons ma (mCons mb (mCons mc mNil)) ρ = some [x, y, z] := by simp [mCons, mNil, h1, h2, h3]
theorem mLst_3 {ma mb mc : ME} {ρ : DL.Env} {x y z : Int} (h1 : ma ρ = some (.sh (.int x))) (h2 : mb ρ = some (.sh (.int y))) (h3 : mc ρ = some (.sh (.int z))) : mLst (mCons ma (mCons mb (mCons mc mNil))) ρ = some (.tr (sRow [x, y, z])) := by
  simp [mLst, mCons, mNil, h1, h2, h3, trees, R.tree, imm, sRow]
theorem mRg2_eval {ma mb : ME} {ρ : DL.Env} {x y : R} {i n : Nat} (h1 : ma ρ = some x) (h2 : mb ρ = some y) (d1 : x.data = .int i) (d2 : y.data = .int ((i + n : Nat) : Int)) (hn : i + n ≤ 1000000) : mRg2 (mCons ma (mCons mb mNil)) ρ = some (true, rg i n) := by
  unfold mRg2
  rw [two h1 h2]
  simp only [List.map_cons, List.map_nil, d1, d2]
  rw [if_pos (by omega), show (((i + n : Nat) : Int) - i).toNat = n by omega]
theorem gInt_b (b : Bool) : gInt [.bl b] = some (.sh (.int (if b then 1 else 0))) := rfl
theorem mAnd_t {a b : MT} {ρ : DL.Env} {v : Bool} (h1 : a ρ = some true) (h2 : b ρ = some v) : mAnd a b ρ = some v := by simp [mAnd, h1, h2]
theorem HS.self {r c h : Nat} {f : Nat → Nat → Int} {u : List (List Int)} (P : Pw r c h f) (H : HS r c f u) : HS r c (at2 u) u ∧ Pw r c h (at2 u) ∧ Tab r c h u := by
  have F := P.fl H
  exact ⟨F.hs H.len, F.pw H.len, F.tab H.len⟩
/-- a place may be raised to what most says -/
theorem Pw.raise {r c h : Nat} {t : List (List Int)} (P : Pw r c h (at2 t)) {i j : Nat} (hi : i < r) (hj : j < c) {v : Int} (h0 : at2 t i j ≤ v) (hv : v ≤ mostv t h i j) : Pw r c h (fun i' j' => if i' = i ∧ j' = j then v else at2 t i' j') where
  lo := fun i' j' hi' hj' => by
    have := P.lo i j hi hj
    have := mostv_le hv
    have := P.lo i' j' hi' hj'
    by_cases e : i' = i ∧ j' = j
    · simp only [if_pos e]; omega
    · simp only [if_neg e]; omega
  rr := fun i' j' hi' hj' => by
    have k1 := P.rr i' j' hi' hj'
    have k2 := (mostv_le hv).2.1
    by_cases e1 : i' = i ∧ j' + 1 = j
    · obtain ⟨rfl, rfl⟩ := e1
      have := k2 (by omega)
      rw [show j' + 1 - 1 = j' by omega] at this
      rw [if_pos ⟨rfl, rfl⟩, if_neg (show ¬ (i' = i' ∧ j' = j' + 1) by omega)]; exact this
    · by_cases e2 : i' = i ∧ j' = j
      · obtain ⟨rfl, rfl⟩ := e2
        rw [if_neg e1, if_pos ⟨rfl, rfl⟩]; omega
      · rw [if_neg e1, if_neg e2]; exact k1
  cc := fun i' j' hi' hj' => by
    have k1 := P.cc i' j' hi' hj'
    have k2 := (mostv_le hv).2.2
    by_cases e1 : i' + 1 = i ∧ j' = j
    · obtain ⟨rfl, rfl⟩ := e1
      have := k2 (by omega)
      rw [show i' + 1 - 1 = i' by omega] at this
      rw [if_pos ⟨rfl, rfl⟩, if_neg (show ¬ (i' = i' + 1 ∧ j' = j') by omega)]; exact this
    · by_cases e2 : i' = i ∧ j' = j
      · obtain ⟨rfl, rfl⟩ := e2
        rw [if_neg e1, if_pos ⟨rfl, rfl⟩]; omega
      · rw [if_neg e1, if_neg e2]; exact k1
theorem setIx_tab {ρ : DL.Env} {u : List (List Int)} {r c : Nat} {f : Nat → Nat → Int} (U : HS r c f u) {q i j : Nat} {mi mj me : ME} {y1 y2 z : R} {v : Int} (hq : ρ[q]? = some (.tr (sTab u))) (h1 : mi ρ = some y1) (d1 : y1.data = .int i) (h2 : mj ρ = some y2) (d2 : y2.data = .int j) (h3 : me ρ = some z) (d3 : z.tree = some (.d (.int v))) (hi : i < r) (hj : j < c) :
    mSetIx (mpIx (mpV q) mi) mj me ρ = some (.nx ((killVw ρ).set q (.tr (sTab (put2 u i j v))))) := by
  obtain ⟨x, hx1, hx2, hx3⟩ := U.look hi hj
  have hiu : i < u.length := by rw [U.len]; exact hi
  have w5 : mpV q ρ = some (q, []) := by unfold mpV; rw [hq]; rfl
  have p : mpIx (mpV q) mi ρ = some (q, [i]) := by
    have n1 : nodeAt ρ q [] = some (u.map sRow) := by unfold nodeAt; rw [hq]; rfl
    have k1 : ixN (u.map sRow).length i = some i := by rw [tab_len]; simp [ixN, hiu]
    have k2 : (u.map sRow)[i]? = some (sRow x) := by simp [hx1]
    unfold mpIx
    rw [w5, h1]
    simp only [n1, d1, k1, k2]
    rfl
  have gp : S.get [i] (sTab u) = some (.own (x.map fun n => .d (.int n))) := by
    have k2 : (u.map sRow)[i]? = some (sRow x) := by simp [hx1]
    simp only [S.get, sTab, k2]; rfl
  have k3 : ixN (x.map fun n => S.d (.int n)).length j = some j := by rw [List.length_map]; simp [ixN, hx2, hj]
  have pp : S.put (.own ((x.map fun n => S.d (.int n)).set j (.d (.int v)))) [i] (sTab u) = sTab (put2 u i j v) := by
    have k2 : (u.map sRow)[i]? = some (sRow x) := by simp [hx1]
    simp only [S.put, sTab, k2, put2, List.map_set]
    congr 2
    simp [sRow, hx1, List.map_set]
  unfold mSetIx
  rw [p, h2, h3]
  simp only [hq, d2, d3, gp, k3, pp]
end My

set_option Elab.async false
set_option linter.all false
set_option maxRecDepth 100000
set_option maxHeartbeats 4000000
namespace My
open PySem PySem.Spec PyProof.Rows L2 DL
variable {A : Ad}
local macro_rules | `(tactic| walk_at "ev") => `(tactic| simp (config := { decide := true }) [runF, env0, outF, mRet, mRetV, mAndV, mOrV, mTst, mIsi, mVar, mNotV, R.data, R.tree, R.slot, R.fixed, D.ty, isTy, imm, immL, mSeq, mIfS, mOr, mNot, mAnd, mOp, mCB, gLen, gMin, gMax, mCons, mNil, mC, fNe, fEq, fSub, fDiv, fMod, fAdd, fMul, fLt, fLe, fGt, fGe, flat2, gI, gIC, fIx, mNext, mSet, mIf, mCall, retR, mNeg, mCh, mLst, mTup, trees, S.data, S.dataL])
theorem is_num (i : Int) : g__law_is_number A [.int i] = some (.ret (.d (.bl true))) := by
  simp only [g__law_is_number, m__law_is_number]
  walk_at "ev"
def EG (r c h : Nat) (u : List (List Int)) (a b d : Sl) : DL.Env := [.sh (dTab u), .sh (dRoom r c h), a, b, d]
def gIn (A : Ad) : MS := (mSeq (mSet 4 (mOp fIx (mOp fIx (mVar 0) (mVar 2)) (mVar 3)))
    (mSeq (mIfS (mOr (mNot (mTst (mCall 1 (g__law_is_number A) (mCons (mVar 4) mNil)))) (mTst (mOp fLt (mVar 4) (mC (.int 0))))) (mRet (mC (.bl false))) mNext)
    (mIfS (mTst (mOp fGt (mVar 4) (mCall 4 (g__law_most A) (mCons (mVar 0) (mCons (mVar 1) (mCons (mVar 2) (mCons (mVar 3) mNil))))))) (mRet (mC (.bl false))) mNext)))
theorem gin_ok {r c h : Nat} {u : List (List Int)} (U : HS r c (at2 u) u) (P : Pw r c h (at2 u)) {i j : Nat} (hi : i < r) (hj : j < c) : gIn A (EG r c h u (.sh (.int i)) (.sh (.int j)) .dead) = some (.nx (EG r c h u (.sh (.int i)) (.sh (.int j)) (.sh (.int (at2 u i j))))) := by
  obtain ⟨x, h1, h2, h3⟩ := U.look hi hj
  have e1 : mSet 4 (mOp fIx (mOp fIx (mVar 0) (mVar 2)) (mVar 3)) (EG r c h u (.sh (.int i)) (.sh (.int j)) .dead) = some (.nx (EG r c h u (.sh (.int i)) (.sh (.int j)) (.sh (.int (at2 u i j))))) := by
    obtain ⟨z1, q1, q2, _⟩ := mIx (ma := mVar 0) (mb := mVar 2) (ρ := EG r c h u (.sh (.int i)) (.sh (.int j)) .dead) rfl rfl (ds := u.map dRow) rfl (i := i) rfl (d := dRow x) (by simp [h1])
    obtain ⟨z2, q3, q4, q5⟩ := mIx (mb := mVar 3) q1 rfl q2 (i := j) rfl (d := .int (at2 u i j)) (by simp [h3])
    exact mSet_z q3 (q5 rfl)
  refine mSeq_n e1 ?_
  have k := P.lo i j hi hj
  have e2 : mIfS (mOr (mNot (mTst (mCall 1 (g__law_is_number A) (mCons (mVar 4) mNil)))) (mTst (mOp fLt (mVar 4) (mC (.int 0))))) (mRet (mC (.bl false))) mNext (EG r c h u (.sh (.int i)) (.sh (.int j)) (.sh (.int (at2 u i j)))) = some (.nx (EG r c h u (.sh (.int i)) (.sh (.int j)) (.sh (.int (at2 u i j))))) := by
    have q1 : mCall 1 (g__law_is_number A) (mCons (mVar 4) mNil) (EG r c h u (.sh (.int i)) (.sh (.int j)) (.sh (.int (at2 u i j)))) = some (.sh (.bl true)) := mCall_d (rs := [.sh (.int (at2 u i j))]) (one rfl) rfl (is_num _)
    have q2 : mOp fLt (mVar 4) (mC (.int 0)) (EG r c h u (.sh (.int i)) (.sh (.int j)) (.sh (.int (at2 u i j)))) = some (.sh (.bl false)) := mOp_eq rfl rfl ((fLt_ok rfl rfl).trans (by rw [decide_eq_false (by omega)]))
    rw [mIfS_f (mOr_f (mNot_t (mTst_b q1)) (mTst_b q2))]; rfl
  refine mSeq_n e2 ?_
  have q3 : mCall 4 (g__law_most A) (mCons (mVar 0) (mCons (mVar 1) (mCons (mVar 2) (mCons (mVar 3) mNil)))) (EG r c h u (.sh (.int i)) (.sh (.int j)) (.sh (.int (at2 u i j)))) = some (.sh (.int (mostv u h i j))) :=
    mCall_d (rs := [.sh (dTab u), .sh (dRoom r c h), .sh (.int i), .sh (.int j)]) (four rfl rfl rfl rfl) rfl (most_hs U hi hj)
  have k2 := P.le_most hi hj
  have q4 : mOp fGt (mVar 4) (mCall 4 (g__law_most A) (mCons (mVar 0) (mCons (mVar 1) (mCons (mVar 2) (mCons (mVar 3) mNil))))) (EG r c h u (.sh (.int i)) (.sh (.int j)) (.sh (.int (at2 u i j)))) = some (.sh (.bl false)) := mOp_eq rfl q3 ((fGt_ok rfl rfl).trans (by rw [decide_eq_false (by omega)]))
  rw [mIfS_f (mTst_b q4)]; rfl
theorem good_ok {r c h : Nat} {u : List (List Int)} (M : Rm r c h) (U : HS r c (at2 u) u) (P : Pw r c h (at2 u)) : g__law_good A [dTab u, dRoom r c h] = some (.ret (.d (.bl true))) := by
  have hr := M.r; have hc := M.c
  let E := EG r c h u .dead .dead .dead
  refine run2 (ρ := E) ?_ ?_
  · show mIfS _ _ _ E = _
    have q1 : mOp fNe (mCB gLen (mCons (mVar 0) mNil)) (mOp fIx (mVar 1) (mC (.int 0))) E = some (.sh (.bl false)) := by
      have : mCB gLen (mCons (mVar 0) mNil) E = some (.sh (.int r)) := mCB_1 (x := .sh (dTab u)) rfl (by simp [R.data, dTab, gLen, U.len])
      exact mOp_eq this (room_ix (k := 1) (r := r) (c := c) (h := h) rfl).1 ((fNe_int rfl rfl).trans (by simp))
    rw [mIfS_f (mOr_f (mNot_t (isi_lst (z := .sh (dTab u)) rfl rfl)) (mTst_b q1))]; rfl
  let ob : MS := (mSeq (mIfS (mOr (mNot (mTst (mIsi "list" (mOp fIx (mVar 0) (mVar 2))))) (mTst (mOp fNe (mCB gLen (mCons (mOp fIx (mVar 0) (mVar 2)) mNil)) (mOp fIx (mVar 1) (mC (.int 1)))))) (mRet (mC (.bl false))) mNext)
    (mKill [3, 4] (mFor (mRg1 (mCons (mOp fIx (mVar 1) (mC (.int 1))) mNil)) (mgName 3) (gIn A) [3, 4])))
  obtain ⟨ρ, h1, rfl⟩ := forGo_inv (s := true) (g := mgName 2) (body := ob) (ks := [2, 3, 4]) (items := rg 0 r) (ρ0 := E) (fun _ ρ => ρ = E) rfl fun i d ρ hd hI => by
    subst hI
    obtain ⟨hi, rfl⟩ := rg_at hd
    refine ⟨EG r c h u (.sh (.int i)) .dead .dead, EG r c h u (.sh (.int i)) .dead .dead, rfl, .inl ?_, rfl⟩
    obtain ⟨x, k1, k2, _⟩ := U.look hi (show 0 < c by omega)
    obtain ⟨z1, q1, q2, _⟩ := mIx (ma := mVar 0) (mb := mVar 2) (ρ := EG r c h u (.sh (.int i)) .dead .dead) rfl rfl (ds := u.map dRow) rfl (i := i) rfl (d := dRow x) (by simp [k1])
    have q3 : mOp fNe (mCB gLen (mCons (mOp fIx (mVar 0) (mVar 2)) mNil)) (mOp fIx (mVar 1) (mC (.int 1))) (EG r c h u (.sh (.int i)) .dead .dead) = some (.sh (.bl false)) := by
      have : mCB gLen (mCons (mOp fIx (mVar 0) (mVar 2)) mNil) (EG r c h u (.sh (.int i)) .dead .dead) = some (.sh (.int c)) := mCB_1 q1 (by rw [q2]; simp [dRow, gLen, k2])
      exact mOp_eq this (room_ix (k := 1) (r := r) (c := c) (h := h) rfl).2.1 ((fNe_int rfl rfl).trans (by simp))
    refine mSeq_n (ρ1 := EG r c h u (.sh (.int i)) .dead .dead) ?_ ?_
    · rw [mIfS_f (mOr_f (mNot_t (isi_lst q1 q2)) (mTst_b q3))]; rfl
    · show mFor _ _ _ _ (EG r c h u (.sh (.int i)) .dead .dead) = _
      rw [mFor_eq (mRg1_eval (one (room_ix (k := 1) (r := r) (c := c) (h := h) rfl).2.1) rfl (by omega))]
      obtain ⟨ρ', k3, rfl⟩ := forGo_inv (s := true) (g := mgName 3) (body := gIn A) (ks := [3, 4]) (items := rg 0 c) (ρ0 := EG r c h u (.sh (.int i)) .dead .dead) (fun _ ρ => ρ = EG r c h u (.sh (.int i)) .dead .dead) rfl fun j d ρ hd hI => by
        subst hI
        obtain ⟨hj, rfl⟩ := rg_at hd
        exact ⟨EG r c h u (.sh (.int i)) (.sh (.int j)) .dead, _, rfl, .inl (gin_ok U P hi hj), rfl⟩
      exact k3
  have e : mFor (mRg1 (mCons (mOp fIx (mVar 1) (mC (.int 0))) mNil)) (mgName 2) ob [2, 3, 4] E = some (.nx E) := by
    rw [mFor_eq (mRg1_eval (one (room_ix (k := 1) (r := r) (c := c) (h := h) rfl).1) rfl (by omega))]
    exact h1
  exact mSeq_n e (mRet_d rfl rfl)
end My

set_option Elab.async false
set_option linter.all false
set_option maxRecDepth 100000
set_option maxHeartbeats 4000000
namespace My
open PySem PySem.Spec PyProof.Rows L2 DL
variable {A : Ad}
/-! ### texts as codes -/
def tx (l : List Nat) : Str := ⟨l.toArray⟩
theorem tx_len (l : List Nat) : (tx l).length = l.length := by simp [tx, Str.length]
theorem tx_add (a b : List Nat) : tx a ++ tx b = tx (a ++ b) := by
  show Str.append (tx a) (tx b) = _
  simp [tx, Str.append]
theorem tx_e : Str.ofString "" = tx [] := by decide
theorem tx_r : Str.ofString "r" = tx [114] := by decide
theorem tx_d : Str.ofString "d" = tx [100] := by decide
theorem tx_rd : Str.ofString "rd" = tx [114, 100] := by decide
theorem foldl_tx (a : List Nat) : ∀ (k : Nat) (b : List Nat), (List.replicate k a.toArray).foldl (· ++ ·) b.toArray = (b ++ (List.replicate k a).flatten).toArray
  | 0, b => by simp
  | k + 1, b => by
    rw [List.replicate_succ, List.foldl_cons]
    have : b.toArray ++ a.toArray = (b ++ a).toArray := by simp
    rw [this, foldl_tx a k (b ++ a)]
    simp [List.replicate_succ]
theorem tx_mul (l : List Nat) (k : Int) : Txt.mul (tx l) k = tx (List.replicate k.toNat l).flatten := by
  unfold Txt.mul
  split
  · have : k.toNat = 0 := by omega
    rw [this]; rfl
  · split
    · rename_i h1 h2
      simp only [Bool.or_eq_true, beq_iff_eq] at h2
      rcases h2 with h2 | h2
      · subst h2; simp
      · rw [tx_len] at h2
        have : l = [] := List.eq_nil_of_length_eq_zero h2
        subst this; simp
    · have := foldl_tx l k.toNat []
      simp only [List.nil_append] at this
      show (⟨_⟩ : Str) = ⟨_⟩
      congr 1
theorem tx_inj {a b : List Nat} (h : tx a = tx b) : a = b := by
  have := congrArg (fun s : Str => s.cps.toList) h
  simpa [tx] using this
theorem sgn_tx (l : List Nat) : sgn (tx l) = l.map fun c => .str (tx [c]) := by simp [sgn, tx]
theorem imm_str {x : Str} : imm (.str x) = true := by simp [imm]
/-! equality of texts, and of lists of such -/
theorem eqv_str (a b : List Nat) : D.eqv (.str (tx a)) (.str (tx b)) = decide (a = b) := by
  by_cases h : a = b
  · subst h
    simp [D.eqv, D.py, PyData.eqv]
  · have : tx a ≠ tx b := fun z => h (tx_inj z)
    simp [D.eqv, D.py, PyData.eqv, h, this]
def small (a : List Nat) : Prop := ∀ c ∈ a, c < 1114112
theorem strOk_tx {a : List Nat} (h : small a) : PyData.strOk (tx a) = true := by
  unfold PyData.strOk tx
  simp only [List.all_toArray]
  rw [List.all_eq_true]
  intro c m
  exact decide_eq_true (h c m)
theorem ok_str {a : List Nat} (h : small a) : (D.str (tx a)).ok = true := by
  unfold D.ok SeqAt.shaped
  simp [D.py, PyData.canLay0, PyData.depth, strOk_tx h]
theorem gEq_str (neg : Bool) {a b : List Nat} (h1 : small a) (h2 : small b) : gEq neg (.str (tx a)) (.str (tx b)) = some (.bl (if neg = true then !decide (a = b) else decide (a = b))) := by
  unfold gEq
  rw [ok_str h1, ok_str h2, eqv_str]; rfl
def dTx (l : List (List Nat)) : D := .lst (l.map fun a => .str (tx a))
def sTx (l : List (List Nat)) : S := .own (l.map fun a => .d (.str (tx a)))
theorem sTx_data (l : List (List Nat)) : (sTx l).data = dTx l := by
  unfold sTx dTx
  simp [S.data, S.dataL_map, Function.comp_def]
theorem ok_txs {l : List (List Nat)} (h : ∀ a ∈ l, small a) : (dTx l).ok = true := by
  have h1 : ∀ l : List (List Nat), (∀ a ∈ l, small a) → PyData.canLayAll0 (D.pyL (l.map fun a => D.str (tx a))) = true ∧ PyData.depthAll (D.pyL (l.map fun a => D.str (tx a))) ≤ 1 := by
    intro l
    induction l with
    | nil => intro _; simp [D.pyL, PyData.canLayAll0, PyData.depthAll]
    | cons a l ih =>
      intro h
      obtain ⟨i1, i2⟩ := ih fun b m => h b (List.mem_cons_of_mem _ m)
      simp only [List.map_cons, D.pyL, PyData.canLayAll0, PyData.depthAll, D.py, PyData.canLay0, PyData.depth, strOk_tx (h a List.mem_cons_self), i1, Bool.and_self, true_and]
      show max 0 _ ≤ 1
      omega
  obtain ⟨i1, i2⟩ := h1 l h
  unfold D.ok SeqAt.shaped dTx
  simp only [D.py, PyData.canLay0, PyData.depth, i1, Bool.true_and]
  exact decide_eq_true (by omega)
theorem gEq_txs (neg : Bool) {a b : List (List Nat)} (h1 : ∀ x ∈ a, small x) (h2 : ∀ x ∈ b, small x) : gEq neg (dTx a) (dTx b) = some (.bl (if neg = true then !decide (a = b) else decide (a = b))) := by
  unfold gEq
  rw [ok_txs h1, ok_txs h2]
  have : D.eqv (dTx a) (dTx b) = decide (a = b) := eqv_lst eqv_str a b
  rw [this]; rfl
/-! operations -/
theorem fAdd_s {x y : R} {a b : List Nat} (h1 : x.data = .str (tx a)) (h2 : y.data = .str (tx b)) (hl : a.length + b.length ≤ 100000) : fAdd x y = some (.sh (.str (tx (a ++ b)))) := by
  simp only [fAdd, h1, h2, tx_len]
  rw [if_pos hl, tx_add]
theorem fMul_s {x y : R} {k : Int} {c : Nat} (h1 : x.data = .str (tx [c])) (h2 : y.data = .int k) (h0 : 0 ≤ k) (hk : k ≤ 100000) : fMul x y = some (.sh (.str (tx (List.replicate k.toNat c)))) := by
  simp only [fMul, h1, h2, tx_len]
  rw [if_pos ⟨h0, hk, by simp⟩, tx_mul]
  congr 4
  rw [List.flatten_replicate_singleton]
theorem fEq_s {x y : R} {a b : List Nat} (h1 : x.data = .str (tx a)) (h2 : y.data = .str (tx b)) (s1 : small a) (s2 : small b) : fEq x y = some (.sh (.bl (decide (a = b)))) := by
  simp [fEq, flat2, h1, h2, gEq_str false s1 s2]
end My

set_option Elab.async false
set_option linter.all false
set_option maxRecDepth 100000
set_option maxHeartbeats 4000000
namespace My
open PySem PySem.Spec PyProof.Rows L2 DL
variable {A : Ad}
def laneB : Int → List Int → List Nat
  | _, [] => []
  | a, n :: r => List.replicate (a - n).toNat 100 ++ 114 :: laneB n r
def lastN : Int → List Int → Int
  | a, [] => a
  | _, n :: r => lastN n r
def laneC (a : Int) (ns : List Int) : List Nat := laneB a ns ++ List.replicate (lastN a ns).toNat 100
def Rw : Int → List Int → Prop
  | a, [] => 0 ≤ a
  | a, n :: r => n ≤ a ∧ Rw n r
theorem Rw.nn : ∀ {a : Int} {ns : List Int}, Rw a ns → 0 ≤ a
  | _, [], h => h
  | _, n :: r, h => Int.le_trans (Rw.nn h.2) h.1
theorem laneB_snoc : ∀ (a : Int) (xs : List Int) (n : Int), laneB a (xs ++ [n]) = laneB a xs ++ (List.replicate (lastN a xs - n).toNat 100 ++ [114])
  | a, [], n => by simp [laneB, lastN]
  | a, x :: xs, n => by
    have := laneB_snoc x xs n
    simp [laneB, lastN, this]
theorem lastN_snoc : ∀ (a : Int) (xs : List Int) (n : Int), lastN a (xs ++ [n]) = n
  | a, [], n => rfl
  | a, x :: xs, n => lastN_snoc x xs n
theorem lastN_take : ∀ (a : Int) (ns : List Int) (i : Nat), i ≤ ns.length → (a :: ns)[i]? = some (lastN a (ns.take i))
  | a, ns, 0, _ => by simp [lastN]
  | a, [], i + 1, h => by simp at h
  | a, n :: ns, i + 1, h => by
    have := lastN_take n ns i (by simpa using h)
    simpa [lastN] using this
theorem Rw.step : ∀ {a : Int} {ns : List Int} {i : Nat} {n : Int}, Rw a ns → ns[i]? = some n → 0 ≤ n ∧ n ≤ lastN a (ns.take i) ∧ lastN a (ns.take i) ≤ a
  | a, [], i, n, h, e => by simp at e
  | a, m :: ns, 0, n, h, e => by
    simp at e; subst e
    exact ⟨h.2.nn, by simpa [lastN] using h.1, by simp [lastN]⟩
  | a, m :: ns, i + 1, n, h, e => by
    have := Rw.step (i := i) (n := n) h.2 (by simpa using e)
    refine ⟨this.1, by simpa [lastN] using this.2.1, ?_⟩
    have h2 := this.2.2
    have h1 := h.1
    show lastN m (ns.take i) ≤ a
    omega
theorem lastN_le : ∀ {a : Int} {ns : List Int}, Rw a ns → 0 ≤ lastN a ns ∧ lastN a ns ≤ a
  | a, [], h => ⟨h, Int.le_refl _⟩
  | a, n :: r, h => by
    have := lastN_le h.2
    have h1 := h.1
    refine ⟨this.1, ?_⟩
    show lastN n r ≤ a
    omega
theorem laneC_len : ∀ {a : Int} {ns : List Int}, Rw a ns → (laneC a ns).length = ns.length + a.toNat
  | a, [], h => by simp [laneC, laneB, lastN]
  | a, n :: r, h => by
    have ih := laneC_len h.2
    have h0 := h.2.nn
    have h1 := h.1
    simp only [laneC, List.length_append, List.length_replicate] at ih
    simp only [laneC, laneB, lastN, List.length_append, List.length_cons, List.length_replicate]
    omega
theorem laneB_len {a : Int} {ns : List Int} (h : Rw a ns) : (laneB a ns).length ≤ ns.length + a.toNat := by
  rw [← laneC_len h]; simp [laneC]
theorem laneB_rd : ∀ (a : Int) (ns : List Int), ∀ c ∈ laneB a ns, c = 114 ∨ c = 100
  | a, [], c, m => by cases m
  | a, n :: r, c, m => by
    simp only [laneB, List.mem_append, List.mem_replicate, List.mem_cons] at m
    rcases m with m | m | m
    · exact .inr m.2
    · exact .inl m
    · exact laneB_rd n r c m
theorem laneC_rd (a : Int) (ns : List Int) : ∀ c ∈ laneC a ns, c = 114 ∨ c = 100 := by
  intro c m
  rcases List.mem_append.mp m with m | m
  · exact laneB_rd a ns c m
  · exact .inr (List.mem_replicate.mp m).2
theorem rd_small {l : List Nat} (h : ∀ c ∈ l, c = 114 ∨ c = 100) : small l := fun c m => by rcases h c m with z | z <;> omega
def EM (ns : List Int) (h : Int) (l : List Nat) (s3 : Sl) : DL.Env := [.sh (dRow ns), .sh (.int h), .sh (.str (tx l)), s3]
def lmBody : MS := (mSet 2 (mOp fAdd (mOp fAdd (mVar 2) (mOp fMul (mC (.str (PySem.Str.ofString "d"))) (mOp fSub (mOp fIx (mOp fAdd (mLst (mCons (mVar 1) mNil)) (mVar 0)) (mVar 3)) (mOp fIx (mVar 0) (mVar 3))))) (mC (.str (PySem.Str.ofString "r")))))
theorem lmBody_ok {ns : List Int} {h : Int} {l : List Nat} {i : Nat} {a n : Int} (ha : (h :: ns)[i]? = some a) (hn : ns[i]? = some n) (h0 : 0 ≤ a - n) (h1 : a - n ≤ 1000) (hl : l.length ≤ 10000) (hns : ns.length ≤ 1000) :
    lmBody (EM ns h l (.sh (.int i))) = some (.nx (EM ns h (l ++ (List.replicate (a - n).toNat 100 ++ [114])) (.sh (.int i)))) := by
  unfold lmBody
  rw [tx_d, tx_r]
  have q1 : mOp fAdd (mLst (mCons (mVar 1) mNil)) (mVar 0) (EM ns h l (.sh (.int i))) = some (.tr (sRow ([h] ++ ns))) :=
    mOp_eq (mLst_one (n := h) rfl) rfl (fAdd_l (ns := [h]) (ms := ns) rfl rfl (by simp; omega))
  obtain ⟨z1, p1, p2, _⟩ := mIx (mb := mVar 3) (i := i) q1 rfl (sRow_data _) rfl (d := .int a) (by rw [List.getElem?_map]; simp [ha])
  obtain ⟨z2, p3, p4, _⟩ := mIx (ma := mVar 0) (mb := mVar 3) (ρ := EM ns h l (.sh (.int i))) (i := i) rfl rfl (ds := ns.map .int) rfl rfl (d := .int n) (by rw [List.getElem?_map, hn]; rfl)
  have e1 : mOp fMul (mC (.str (tx [100]))) (mOp fSub (mOp fIx (mOp fAdd (mLst (mCons (mVar 1) mNil)) (mVar 0)) (mVar 3)) (mOp fIx (mVar 0) (mVar 3))) (EM ns h l (.sh (.int i))) = some (.sh (.str (tx (List.replicate (a - n).toNat 100)))) :=
    mOp_eq rfl (mOp_eq p1 p3 (fSub_ok p2 p4)) (fMul_s rfl rfl h0 (by omega))
  have e2 := mOp_eq (ma := mVar 2) (ρ := EM ns h l (.sh (.int i))) rfl e1 (fAdd_s (a := l) rfl rfl (by simp; omega))
  have e3 := mOp_eq (mb := mC (.str (tx [114]))) e2 rfl (fAdd_s (b := [114]) rfl rfl (by simp; omega))
  rw [List.append_assoc] at e3
  exact mSet_d e3
theorem atI_last {α : Type} {xs : List α} {x : α} (h : xs.getLast? = some x) : atI xs (-1) = some x := by
  have hne : xs ≠ [] := fun z => by subst z; cases h
  have hl : 0 < xs.length := List.length_pos_iff.mpr hne
  rw [List.getLast?_eq_getElem?] at h
  have e : ixN xs.length (-1) = some (xs.length - 1) := by
    unfold ixN
    rw [if_neg (by decide), if_pos (by omega)]
    congr 1
    omega
  simp [atI, e, h]
theorem lastN_last : ∀ {a : Int} {ns : List Int}, ns ≠ [] → ns.getLast? = some (lastN a ns)
  | a, [], h => (h rfl).elim
  | a, [n], _ => rfl
  | a, n :: m :: r, _ => by
    rw [List.getLast?_cons_cons]
    exact lastN_last (a := n) (by simp)
theorem lawLane_ok {h : Int} {ns : List Int} (Q : Rw h ns) (hh : h ≤ 1000) (hl : ns.length ≤ 1000) (hne : ns ≠ []) : g__law_lane A [dRow ns, .int h] = some (.ret (.d (.str (tx (laneC h ns))))) := by
  have R' := Q.nn
  refine run2 (ρ := EM ns h [] .dead) (by rw [tx_e]; rfl) ?_
  obtain ⟨ρ, h1, rfl⟩ := forGo_inv (s := true) (g := mgName 3) (body := lmBody) (ks := [3]) (items := rg 0 ns.length) (ρ0 := EM ns h [] .dead) (fun i ρ => ρ = EM ns h (laneB h (ns.take i)) .dead) rfl fun i d ρ hd hI => by
    subst hI
    obtain ⟨hi, rfl⟩ := rg_at hd
    have hn : ns[i]? = some ns[i] := List.getElem?_eq_getElem hi
    have ha := lastN_take h ns i (by omega)
    have st := Q.step hn
    have lb : (laneB h (ns.take i)).length ≤ 10000 := by
      have : ∀ (a : Int) (xs : List Int) (k : Nat), Rw a xs → Rw a (xs.take k) := by
        intro a xs
        induction xs generalizing a with
        | nil => intro k r; simpa using r
        | cons x xs ih =>
          intro k r
          cases k with
          | zero => exact r.nn
          | succ k => exact ⟨r.1, ih x k r.2⟩
      have := laneB_len (this h ns i Q)
      rw [List.length_take] at this
      omega
    refine ⟨EM ns h (laneB h (ns.take i)) (.sh (.int i)), _, rfl, .inl (lmBody_ok ha hn (by omega) (by omega) lb hl), ?_⟩
    rw [← laneB_snoc]
    have : ns.take i ++ [ns[i]] = ns.take (i + 1) := (List.take_succ_eq_append_getElem hi).symm
    rw [this]; rfl
  rw [show (rg 0 ns.length).length = ns.length by rw [rg0]; simp, List.take_length] at h1
  have e : mFor (mRg1 (mCons (mCB gLen (mCons (mVar 0) mNil)) mNil)) (mgName 3) lmBody [3] (EM ns h [] .dead) = some (.nx (EM ns h (laneB h ns) .dead)) := by
    rw [mFor_eq (mRg1_eval (n := ns.length) (one (mCB_1 (x := .sh (dRow ns)) (z := .sh (.int ns.length)) rfl (by simp [R.data, dRow, gLen]))) rfl (by omega))]
    exact h1
  show mSeq (mFor _ _ lmBody _) _ (EM ns h [] .dead) = _
  refine mSeq_n e (mRet_d ?_ imm_str)
  rw [tx_d]
  have b1 := laneB_len Q
  have b2 := lastN_le Q
  have q : mOp fIx (mVar 0) (mNeg (mC (.int 1))) (EM ns h (laneB h ns) .dead) = some (.sh (.int (lastN h ns))) := by
    refine mOp_eq (x := .sh (dRow ns)) (y := .sh (.int (-1))) rfl rfl ?_
    have := atI_last (xs := ns.map D.int) (x := .int (lastN h ns)) (by rw [List.getLast?_map, lastN_last (a := h) hne]; rfl)
    simp [fIx, dRow, R.data, this]
  have e1 := mOp_eq (ma := mC (.str (tx [100]))) (f := fMul) rfl q (fMul_s (c := 100) rfl rfl b2.1 (by omega))
  exact mOp_eq (ma := mVar 2) rfl e1 (fAdd_s (a := laneB h ns) rfl rfl (by simp; omega))
end My

set_option Elab.async false
set_option linter.all false
set_option maxRecDepth 100000
set_option maxHeartbeats 4000000
namespace My
open PySem PySem.Spec PyProof.Rows L2 DL
variable {A : Ad}
def dq (p : Int × Int) : D := .tup [.int p.1, .int p.2]
def sSp (ps : List (Int × Int)) : S := .own (ps.map fun p => .d (dq p))
def dSp (ps : List (Int × Int)) : D := .lst (ps.map dq)
theorem sSp_data (ps : List (Int × Int)) : (sSp ps).data = dSp ps := by
  unfold sSp dSp
  simp [S.data, S.dataL_map, Function.comp_def]
def stp (c : Nat) (p : Int × Int) : Int × Int := if c = 114 then (p.1 + 1, p.2) else (p.1, p.2 - 1)
def walk : Int × Int → List Nat → List (Int × Int)
  | _, [] => []
  | p, c :: l => stp c p :: walk (stp c p) l
def goal : Int × Int → List Nat → Int × Int
  | p, [] => p
  | p, c :: l => goal (stp c p) l
theorem walk_len : ∀ (p : Int × Int) (l : List Nat), (walk p l).length = l.length
  | _, [] => rfl
  | p, c :: l => by simp [walk, walk_len (stp c p) l]
theorem imm_dq (p : Int × Int) : imm (dq p) = true := by simp [dq, imm, immL]
theorem appV_ok {ρ : DL.Env} {q : Nat} {ss : List S} {me : ME} {z : R} {t : S} (hq : ρ[q]? = some (.tr (.own ss))) (h3 : me ρ = some z) (d3 : z.tree = some t) (hl : ss.length < 100000) :
    mAppend (mpV q) me ρ = some (.nx ((killVw ρ).set q (.tr (.own (ss ++ [t]))))) := by
  have w5 : mpV q ρ = some (q, []) := by unfold mpV; rw [hq]
  unfold mAppend
  simp only [w5, h3, hq, d3, S.get]
  rw [if_pos hl]
  rfl
theorem mTup2 {ma mb : ME} {ρ : DL.Env} {x y : R} {i j : Int} (h1 : ma ρ = some x) (h2 : mb ρ = some y) (d1 : x.data = .int i) (d2 : y.data = .int j) : mTup (mCons ma (mCons mb mNil)) ρ = some (.sh (dq (i, j))) := by
  unfold mTup
  rw [two h1 h2]
  simp [d1, d2, immL, imm, dq]
theorem checkRoom_ok {r c h : Nat} (M : Rm r c h) : g_check_room A [dRoom r c h] = some (.ret (.d .non)) := by
  have := is_room_ok (A := A) (r := r) (c := c) (h := h) (by have := M.r; omega) (by have := M.c; omega) (by have := M.h; omega)
  simp [g_check_room, m_check_room, runF, env0, mIfS, mNot, mTst, mCall, mCons, mVar, mNil, R.data, dRoom, this, retR, mNext, outF]
def EY (s0 : Sl) (ps : List (Int × Int)) (s4 s5 : Sl) : DL.Env := [s0, .dead, .dead, .tr (sSp ps), s4, s5]
def lsBody : MS := (mSeq (mSet 5 (mOp fAdd (mOp fIx (mOp fIx (mVar 3) (mNeg (mC (.int 1)))) (mC (.int 0))) (mCB gInt (mCons (mOp fEq (mVar 4) (mC (.str (PySem.Str.ofString "r")))) mNil))))
    (mAppend (mpV 3) (mTup (mCons (mVar 5) (mCons (mOp fSub (mOp fIx (mOp fIx (mVar 3) (mNeg (mC (.int 1)))) (mC (.int 1))) (mCB gInt (mCons (mOp fEq (mVar 4) (mC (.str (PySem.Str.ofString "d")))) mNil))) mNil)))))
theorem last_ix {s0 s4 s5 : Sl} {ps : List (Int × Int)} {p : Int × Int} (hp : ps.getLast? = some p) :
    ∃ x y, mOp fIx (mOp fIx (mVar 3) (mNeg (mC (.int 1)))) (mC (.int 0)) (EY s0 ps s4 s5) = some x ∧ x.data = .int p.1 ∧ mOp fIx (mOp fIx (mVar 3) (mNeg (mC (.int 1)))) (mC (.int 1)) (EY s0 ps s4 s5) = some y ∧ y.data = .int p.2 := by
  have q : mOp fIx (mVar 3) (mNeg (mC (.int 1))) (EY s0 ps s4 s5) = some (.vw (dq p)) := by
    refine mOp_eq (x := .vw (sSp ps).data) (y := .sh (.int (-1))) rfl rfl ?_
    have := atI_last (xs := ps.map dq) (x := dq p) (by rw [List.getLast?_map, hp]; rfl)
    rw [sSp_data]
    simp [fIx, dSp, R.data, this]
  refine ⟨.vw (.int p.1), .vw (.int p.2), mOp_eq q rfl ?_, rfl, mOp_eq q rfl ?_, rfl⟩
  · simp [fIx, dq, R.data, atI, ixN]
  · simp [fIx, dq, R.data, atI, ixN]
theorem lsBody_ok {s0 : Sl} (hs0 : killVw [s0] = [s0]) {ps : List (Int × Int)} {p : Int × Int} {c : Nat} (hc : c = 114 ∨ c = 100) (hp : ps.getLast? = some p) (hl : ps.length ≤ 10000) :
    ∃ v, lsBody (EY s0 ps (.sh (.str (tx [c]))) .dead) = some (.nx (EY s0 (ps ++ [stp c p]) (.sh (.str (tx [c]))) v)) := by
  refine ⟨.sh (.int (stp c p).1), ?_⟩
  unfold lsBody
  rw [tx_r, tx_d]
  have tr : ∀ (s5 : Sl) (b : Nat), b < 1000 → mOp fEq (mVar 4) (mC (.str (tx [b]))) (EY s0 ps (.sh (.str (tx [c]))) s5) = some (.sh (.bl (decide (c = b)))) := fun s5 b hb => by
    have := mOp_eq (ma := mVar 4) (mb := mC (.str (tx [b]))) (ρ := EY s0 ps (.sh (.str (tx [c]))) s5) rfl rfl (fEq_s (a := [c]) (b := [b]) rfl rfl (by intro x m; simp at m; rcases hc with z | z <;> omega) (by intro x m; simp at m; omega))
    rw [this]; simp
  obtain ⟨x, _, q1, q2, _, _⟩ := last_ix (s0 := s0) (s4 := .sh (.str (tx [c]))) (s5 := .dead) hp
  have e5 : mSet 5 (mOp fAdd (mOp fIx (mOp fIx (mVar 3) (mNeg (mC (.int 1)))) (mC (.int 0))) (mCB gInt (mCons (mOp fEq (mVar 4) (mC (.str (tx [114])))) mNil))) (EY s0 ps (.sh (.str (tx [c]))) .dead) = some (.nx (EY s0 ps (.sh (.str (tx [c]))) (.sh (.int (stp c p).1)))) := by
    have : (stp c p).1 = p.1 + (if decide (c = 114) = true then 1 else 0) := by
      unfold stp
      by_cases h : c = 114 <;> simp [h]
    rw [this]
    exact mSet_d (mOp_eq q1 (mCB_1 (tr _ 114 (by omega)) (gInt_b _)) (fAdd_ok q2 rfl))
  refine mSeq_n e5 ?_
  obtain ⟨_, y, _, _, q3, q4⟩ := last_ix (s0 := s0) (s4 := .sh (.str (tx [c]))) (s5 := .sh (.int (stp c p).1)) hp
  have hy : (stp c p).2 = p.2 - (if decide (c = 100) = true then 1 else 0) := by
    unfold stp
    rcases hc with h | h <;> simp [h]
  have e6 := mTup2 (ma := mVar 5) (ρ := EY s0 ps (.sh (.str (tx [c]))) (.sh (.int (stp c p).1))) (i := (stp c p).1) rfl (mOp_eq q3 (mCB_1 (tr _ 100 (by omega)) (gInt_b _)) (fSub_ok q4 rfl)) rfl rfl
  rw [← hy] at e6
  rw [appV_ok (q := 3) (ss := ps.map fun p => .d (dq p)) rfl e6 (t := .d (dq (stp c p))) (by simp [R.tree, imm_dq]) (by simp; omega)]
  congr 2
  simp only [killVw, List.map_cons, List.map_nil] at hs0
  simp only [EY, killVw, List.map_cons, List.map_nil, sSp, List.map_append]
  injection hs0 with hs0 _
  rw [hs0]
  rfl
theorem ls_go {s0 : Sl} (hs0 : killVw [s0] = [s0]) : ∀ (l : List Nat) (p : Int × Int) (ps : List (Int × Int)), (∀ c ∈ l, c = 114 ∨ c = 100) → ps.getLast? = some p → ps.length + l.length ≤ 10000 →
    forGo true (mgName 4) lsBody [4, 5] (l.map fun c => .str (tx [c])) (EY s0 ps .dead .dead) = some (.nx (EY s0 (ps ++ walk p l) .dead .dead)) := by
  intro l
  induction l with
  | nil => intro p ps _ _ _; simp [forGo, walk]
  | cons c l ih =>
    intro p ps hs hp hl
    rw [List.length_cons] at hl
    rw [List.map_cons]
    unfold forGo
    have g : mgName 4 true (.str (tx [c])) (EY s0 ps .dead .dead) = some (EY s0 ps (.sh (.str (tx [c]))) .dead) := rfl
    obtain ⟨v, hv⟩ := lsBody_ok hs0 (hs c List.mem_cons_self) hp (by omega)
    have k : ∀ qs, killE [4, 5] (EY s0 qs (.sh (.str (tx [c]))) v) = EY s0 qs .dead .dead := fun _ => rfl
    simp only [g, hv, k]
    rw [ih (stp c p) (ps ++ [stp c p]) (fun x m => hs x (List.mem_cons_of_mem _ m)) (by simp) (by simp; omega)]
    simp [walk]
theorem lawSpots_ok {l : List Nat} (hs : ∀ c ∈ l, c = 114 ∨ c = 100) (hl : l.length ≤ 5000) (s h : Int) : g__law_spots A [.str (tx l), .int s, .int h] = some (.ret (sSp ((s, s + h) :: walk (s, s + h) l))) := by
  have e3 : mSet 3 (mLst (mCons (mTup (mCons (mVar 1) (mCons (mOp fAdd (mVar 1) (mVar 2)) mNil))) mNil)) [.sh (.str (tx l)), .sh (.int s), .sh (.int h), .dead, .dead, .dead] = some (.nx [.sh (.str (tx l)), .sh (.int s), .sh (.int h), .tr (sSp [(s, s + h)]), .dead, .dead]) := by
    refine mSet_z (z := .tr (sSp [(s, s + h)])) ?_ rfl
    have := mTup2 (ma := mVar 1) (mb := mOp fAdd (mVar 1) (mVar 2)) (ρ := [.sh (.str (tx l)), .sh (.int s), .sh (.int h), .dead, .dead, .dead]) (i := s) (j := s + h) rfl (mOp_eq rfl rfl (fAdd_ok rfl rfl)) rfl rfl
    simp [mLst, one this, trees, R.tree, imm_dq, sSp]
  refine run2 e3 ?_
  show mSeq (mFor _ _ lsBody _) _ (EY (.sh (.str (tx l))) [(s, s + h)] .dead .dead) = _
  have e6 : mFor (mIL (mVar 0)) (mgName 4) lsBody [4, 5] (EY (.sh (.str (tx l))) [(s, s + h)] .dead .dead) = some (.nx (EY (.sh (.str (tx l))) ([(s, s + h)] ++ walk (s, s + h) l) .dead .dead)) := by
    rw [mFor_eq (items := l.map fun c => .str (tx [c])) (by simp [mIL, mVar, EY, R.data, sgn_tx])]
    exact ls_go rfl l (s, s + h) _ hs rfl (by simp; omega)
  refine mSeq_n e6 ?_
  simp [mRetV, EY]
end My

set_option Elab.async false
set_option linter.all false
set_option maxRecDepth 100000
set_option maxHeartbeats 4000000
namespace My
open PySem PySem.Spec PyProof.Rows L2 DL
variable {A : Ad}
def Fc : Int → Int → List Int → Nat
  | _, _, [] => 0
  | b, t, n :: r => (if b - n < t then 1 else 0) + Fc (b + 1) t r
theorem Fc_shift : ∀ (ns : List Int) (b t k : Int), Fc (b + k) (t + k) ns = Fc b t ns
  | [], _, _, _ => rfl
  | n :: r, b, t, k => by
    have ih := Fc_shift r (b + 1) t k
    unfold Fc
    rw [show b + k + 1 = b + 1 + k by omega, ih]
    congr 1
    by_cases h : b - n < t
    · rw [if_pos h, if_pos (by omega)]
    · rw [if_neg h, if_neg (by omega)]
theorem Fc_zero : ∀ {ns : List Int} {n b t : Int}, Rw n ns → t ≤ b - n → Fc b t ns = 0
  | [], _, _, _, _, _ => rfl
  | m :: r, n, b, t, h, hb => by
    have h1 := h.1
    unfold Fc
    rw [if_neg (by omega), Fc_zero h.2 (by omega)]
theorem cnt_lane : ∀ {ns : List Int} {a : Int} (i : Nat), Rw a ns → ((laneC a ns).take i).count 114 = Fc a i ns
  | [], a, i, h => by
    simp only [laneC, laneB, lastN, List.nil_append, Fc, List.take_replicate]
    rw [List.count_replicate]; simp
  | n :: r, a, i, h => by
    have h1 := h.1
    have e : laneC a (n :: r) = List.replicate (a - n).toNat 100 ++ 114 :: laneC n r := by simp [laneC, laneB, lastN]
    rw [e]
    unfold Fc
    by_cases hi : (i : Int) ≤ a - n
    · rw [if_neg (by omega), Fc_zero h.2 (by omega)]
      rw [List.take_append_of_le_length (by simp; omega), List.take_replicate, List.count_replicate]
      simp
    · rw [if_pos (by omega)]
      have hk : i = (a - n).toNat + ((i - (a - n).toNat - 1) + 1) := by omega
      have ih := cnt_lane (i - (a - n).toNat - 1) h.2
      have hs := Fc_shift r n ((i - (a - n).toNat - 1 : Nat) : Int) (a + 1 - n)
      rw [show n + (a + 1 - n) = a + 1 by omega, show ((i - (a - n).toNat - 1 : Nat) : Int) + (a + 1 - n) = i by omega] at hs
      rw [hs, ← ih]
      conv => lhs; rw [hk]
      have hl : (List.replicate (a - n).toNat 100).length = (a - n).toNat := by simp
      rw [List.take_append, hl, List.take_of_length_le (by rw [hl]; omega), Nat.add_sub_cancel_left, List.take_succ_cons, List.count_append, List.count_cons, List.count_replicate]
      simp; omega
def LeR : List Int → List Int → Prop
  | [], [] => True
  | m :: ms, n :: ns => m ≤ n ∧ LeR ms ns
  | _, _ => False
theorem Fc_mono : ∀ {ms ns : List Int} {b t : Int}, LeR ms ns → Fc b t ms ≤ Fc b t ns
  | [], [], _, _, _ => Nat.le_refl _
  | m :: ms, n :: ns, b, t, h => by
    have ih := Fc_mono (b := b + 1) (t := t) h.2
    have h1 := h.1
    unfold Fc
    by_cases hm : b - m < t
    · rw [if_pos hm, if_pos (by omega)]; omega
    · rw [if_neg hm]; omega
  | [], _ :: _, _, _, h => h.elim
  | _ :: _, [], _, _, h => h.elim
theorem leR_of : ∀ {ms ns : List Int}, ms.length = ns.length → (∀ (j : Nat) (m n : Int), ms[j]? = some m → ns[j]? = some n → m ≤ n) → LeR ms ns
  | [], [], _, _ => trivial
  | m :: ms, n :: ns, hl, h => ⟨h 0 m n rfl rfl, leR_of (by simpa using hl) fun j a b h1 h2 => h (j + 1) a b (by simpa using h1) (by simpa using h2)⟩
  | [], _ :: _, hl, _ => by simp at hl
  | _ :: _, [], hl, _ => by simp at hl
theorem rw_of : ∀ {ns : List Int} {a : Int}, 0 ≤ a → (∀ n ∈ ns, 0 ≤ n) → (∀ n, ns[0]? = some n → n ≤ a) → (∀ j n m, ns[j]? = some n → ns[j + 1]? = some m → m ≤ n) → Rw a ns
  | [], a, h, _, _, _ => h
  | n :: r, a, h, h0, h1, h2 => ⟨h1 n rfl, rw_of (h0 n List.mem_cons_self) (fun m x => h0 m (List.mem_cons_of_mem _ x)) (fun m x => h2 0 n m rfl (by simpa using x)) fun j x y e1 e2 => h2 (j + 1) x y (by simpa using e1) (by simpa using e2)⟩
theorem walk_at : ∀ {l : List Nat} {p q : Int × Int} {i : Nat}, (p :: walk p l)[i]? = some q → q.1 = p.1 + ((l.take i).count 114 : Nat) ∧ q.1 - q.2 = p.1 - p.2 + i
  | l, p, q, 0, h => by
    simp at h; subst h; simp
  | [], p, q, i + 1, h => by simp [walk] at h
  | c :: l, p, q, i + 1, h => by
    have := walk_at (l := l) (p := stp c p) (q := q) (i := i) (by simpa [walk] using h)
    rw [List.take_succ_cons, List.count_cons]
    unfold stp at this
    by_cases hc : c = 114
    · rw [if_pos hc] at this
      subst hc
      simp only [BEq.rfl, if_true] at this ⊢
      omega
    · rw [if_neg hc] at this
      have : (c == 114) = false := by simpa using hc
      rw [this]
      simp only [Bool.false_eq_true, if_false]
      omega
theorem walk_nd {l : List Nat} {p : Int × Int} : (p :: walk p l).Nodup := by
  rw [List.nodup_iff_pairwise_ne, List.pairwise_iff_getElem]
  intro i j hi hj hij e
  have h1 := (walk_at (List.getElem?_eq_getElem hi)).2
  have h2 := (walk_at (List.getElem?_eq_getElem hj)).2
  rw [← e] at h2
  omega
theorem Fl.rw_at {c h : Nat} {t : List (List Int)} (F : Fl c h t) {x : List Int} {i : Nat} (hx : t[i]? = some x) : Rw h x := by
  have hi : i < t.length := (List.getElem?_eq_some_iff.mp hx).1
  have hm : x ∈ t := List.mem_of_getElem? hx
  have hl := F.row x hm
  have hv : ∀ j n, x[j]? = some n → at2 t i j = n := fun j n e => by simp [at2, hx, e]
  refine rw_of (by omega) (fun n m => ?_) (fun n e => ?_) (fun j n m e1 e2 => ?_)
  · obtain ⟨j, hj, rfl⟩ := List.mem_iff_getElem.mp m
    have := F.lo i j hi (by omega)
    rw [hv j _ (List.getElem?_eq_getElem hj)] at this
    exact this.1
  · have hj := (List.getElem?_eq_some_iff.mp e).1
    have := F.lo i 0 hi (by omega)
    rw [hv 0 _ e] at this
    exact this.2
  · have hj := (List.getElem?_eq_some_iff.mp e2).1
    have := F.rr i j hi (by omega)
    rw [hv _ _ e1, hv _ _ e2] at this
    exact this
theorem Fl.col {c h : Nat} {t : List (List Int)} (F : Fl c h t) {j : Nat} (hj : j < c) : ∀ {d i : Nat}, i + d < t.length → at2 t (i + d) j ≤ at2 t i j := by
  intro d
  induction d with
  | zero => intro i _; exact Int.le_refl _
  | succ d ih =>
    intro i hi
    have h1 := ih (i := i) (by omega)
    have h2 := F.cc (i + d) j (by omega) hj
    exact Int.le_trans h2 h1
def spk (t : List (List Int)) (r h k : Nat) : List (Int × Int) := ((r : Int) - 1 - k, (r : Int) - 1 - k + h) :: walk ((r : Int) - 1 - k, (r : Int) - 1 - k + h) (laneC h (t.getD k []))
theorem no_meet {r c h : Nat} {t : List (List Int)} (F : Fl c h t) (hl : t.length = r) {k m : Nat} (hk : k < m) (hm : m < r) {q : Int × Int} (h1 : q ∈ spk t r h k) (h2 : q ∈ spk t r h m) : False := by
  obtain ⟨i, hi⟩ := List.getElem?_of_mem h1
  obtain ⟨j, hj⟩ := List.getElem?_of_mem h2
  have a1 := walk_at hi
  have a2 := walk_at hj
  have hij : i = j := by
    have := a1.2; have := a2.2; omega
  subst hij
  have e1 : t[k]? = some (t.getD k []) := by
    have : k < t.length := by omega
    simp [List.getElem?_eq_getElem this]
  have e2 : t[m]? = some (t.getD m []) := by
    have : m < t.length := by omega
    simp [List.getElem?_eq_getElem this]
  generalize t.getD k [] = x at a1 e1
  generalize t.getD m [] = y at a2 e2
  have hx := F.row x (List.mem_of_getElem? e1)
  have hy := F.row y (List.mem_of_getElem? e2)
  have L : LeR y x := by
    refine leR_of (by omega) fun j b a g1 g2 => ?_
    have hj := (List.getElem?_eq_some_iff.mp g1).1
    have := F.col (j := j) (by omega) (d := m - k) (i := k) (by omega)
    rw [show k + (m - k) = m by omega] at this
    simpa [at2, e1, e2, g1, g2] using this
  have b1 := a1.1
  have b2 := a2.1
  rw [cnt_lane i (F.rw_at e1)] at b1
  rw [cnt_lane i (F.rw_at e2)] at b2
  have := Fc_mono (b := (h : Int)) (t := (i : Int)) L
  omega
theorem ok_dq (p : Int × Int) : (dq p).ok = true := ok_flt (n := 1) (by
  show fltL 0 [.int p.1, .int p.2] = true
  exact fltL_all fun d m => by
    rcases List.mem_cons.mp m with rfl | m
    · exact flt_int
    · rcases List.mem_cons.mp m with rfl | m
      · exact flt_int
      · cases m) (by decide)
theorem eqv_dq (p q : Int × Int) : D.eqv (dq p) (dq q) = decide (p = q) := by
  have := eqv_tup (f := D.int) eqv_int [p.1, p.2] [q.1, q.2]
  refine this.trans ?_
  obtain ⟨a, b⟩ := p
  obtain ⟨x, y⟩ := q
  simp
theorem gEq_dq (neg : Bool) (p q : Int × Int) : gEq neg (dq p) (dq q) = some (.bl (if neg = true then !decide (p = q) else decide (p = q))) := by
  unfold gEq
  rw [ok_dq, ok_dq, eqv_dq]; rfl
end My

set_option Elab.async false
set_option linter.all false
set_option maxRecDepth 100000
set_option maxHeartbeats 4000000
namespace My
open PySem PySem.Spec PyProof.Rows L2 DL
variable {A : Ad}
def rowOf : D → List Int
  | .lst ds => ds.map fun d => match d with | .int i => i | _ => 0
  | _ => []
theorem rowOf_row (x : List Int) : rowOf (dRow x) = x := by
  unfold rowOf dRow
  simp [Function.comp_def]
def kq (p : Int × Int) : List Key := [.inl p.1, .inl p.2]
theorem kq_inj {p q : Int × Int} (h : kq p = kq q) : p = q := by
  obtain ⟨a, b⟩ := p
  obtain ⟨x, y⟩ := q
  simpa [kq] using h
structure Seen (kvs : List (List Key × V)) (L : List (Int × Int)) : Prop where
  new : ∀ p, p ∉ L → valV kvs (kq p) = none
  len : kvs.length ≤ L.length
theorem Seen.put {kvs : List (List Key × V)} {L : List (Int × Int)} (s : Seen kvs L) {p : Int × Int} (hp : p ∉ L) (v : V) : Seen (putK kvs (kq p) v) (L ++ [p]) where
  new := fun q hq => by
    rw [valV_put, if_neg (fun z => hq (by rw [kq_inj z]; simp))]
    exact s.new q fun m => hq (List.mem_append_left _ m)
  len := by
    have := s.len
    rw [putK_new v (s.new p hp)]; simpa using this
theorem laneC_small (a : Int) (x : List Int) : small (laneC a x) := rd_small (laneC_rd a x)
end My

set_option Elab.async false
set_option linter.all false
set_option maxRecDepth 100000
set_option maxHeartbeats 4000000
namespace My
open PySem PySem.Spec PyProof.Rows L2 DL
variable {A : Ad}
/-! how many signs of one kind -/
open StrLaws (occBody occ_eq subAt_one) in
theorem occ_size (x : Str) (c limit : Nat) : ∀ (n k : Nat) (st : Array Nat × Nat), st.2 ≤ k → st.1.size + n ≤ limit →
    (forIn (List.range' k n) st (occBody x ⟨#[c]⟩ x.length limit)).run.fst.size = st.1.size + ((List.range' k n).filter fun i => decide (x.cps.toList[i]? = some c)).length
  | 0, k, st, _, _ => by simp
  | n + 1, k, st, h1, h2 => by
    rw [List.range'_succ, List.forIn_cons]
    have hk := subAt_one x c k
    by_cases hc : x.cps.toList[k]? = some c
    · obtain ⟨q1, q2⟩ := hk.mpr hc
      have e : occBody x ⟨#[c]⟩ x.length limit k st = pure (ForInStep.yield (st.1.push k, k + 1)) := by
        unfold occBody
        rw [if_pos ⟨⟨⟨by omega, h1⟩, q1⟩, q2⟩]; rfl
      rw [e]
      have ih := occ_size x c limit n (k + 1) (st.1.push k, k + 1) (Nat.le_refl _) (by simp; omega)
      rw [List.filter_cons_of_pos (p := fun i => decide (x.cps.toList[i]? = some c)) (decide_eq_true hc), List.length_cons]
      refine Eq.trans ih ?_
      simp; omega
    · have e : occBody x ⟨#[c]⟩ x.length limit k st = pure (ForInStep.yield (st.1, st.2)) := by
        unfold occBody
        rw [if_neg fun z => hc (hk.mp ⟨z.1.2, z.2⟩)]
      rw [e]
      have ih := occ_size x c limit n (k + 1) (st.1, st.2) (by show st.2 ≤ k + 1; omega) (by show st.1.size + n ≤ limit; omega)
      rw [List.filter_cons_of_neg (p := fun i => decide (x.cps.toList[i]? = some c)) (by simpa using hc)]
      exact ih
theorem filt_count (c : Nat) : ∀ l : List Nat, ((List.range l.length).filter fun i => decide (l[i]? = some c)).length = l.count c
  | [] => rfl
  | a :: l => by
    have ih := filt_count c l
    rw [List.length_cons, List.range_succ_eq_map, List.filter_cons, List.filter_map, List.count_cons]
    have e : ((List.range l.length).filter ((fun i => decide ((a :: l)[i]? = some c)) ∘ Nat.succ)).length = l.count c := by
      rw [← ih]; rfl
    by_cases h : a = c
    · subst h
      simp only [List.getElem?_cons_zero, decide_true, if_true, List.length_cons, List.length_map, e, beq_self_eq_true]
    · have h2 : ¬ (some a = some c) := fun z => h (Option.some.inj z)
      have h3 : (a == c) = false := by simpa using h
      simp only [List.getElem?_cons_zero, decide_eq_false h2, h3, Bool.false_eq_true, if_false, List.length_map, e, Nat.add_zero]
open StrLaws (occBody occ_eq subAt_one) in
theorem count_tx (l : List Nat) (c : Nat) : Txt.count (tx l) (tx [c]) = (l.count c : Nat) := by
  have h := occ_size (tx l) c ((tx l).length + 1) ((tx l).length + 1 - 0) 0 (#[], 0) (Nat.le_refl _) (by show 0 + ((tx l).length + 1 - 0) ≤ _; omega)
  unfold Txt.count
  have e : (Builtin.Str.occurrences (tx l) (tx [c]) 0 (tx l).length ((tx l).length + 1)).length = l.count c := by
    show (Builtin.Str.occurrences (tx l) ⟨#[c]⟩ 0 (tx l).length ((tx l).length + 1)).length = l.count c
    have e2 : ∀ i ∈ List.range l.length, decide ((tx l).cps.toList[i]? = some c) = decide (l[i]? = some c) := fun i _ => by
      rw [decide_eq_decide]; simp [tx]
    rw [occ_eq, Array.length_toList, h, tx_len, ← filt_count c l]
    show 0 + _ = _
    rw [Nat.zero_add, Nat.sub_zero, ← List.range_eq_range', List.range_succ, List.filter_append, List.length_append]
    have : ([l.length].filter fun i => decide ((tx l).cps.toList[i]? = some c)) = [] := by
      rw [List.filter_cons_of_neg, List.filter_nil]
      simp [tx]
    rw [this, List.filter_congr e2]
    rfl
  rw [e]
/-! the row whose lane this is -/
def rowL : Int → List Nat → List Int
  | _, [] => []
  | a, x :: l => if x = 114 then a :: rowL a l else rowL (a - 1) l
theorem rowL_d : ∀ (k : Nat) (a : Int) (l : List Nat), rowL a (List.replicate k 100 ++ l) = rowL (a - k) l
  | 0, a, l => by simp
  | k + 1, a, l => by
    rw [List.replicate_succ, List.cons_append]
    show (if (100 : Nat) = 114 then _ else rowL (a - 1) (List.replicate k 100 ++ l)) = _
    rw [if_neg (by decide), rowL_d k]
    congr 1
    omega
theorem rowL_lane : ∀ {a : Int} {ns : List Int}, Rw a ns → rowL a (laneC a ns) = ns
  | a, [], h => by
    show rowL a ([] ++ List.replicate _ 100) = _
    have := rowL_d (lastN a []).toNat a []
    rw [List.append_nil] at this
    rw [List.nil_append, this]; rfl
  | a, n :: ns, h => by
    have ih := rowL_lane h.2
    have hn := h.1
    have e : laneC a (n :: ns) = List.replicate (a - n).toNat 100 ++ (114 :: laneC n ns) := by
      show (List.replicate (a - n).toNat 100 ++ 114 :: laneB n ns) ++ List.replicate (lastN n ns).toNat 100 = _
      rw [List.append_assoc]; rfl
    rw [e, rowL_d, show a - ((a - n).toNat : Int) = n by omega]
    show (if (114 : Nat) = 114 then n :: rowL n (laneC n ns) else _) = _
    rw [if_pos rfl, ih]
theorem lane_inj {a : Int} {x y : List Int} (hx : Rw a x) (hy : Rw a y) (e : laneC a x = laneC a y) : x = y := by
  rw [← rowL_lane hx, e, rowL_lane hy]
theorem lane_r : ∀ {a : Int} {ns : List Int}, Rw a ns → (laneC a ns).count 114 = ns.length
  | a, [], h => by
    show (laneC a []).count 114 = 0
    unfold laneC laneB
    rw [List.nil_append, List.count_eq_zero]
    intro m
    have := List.eq_of_mem_replicate m
    omega
  | a, n :: ns, h => by
    have ih := lane_r h.2
    have e : laneC a (n :: ns) = List.replicate (a - n).toNat 100 ++ (114 :: laneC n ns) := by
      show (List.replicate (a - n).toNat 100 ++ 114 :: laneB n ns) ++ List.replicate (lastN n ns).toNat 100 = _
      rw [List.append_assoc]; rfl
    rw [e, List.count_append, List.count_cons_self, ih, List.length_cons]
    have : (List.replicate (a - n).toNat 100).count 114 = 0 := by
      rw [List.count_eq_zero]
      intro m
      have := List.eq_of_mem_replicate m
      omega
    omega
theorem lane_d {a : Int} {ns : List Int} (h : Rw a ns) : (laneC a ns).count 100 = a.toNat := by
  have h1 := lane_r h
  have h2 := laneC_len h
  have h3 : ∀ l : List Nat, (∀ c ∈ l, c = 114 ∨ c = 100) → l.length = l.count 114 + l.count 100 := by
    intro l
    induction l with
    | nil => intro _; rfl
    | cons c l ih =>
      intro hl
      have := ih fun x m => hl x (List.mem_cons_of_mem _ m)
      rw [List.length_cons, List.count_cons, List.count_cons]
      rcases hl c List.mem_cons_self with rfl | rfl
      · simp; omega
      · simp; omega
  have := h3 _ (laneC_rd a ns)
  omega
/-- the parts of table_of -/
def ERo (s0 s1 : Sl) (row : List Int) (a : Int) (s4 : Sl) : DL.Env := [s0, s1, .tr (sRow row), .sh (.int a), s4]
def roBody : MS := (mIfS (mTst (mOp fEq (mVar 4) (mC (.str (PySem.Str.ofString "r"))))) (mAppend (mpV 2) (mVar 3)) (mAug 3 (fun a b => a - b) (mC (.int 1))))
theorem ro_go {s0 : Sl} (hs0 : killVw [s0] = [s0]) : ∀ (l : List Nat) (row : List Int) (a : Int), small l → row.length + l.length ≤ 10000 →
    ∃ a', forGo true (mgName 4) roBody [4] (l.map fun c => .str (tx [c])) (ERo s0 .dead row a .dead) = some (.nx (ERo s0 .dead (row ++ rowL a l) a' .dead))
  | [], row, a, _, _ => ⟨a, by show some _ = _; simp [rowL]⟩
  | x :: l, row, a, hs, hl => by
    rw [List.length_cons] at hl
    have hx := hs x List.mem_cons_self
    have hs' : small l := fun c m => hs c (List.mem_cons_of_mem _ m)
    let E := ERo s0 .dead row a (.sh (.str (tx [x])))
    have c1 : mTst (mOp fEq (mVar 4) (mC (.str (PySem.Str.ofString "r")))) E = some (decide ([x] = [114])) :=
      mTst_b (mOp_eq (x := .sh (.str (tx [x]))) (y := .sh (.str (PySem.Str.ofString "r"))) rfl rfl (fEq_s rfl (by rw [R.data, tx_r]) (fun c m => by simp at m; subst m; exact hx) (fun c m => by simp at m; omega)))
    have step : ∀ ρ2, roBody E = some (.nx ρ2) → forGo true (mgName 4) roBody [4] ((x :: l).map fun c => .str (tx [c])) (ERo s0 .dead row a .dead) = forGo true (mgName 4) roBody [4] (l.map fun c => .str (tx [c])) (killE [4] ρ2) := fun ρ2 e => by
      show (match mgName 4 true (.str (tx [x])) (ERo s0 .dead row a .dead) with
        | some ρ1 => match roBody ρ1 with
          | some (.nx ρ2) => forGo true (mgName 4) roBody [4] (l.map fun c => .str (tx [c])) (killE [4] ρ2)
          | some (.ct ρ2) => forGo true (mgName 4) roBody [4] (l.map fun c => .str (tx [c])) (killE [4] ρ2)
          | some (.bk ρ2) => some (.nx ρ2)
          | o => o
        | none => none) = _
      have g : mgName 4 true (.str (tx [x])) (ERo s0 .dead row a .dead) = some E := rfl
      rw [g]
      simp only [e]
    by_cases hr : x = 114
    · subst hr
      obtain ⟨a', ih⟩ := ro_go hs0 l (row ++ [a]) a hs' (by rw [List.length_append]; simp; omega)
      refine ⟨a', ?_⟩
      have e1 : roBody E = some (.nx (ERo s0 .dead (row ++ [a]) a (.sh (.str (tx [114]))))) := by
        show mIfS _ _ _ E = _
        rw [mIfS_t (by rw [c1]; simp)]
        show (if (row.map fun n => S.d (.int n)).length < 100000 then some (Out.nx ((killVw E).set 2 (.tr (.own ((row.map fun n => S.d (.int n)) ++ [.d (.int a)]))))) else none) = _
        rw [if_pos (by rw [List.length_map]; omega)]
        have k : killVw E = E := by
          have := List.cons.inj hs0
          show (_ :: _) = _
          simp only [E, ERo]
          congr 1
          exact this.1
        rw [k]
        have : (row.map fun n => S.d (.int n)) ++ [.d (.int a)] = (row ++ [a]).map fun n => S.d (.int n) := by simp
        rw [this]; rfl
      rw [step _ e1]
      refine Eq.trans (b := _) ?_ (ih.trans ?_)
      · rfl
      · rw [List.append_assoc]
        show some (Out.nx (ERo s0 .dead (row ++ ([a] ++ rowL a l)) a' .dead)) = some (Out.nx (ERo s0 .dead (row ++ (if (114 : Nat) = 114 then a :: rowL a l else _)) a' .dead))
        rw [if_pos rfl]; rfl
    · obtain ⟨a', ih⟩ := ro_go hs0 l row (a - 1) hs' (by omega)
      refine ⟨a', ?_⟩
      have e1 : roBody E = some (.nx (ERo s0 .dead row (a - 1) (.sh (.str (tx [x]))))) := by
        show mIfS _ _ _ E = _
        rw [mIfS_f (by rw [c1]; simp [hr])]
        rfl
      rw [step _ e1]
      refine Eq.trans (b := _) ?_ (ih.trans ?_)
      · rfl
      · show some (Out.nx (ERo s0 .dead (row ++ rowL (a - 1) l) a' .dead)) = some (Out.nx (ERo s0 .dead (row ++ (if x = 114 then a :: rowL a l else rowL (a - 1) l)) a' .dead))
        rw [if_neg hr]
theorem row_of_ok {l : List Nat} (hs : small l) (hl : l.length ≤ 5000) (h : Int) : g_row_of A [.str (tx l), .int h] = some (.ret (sRow (rowL h l))) := by
  refine run1 ?_
  refine mSeq_n (ρ1 := [.sh (.str (tx l)), .sh (.int h), .tr (sRow []), .dead, .dead]) rfl ?_
  refine mSeq_n (ρ1 := [.sh (.str (tx l)), .sh (.int h), .tr (sRow []), .sh (.int h), .dead]) rfl ?_
  show mSeq (mFor (mIL (mVar 0)) (mgName 4) roBody [4]) (mRetV 2) (ERo (.sh (.str (tx l))) .dead [] h .dead) = _
  obtain ⟨a', e⟩ := ro_go (s0 := .sh (.str (tx l))) rfl l [] h hs (by simp; omega)
  have hi : mIL (mVar 0) (ERo (.sh (.str (tx l))) .dead [] h .dead) = some (true, l.map fun c => .str (tx [c])) := by
    show some (true, sgn (tx l)) = _
    rw [sgn_tx]
  refine mSeq_n ((mFor_eq hi).trans e) ?_
  rfl
/-- what a lane of so many steps is -/
def laneIs (l : List Nat) (a b : Int) : Bool := decide ((l.length : Int) = a + b) && (decide ((l.count 114 : Int) = a) && decide ((l.count 100 : Int) = b))
theorem is_lane_ok {l : List Nat} (hl : l.length ≤ 5000) (a b : Int) : g_is_lane A [.str (tx l), .int a, .int b] = some (.ret (.d (.bl (laneIs l a b)))) := by
  refine run1 ?_
  let ρ : DL.Env := [.sh (.str (tx l)), .sh (.int a), .sh (.int b)]
  show m_is_lane A ρ = _
  have c1 : mTst (mIsi "str" (mVar 0)) ρ = some true := by
    show mTst (fun ρ => (mVar 0 ρ).map fun r => .sh (.bl (isTy r.data.ty "str"))) ρ = some true
    rfl
  have ll : mCB gLen (mCons (mVar 0) mNil) ρ = some (.sh (.int l.length)) := mCB_1 (x := .sh (.str (tx l))) rfl (by
    show (if (tx l).length ≤ 100000 then some (R.sh (.int ((tx l).length : Nat))) else none) = _
    rw [tx_len, if_pos (by omega)])
  have c2 : mTst (mOp fNe (mCB gLen (mCons (mVar 0) mNil)) (mOp fAdd (mVar 1) (mVar 2))) ρ = some (!decide ((l.length : Int) = a + b)) :=
    mTst_b (mOp_eq ll (mOp_eq (x := .sh (.int a)) (y := .sh (.int b)) rfl rfl (fAdd_ok rfl rfl)) (fNe_int rfl rfl))
  unfold laneIs
  by_cases h : (l.length : Int) = a + b
  · rw [decide_eq_true h] at c2 ⊢
    refine mSeq_n (ρ1 := ρ) (by rw [mIfS_f (mOr_f (mNot_t c1) c2)]; rfl) ?_
    have n1 : mCount (mVar 0) (mC (.str (PySem.Str.ofString "r"))) ρ = some (.sh (.int (l.count 114 : Nat))) := by
      show some (R.sh (.int (Txt.count (tx l) (PySem.Str.ofString "r")))) = _
      rw [tx_r, count_tx]
    have n2 : mCount (mVar 0) (mC (.str (PySem.Str.ofString "d"))) ρ = some (.sh (.int (l.count 100 : Nat))) := by
      show some (R.sh (.int (Txt.count (tx l) (PySem.Str.ofString "d")))) = _
      rw [tx_d, count_tx]
    have k1 : mOp fEq (mCount (mVar 0) (mC (.str (PySem.Str.ofString "r")))) (mVar 1) ρ = some (.sh (.bl (decide ((l.count 114 : Int) = a)))) := mOp_eq n1 (y := .sh (.int a)) rfl (fEq_int rfl rfl)
    have k2 : mOp fEq (mCount (mVar 0) (mC (.str (PySem.Str.ofString "d")))) (mVar 2) ρ = some (.sh (.bl (decide ((l.count 100 : Int) = b)))) := mOp_eq n2 (y := .sh (.int b)) rfl (fEq_int rfl rfl)
    refine mRet_d (d := .bl _) ?_ rfl
    unfold mAndV
    rw [mTst_b k1]
    cases hd : decide ((l.count 114 : Int) = a)
    · rfl
    · simp only [Bool.true_and]; exact k2
  · rw [decide_eq_false h] at c2 ⊢
    have : mOr (mNot (mTst (mIsi "str" (mVar 0)))) (mTst (mOp fNe (mCB gLen (mCons (mVar 0) mNil)) (mOp fAdd (mVar 1) (mVar 2)))) ρ = some true := by
      simp only [mOr, mNot_t c1, c2]; rfl
    unfold m_is_lane mSeq
    rw [mIfS_t this]; rfl
end My

set_option Elab.async false
set_option linter.all false
set_option maxRecDepth 100000
set_option maxHeartbeats 4000000
namespace My
open PySem PySem.Spec PyProof.Rows L2 DL
variable {A : Ad}
theorem gAll_bls (bs : List Bool) : gAll [.lst (S.dataL (bs.map fun b => S.d (.bl b)))] = some (.sh (.bl (bs.all id))) := by
  have e : S.dataL (bs.map fun b => S.d (.bl b)) = bs.map D.bl := by rw [S.dataL_map, List.map_map]; rfl
  unfold gAll
  simp only [e, bls?_map, Option.map_some]
def lanesIs (c h : Nat) (e : List Int) (L : List (List Nat)) (k : Nat) : Bool := laneIs (L.getD k []) ((c : Int) + k - e.getD k 0) ((h : Int) - k + e.getD k 0)
def areP (r c h : Nat) (e : List Int) (L : List (List Nat)) : Bool := decide (L.length = r) && ((List.range r).map (lanesIs c h e L)).all id
theorem are_lanes_ok {r c h : Nat} {e : List Int} {L : List (List Nat)} (hr : r ≤ 6) (he : e.length = r) (hL : L.length ≤ 1000) (hl : ∀ l ∈ L, l.length ≤ 5000) : g_are_lanes A [dRoom r c h, dRow e, dTx L] = some (.ret (.d (.bl (areP r c h e L)))) := by
  refine run1 ?_
  let d : Sl := .dead
  let E : Sl → DL.Env := fun s6 => [.sh (dRoom r c h), .sh (dRow e), .sh (dTx L), .sh (.int r), .sh (.int c), .sh (.int h), s6]
  refine mSeq_n (ρ1 := E d) rfl ?_
  have c1 : mTst (mIsi "list" (mVar 2)) (E d) = some true := isi_lst (z := .sh (dTx L)) rfl rfl
  have ll : mCB gLen (mCons (mVar 2) mNil) (E d) = some (.sh (.int L.length)) := mCB_1 (x := .sh (dTx L)) rfl (by simp [R.data, dTx, gLen])
  have c2 : mTst (mOp fNe (mCB gLen (mCons (mVar 2) mNil)) (mVar 3)) (E d) = some (!decide ((L.length : Int) = r)) := mTst_b (mOp_eq ll (y := .sh (.int r)) rfl (fNe_int rfl rfl))
  unfold areP
  by_cases hlen : L.length = r
  · rw [decide_eq_true (show (L.length : Int) = r by omega)] at c2
    rw [decide_eq_true hlen, Bool.true_and]
    refine mSeq_n (ρ1 := E d) (by rw [mIfS_f (mOr_f (mNot_t c1) c2)]; rfl) ?_
    refine mRet_d (d := .bl _) (mCB_1 (x := .tr (.own (((List.range r).map (lanesIs c h e L)).map fun b => .d (.bl b)))) ?_ (gAll_bls _)) rfl
    rw [mLc_eval (s := true) (items := rg 0 r) (fun _ => true) (fun z => match z with | .int k => .sh (.bl (lanesIs c h e L k.toNat)) | _ => .sh .non) (fun z => match z with | .int k => .d (.bl (lanesIs c h e L k.toNat)) | _ => .d .non)]
    · rw [ft, rg0, List.map_map, List.map_map]
      simp [Function.comp_def]
    · exact mRg1_eval (one (r := .sh (.int r)) rfl) rfl (by omega)
    · rw [rg0]; simp; omega
    · rfl
    · intro z mz
      rw [rg0] at mz
      obtain ⟨k, mk, rfl⟩ := List.mem_map.mp mz
      rw [List.mem_range] at mk
      refine ⟨E (.sh (.int k)), rfl, rfl, fun _ => ⟨?_, rfl⟩⟩
      simp only [Int.toNat_natCast]
      have hk1 : k < L.length := by omega
      have hk2 : k < e.length := by omega
      have hm : L.getD k [] ∈ L := by rw [List.getD_eq_getElem?_getD, List.getElem?_eq_getElem hk1]; exact List.getElem_mem hk1
      obtain ⟨z1, a1, a2, _⟩ := mIx (ma := mVar 2) (mb := mVar 6) (ρ := E (.sh (.int k))) (z := .sh (dTx L)) (y := .sh (.int k)) rfl rfl (ds := L.map fun a => .str (tx a)) rfl (i := k) rfl (d := .str (tx (L.getD k []))) (by simp [hk1])
      obtain ⟨z2, b1, b2, _⟩ := mIx (ma := mVar 1) (mb := mVar 6) (ρ := E (.sh (.int k))) (z := .sh (dRow e)) (y := .sh (.int k)) rfl rfl (ds := e.map .int) rfl (i := k) rfl (d := .int (e.getD k 0)) (by simp [hk2])
      have q1 : mOp fSub (mOp fAdd (mVar 4) (mVar 6)) (mOp fIx (mVar 1) (mVar 6)) (E (.sh (.int k))) = some (.sh (.int ((c : Int) + k - e.getD k 0))) := mOp_eq (mOp_eq (x := .sh (.int c)) (y := .sh (.int k)) rfl rfl (fAdd_ok rfl rfl)) b1 (fSub_ok rfl b2)
      have q2 : mOp fAdd (mOp fSub (mVar 5) (mVar 6)) (mOp fIx (mVar 1) (mVar 6)) (E (.sh (.int k))) = some (.sh (.int ((h : Int) - k + e.getD k 0))) := mOp_eq (mOp_eq (x := .sh (.int h)) (y := .sh (.int k)) rfl rfl (fSub_ok rfl rfl)) b1 (fAdd_ok rfl b2)
      refine mCall_d (rs := [z1, .sh (.int ((c : Int) + k - e.getD k 0)), .sh (.int ((h : Int) - k + e.getD k 0))]) (three a1 q1 q2) rfl ?_
      show g_is_lane A [z1.data, .int ((c : Int) + k - e.getD k 0), .int ((h : Int) - k + e.getD k 0)] = _
      rw [a2]
      exact is_lane_ok (hl _ hm) _ _
  · rw [decide_eq_false (show ¬ (L.length : Int) = r by omega)] at c2
    rw [decide_eq_false hlen, Bool.false_and]
    have : mOr (mNot (mTst (mIsi "list" (mVar 2)))) (mTst (mOp fNe (mCB gLen (mCons (mVar 2) mNil)) (mVar 3))) (E d) = some true := by simp only [mOr, mNot_t c1, c2]; rfl
    show mSeq _ _ (E d) = _
    unfold mSeq
    rw [mIfS_t this]; rfl
def unTx : D → List Nat
  | .str x => x.cps.toList
  | _ => []
theorem unTx_tx (l : List Nat) : unTx (.str (tx l)) = l := by simp [unTx, tx]
def rI (n : Nat) : List Int := (List.range n).map fun (k : Nat) => (k : Int)
theorem listRg_c {ρ : DL.Env} {m : ME} {r : Nat} (h : m ρ = some (.sh (.int r))) (hr : r ≤ 1000) : mListRg m ρ = some (.tr (sRow (rI r))) := by
  unfold mListRg
  rw [h]
  simp only [R.data]
  rw [if_pos ⟨by omega, by omega⟩, Int.toNat_natCast]
  have e : rg 0 r = (rI r).map .int := by
    rw [rg0]; unfold rI; rw [List.map_map]; rfl
  rw [e]
  unfold newL
  rw [if_pos (imm_ints _), List.map_map]; rfl
def tabL (h : Nat) (L : List (List Nat)) : List (List Int) := L.map (rowL h)
theorem table_of_pre {r c h : Nat} {L : List (List Nat)} (M : Rm r c h) (hL : L.length ≤ 1000) (hl : ∀ l ∈ L, l.length ≤ 5000) (hs : ∀ l ∈ L, small l) (a b : Bool) (ha : areP r c h (rI r) L = a) (hb : a = true → g_is_table A [dRoom r c h, dTab (tabL h L)] = some (.ret (.d (.bl b)))) :
    g_table_of A [dRoom r c h, dTx L] = if (a && b) = true then some (.ret (sTab (tabL h L))) else some (.exc A.c_NoLanes) := by
  have hr := M.r; have hc := M.c; have hh := M.h
  let d : Sl := .dead
  let ρ : DL.Env := [.sh (dRoom r c h), .sh (dTx L), d, d]
  unfold g_table_of runF
  have e0 : mDropC (mCallO 1 (g_check_room A) (mCons (mVar 0) mNil)) ρ = some (.nx ρ) := by
    have e1 : g_check_room A [dRoom r c h] = some (.ret (.d .non)) := by
      have := is_room_ok (A := A) (r := r) (c := c) (h := h) (by omega) (by omega) (by omega)
      simp [g_check_room, m_check_room, runF, env0, mIfS, mNot, mTst, mCall, mCons, mVar, mNil, R.data, dRoom, this, retR, mNext, outF]
    have w0 : mCallO 1 (g_check_room A) (mCons (mVar 0) mNil) ρ = some (.ret (.d .non)) := by
      unfold mCallO
      rw [one (r := .sh (dRoom r c h)) rfl]
      exact e1
    unfold mDropC; rw [w0]
  obtain ⟨rr, _, rh⟩ := room_ix (ρ := ρ) (k := 0) (r := r) (c := c) (h := h) rfl
  have c1 : mTst (mCall 3 (g_are_lanes A) (mCons (mVar 0) (mCons (mListRg (mOp fIx (mVar 0) (mC (.int 0)))) (mCons (mVar 1) mNil)))) ρ = some a := by
    rw [← ha]
    refine mTst_b (mCall_d (rs := [.sh (dRoom r c h), .tr (sRow (rI r)), .sh (dTx L)]) (three rfl (listRg_c rr (by omega)) rfl) rfl ?_)
    simp only [List.map_cons, List.map_nil, R.data, sRow_data]
    exact are_lanes_ok (by omega) (by simp [rI]) hL hl
  have main : m_table_of A ρ = if (a && b) = true then some (.rt (sTab (tabL h L))) else some (.ex A.c_NoLanes) := by
    refine mSeq_n e0 ?_
    cases a with
    | false =>
      have : mNot (mTst (mCall 3 (g_are_lanes A) (mCons (mVar 0) (mCons (mListRg (mOp fIx (mVar 0) (mC (.int 0)))) (mCons (mVar 1) mNil))))) ρ = some true := by simp only [mNot, c1]; rfl
      show mSeq _ _ ρ = _
      unfold mSeq
      rw [mIfS_t this]; rfl
    | true =>
      refine mSeq_n (ρ1 := ρ) (by rw [mIfS_f (mNot_t c1)]; rfl) ?_
      have e2 : mLc (mIL (mVar 1)) (mgName 3) mYes (mCall 2 (g_row_of A) (mCons (mVar 3) (mCons (mOp fIx (mVar 0) (mC (.int 2))) mNil))) [3] ρ = some (.tr (sTab (tabL h L))) := by
        rw [mLc_eval (s := true) (items := L.map fun a => .str (tx a)) (fun _ => true) (fun z => .tr (sRow (rowL h (unTx z)))) (fun z => sRow (rowL h (unTx z)))]
        · rw [ft, List.map_map]
          simp [sTab, tabL, Function.comp_def, unTx_tx]
        · simp [mIL, mVar, ρ, R.data, R.fixed, dTx]
        · rw [List.length_map]; omega
        · rfl
        · intro z mz
          obtain ⟨l, ml, rfl⟩ := List.mem_map.mp mz
          let ρl : DL.Env := [.sh (dRoom r c h), .sh (dTx L), d, .sh (.str (tx l))]
          refine ⟨ρl, rfl, rfl, fun _ => ⟨?_, rfl⟩⟩
          obtain ⟨_, _, rh⟩ := room_ix (ρ := ρl) (k := 0) (r := r) (c := c) (h := h) rfl
          rw [unTx_tx]
          exact mCall_t (rs := [.sh (.str (tx l)), .sh (.int h)]) (two rfl rh) rfl (row_of_ok (hs l ml) (hl l ml) h)
      refine mSeq_n (mSet_z e2 rfl) ?_
      let ρ2 : DL.Env := [.sh (dRoom r c h), .sh (dTx L), .tr (sTab (tabL h L)), d]
      have c3 : mTst (mCall 2 (g_is_table A) (mCons (mVar 0) (mCons (mVar 2) mNil))) ρ2 = some b :=
        mTst_b (mCall_d (rs := [.sh (dRoom r c h), .vw (sTab (tabL h L)).data]) (two rfl rfl) rfl (by simp only [List.map_cons, List.map_nil, R.data, sTab_data]; exact hb rfl))
      cases b with
      | false =>
        have : mNot (mTst (mCall 2 (g_is_table A) (mCons (mVar 0) (mCons (mVar 2) mNil)))) ρ2 = some true := by simp only [mNot, c3]; rfl
        show mSeq _ _ ρ2 = _
        unfold mSeq
        rw [mIfS_t this]; rfl
      | true =>
        show mSeq _ _ ρ2 = _
        exact mSeq_n (ρ1 := ρ2) (by rw [mIfS_f (mNot_t c3)]; rfl) rfl
  have main2 : m_table_of A (env0 N_table_of.length [dRoom r c h, dTx L]) = if (a && b) = true then some (.rt (sTab (tabL h L))) else some (.ex A.c_NoLanes) := main
  rw [main2]
  cases hab : (a && b) <;> rfl
end My

set_option Elab.async false
set_option linter.all false
set_option maxRecDepth 100000
set_option maxHeartbeats 4000000
namespace My
open PySem PySem.Spec PyProof.Rows L2 DL
variable {A : Ad}
def isN : D → Bool
  | .int _ => true
  | _ => false
def inR (lo hi : Int) : D → Bool
  | .int n => decide (lo ≤ n ∧ n ≤ hi)
  | _ => false
theorem is_whole_any (d : D) : g_is_whole A [d] = some (.ret (.d (.bl (isN d)))) := by
  refine run1 ?_
  refine mRet_d (d := .bl (isN d)) ?_ rfl
  cases d <;> rfl
theorem whole_in {ρ : DL.Env} {i : Nat} {m1 m2 : ME} {d : D} {lo hi : Int} {x y z : R} (h : mVar i ρ = some x) (hx : x.data = d) (h1 : m1 ρ = some y) (hy : y.data = .int lo) (h2 : m2 ρ = some z) (hz : z.data = .int hi) :
    mAndV (mCall 1 (g_is_whole A) (mCons (mVar i) mNil)) (mCh (fun i j => decide (i ≤ j)) (fun i j => decide (i ≤ j)) m1 (mVar i) m2) ρ = some (.sh (.bl (inR lo hi d))) := by
  have c : mTst (mCall 1 (g_is_whole A) (mCons (mVar i) mNil)) ρ = some (isN d) := mTst_b (mCall_d (rs := [x]) (one h) rfl (by simp only [List.map_cons, List.map_nil, hx]; exact is_whole_any d))
  have e : mAndV (mCall 1 (g_is_whole A) (mCons (mVar i) mNil)) (mCh (fun i j => decide (i ≤ j)) (fun i j => decide (i ≤ j)) m1 (mVar i) m2) ρ = (match mTst (mCall 1 (g_is_whole A) (mCons (mVar i) mNil)) ρ with
    | some true => mCh (fun i j => decide (i ≤ j)) (fun i j => decide (i ≤ j)) m1 (mVar i) m2 ρ
    | some false => some (.sh (.bl false))
    | none => none) := rfl
  rw [e, c]
  cases hN : isN d with
  | false =>
    have : inR lo hi d = false := by
      cases d with
      | int n => cases hN
      | _ => rfl
    rw [this]
  | true =>
    cases d with
    | int n =>
      show mCh _ _ m1 (mVar i) m2 ρ = _
      unfold mCh
      rw [h1, h]
      simp only [hy, hx]
      show (if decide (lo ≤ n) = true then (match m2 ρ with
        | some z => match z.data with
          | .int k => some (R.sh (.bl (decide (n ≤ k))))
          | _ => none
        | none => none) else some (R.sh (.bl false))) = some (.sh (.bl (decide (lo ≤ n ∧ n ≤ hi))))
      rw [h2]
      simp only [hz]
      by_cases hq : lo ≤ n
      · simp [hq]
      · simp [hq]
    | _ => cases hN
theorem all_bl {α : Type} (xs : List α) (b : α → Bool) : gAll [.lst (S.dataL (xs.map fun x => .d (.bl (b x))))] = some (.sh (.bl (xs.all b))) := by
  have e : S.dataL (xs.map fun x => S.d (.bl (b x))) = (xs.map b).map D.bl := by
    rw [S.dataL_map, List.map_map, List.map_map]
    rfl
  unfold gAll
  simp only [e, bls?_map, Option.map_some]
  rw [List.all_map]
  rfl
theorem is_room_any (a b c : D) : g_is_room A [.tup [a, b, c]] = some (.ret (.d (.bl (inR 1 6 a && (inR 1 20 b && inR 1 20 c))))) := by
  refine run1 ?_
  let ρ : DL.Env := [.sh (.tup [a, b, c]), .dead, .dead]
  show m_is_room A ρ = _
  have c1 : mOr (mNot (mTst (mIsi "tuple" (mVar 0)))) (mTst (mOp fNe (mCB gLen (mCons (mVar 0) mNil)) (mCB gLen (mCons (mC (.ktp [(6 : Int), (20 : Int), (20 : Int)])) mNil)))) ρ = some false := by
    have q1 : mTst (mIsi "tuple" (mVar 0)) ρ = some true := by
      simp (config := { decide := true }) [mTst, mIsi, mVar, ρ, R.data, D.ty, isTy]
    refine mOr_f (mNot_t q1) (mTst_b ?_)
    exact mOp_eq (x := .sh (.int 3)) (y := .sh (.int 3)) rfl rfl (by simp [fNe, flat2, R.data])
  refine mSeq_n (ρ1 := ρ) (by rw [mIfS_f c1]; rfl) ?_
  let f : D → Bool := fun z => match z with
    | .tup [x, .int m] => inR 1 m x
    | _ => false
  have e : mLc (mZip (mCons (mVar 0) (mCons (mC (.ktp [(6 : Int), (20 : Int), (20 : Int)])) mNil))) (mgTup [1, 2]) mYes (mAndV (mCall 1 (g_is_whole A) (mCons (mVar 1) mNil)) (mCh (fun i j => decide (i ≤ j)) (fun i j => decide (i ≤ j)) (mC (.int 1)) (mVar 1) (mVar 2))) [1, 2] ρ = some (.tr (.own ([(.tup [a, .int 6] : D), .tup [b, .int 20], .tup [c, .int 20]].map fun z => .d (.bl (f z))))) := by
    rw [mLc_eval (s := true) (items := [.tup [a, .int 6], .tup [b, .int 20], .tup [c, .int 20]]) (fun _ => true) (fun z => .sh (.bl (f z))) (fun z => .d (.bl (f z)))]
    · rw [ft]
    · simp [mZip, mCons, mNil, mVar, mC, ρ, R.data, pairs, R.fixed]
    · simp
    · rfl
    · intro z m
      have main : ∀ (x : D) (k : Int), z = .tup [x, .int k] → ∃ ρ', mgTup [1, 2] true z ρ = some ρ' ∧ mYes ρ' = some true ∧ (true = true → mAndV (mCall 1 (g_is_whole A) (mCons (mVar 1) mNil)) (mCh (fun i j => decide (i ≤ j)) (fun i j => decide (i ≤ j)) (mC (.int 1)) (mVar 1) (mVar 2)) ρ' = some (.sh (.bl (f z))) ∧ (R.sh (.bl (f z))).tree = some (.d (.bl (f z)))) := by
        rintro x k rfl
        refine ⟨[.sh (.tup [a, b, c]), .sh x, .sh (.int k)], rfl, rfl, fun _ => ⟨?_, rfl⟩⟩
        exact whole_in (x := .sh x) (y := .sh (.int 1)) (z := .sh (.int k)) rfl rfl rfl rfl rfl rfl
      simp only [List.mem_cons, List.not_mem_nil, or_false] at m
      rcases m with h | h | h
      · exact main _ _ h
      · exact main _ _ h
      · exact main _ _ h
  refine mRet_d (d := .bl (inR 1 6 a && (inR 1 20 b && inR 1 20 c))) (mCB_1 e ?_) rfl
  have := all_bl [(.tup [a, .int 6] : D), .tup [b, .int 20], .tup [c, .int 20]] f
  refine this.trans ?_
  simp [f]
theorem is_room_len {ds : List D} (h : ds.length ≠ 3) : g_is_room A [.tup ds] = some (.ret (.d (.bl false))) := by
  refine run1 ?_
  let ρ : DL.Env := [.sh (.tup ds), .dead, .dead]
  show m_is_room A ρ = _
  have c1 : mOr (mNot (mTst (mIsi "tuple" (mVar 0)))) (mTst (mOp fNe (mCB gLen (mCons (mVar 0) mNil)) (mCB gLen (mCons (mC (.ktp [(6 : Int), (20 : Int), (20 : Int)])) mNil)))) ρ = some true := by
    have q1 : mTst (mIsi "tuple" (mVar 0)) ρ = some true := by
      simp (config := { decide := true }) [mTst, mIsi, mVar, ρ, R.data, D.ty, isTy]
    have q2 : mTst (mOp fNe (mCB gLen (mCons (mVar 0) mNil)) (mCB gLen (mCons (mC (.ktp [(6 : Int), (20 : Int), (20 : Int)])) mNil))) ρ = some true :=
      mTst_b (mOp_eq (x := .sh (.int ds.length)) (y := .sh (.int 3)) rfl rfl (by
        have : ¬ ((ds.length : Int) = 3) := by omega
        simp [fNe, flat2, R.data, this]))
    unfold mOr
    rw [mNot_t q1, q2]
  show mSeq (mIfS _ _ _) _ ρ = _
  unfold mSeq
  rw [mIfS_t c1]; rfl
theorem is_row_any {ds : List D} {c h : Int} (hl : ds.length ≤ 100000) : g_is_row A [.lst ds, .int c, .int h] = some (.ret (.d (.bl (decide ((ds.length : Int) = c) && ds.all (inR 0 h))))) := by
  refine run1 ?_
  let ρ : DL.Env := [.sh (.lst ds), .sh (.int c), .sh (.int h), .dead]
  show m_is_row A ρ = _
  have q1 : mTst (mIsi "list" (mVar 0)) ρ = some true := by
    simp (config := { decide := true }) [mTst, mIsi, mVar, ρ, R.data, D.ty, isTy]
  have q2 : mTst (mOp fNe (mCB gLen (mCons (mVar 0) mNil)) (mVar 1)) ρ = some (!decide ((ds.length : Int) = c)) :=
    mTst_b (mOp_eq (x := .sh (.int ds.length)) (y := .sh (.int c)) rfl rfl (fNe_int rfl rfl))
  have c1 : mOr (mNot (mTst (mIsi "list" (mVar 0)))) (mTst (mOp fNe (mCB gLen (mCons (mVar 0) mNil)) (mVar 1))) ρ = some (!decide ((ds.length : Int) = c)) := by
    unfold mOr
    rw [mNot_t q1, q2]
  by_cases hc : (ds.length : Int) = c
  · rw [decide_eq_true hc] at c1 ⊢
    refine mSeq_n (ρ1 := ρ) (by rw [mIfS_f c1]; rfl) ?_
    have e : mLc (mIL (mVar 0)) (mgName 3) mYes (mAndV (mCall 1 (g_is_whole A) (mCons (mVar 3) mNil)) (mCh (fun i j => decide (i ≤ j)) (fun i j => decide (i ≤ j)) (mC (.int 0)) (mVar 3) (mVar 2))) [3] ρ = some (.tr (.own (ds.map fun z => .d (.bl (inR 0 h z))))) := by
      rw [mLc_eval (s := true) (items := ds) (fun _ => true) (fun z => .sh (.bl (inR 0 h z))) (fun z => .d (.bl (inR 0 h z)))]
      · rw [ft]
      · simp [mIL, mVar, ρ, R.data, R.fixed]
      · exact hl
      · rfl
      · intro z m
        refine ⟨[.sh (.lst ds), .sh (.int c), .sh (.int h), .sh z], rfl, rfl, fun _ => ⟨?_, rfl⟩⟩
        exact whole_in (x := .sh z) (y := .sh (.int 0)) (z := .sh (.int h)) rfl rfl rfl rfl rfl rfl
    refine mRet_d (d := .bl (true && ds.all (inR 0 h))) (mCB_1 e ?_) rfl
    rw [Bool.true_and]
    exact all_bl ds (inR 0 h)
  · rw [decide_eq_false hc] at c1 ⊢
    show mSeq (mIfS _ _ _) _ ρ = _
    unfold mSeq
    rw [mIfS_t c1]; rfl
def nrb (ns : List Int) : Bool := (ns.zip (ns.drop 1)).all fun p => decide (p.2 ≤ p.1)
def leD : D → Bool
  | .tup [.int x, .int y] => decide (y ≤ x)
  | _ => false
theorem pairs_ints (ns ms : List Int) : pairs (ns.map .int) (ms.map .int) = (ns.zip ms).map fun p => .tup [.int p.1, .int p.2] := by
  unfold pairs
  rw [List.zip_map, List.map_map]
  rfl
theorem nr_core {d : D} {ns : List Int} (hc : ns.length ≤ 100000) (hz : mZip (mCons (mVar 0) (mCons (mSl (mVar 0) (mPart (mC (.int 1))) mNoPart) mNil)) [.sh d, .dead, .dead] = some (true, pairs (ns.map .int) ((ns.drop 1).map .int))) : g_never_rises A [d] = some (.ret (.d (.bl (nrb ns)))) := by
  refine run1 ?_
  let ρ : DL.Env := [.sh d, .dead, .dead]
  have e : mLc (mZip (mCons (mVar 0) (mCons (mSl (mVar 0) (mPart (mC (.int 1))) mNoPart) mNil))) (mgTup [1, 2]) mYes (mOp fLe (mVar 2) (mVar 1)) [1, 2] ρ = some (.tr (.own ((pairs (ns.map .int) ((ns.drop 1).map .int)).map fun z => .d (.bl (leD z))))) := by
    rw [mLc_eval (s := true) (items := pairs (ns.map .int) ((ns.drop 1).map .int)) (fun _ => true) (fun z => .sh (.bl (leD z))) (fun z => .d (.bl (leD z)))]
    · rw [ft]
    · exact hz
    · exact Nat.le_trans pairs_len (by simpa using hc)
    · rfl
    · intro z m
      rw [pairs_ints] at m
      obtain ⟨p, _, rfl⟩ := List.mem_map.mp m
      refine ⟨[.sh d, .sh (.int p.1), .sh (.int p.2)], rfl, rfl, fun _ => ⟨?_, rfl⟩⟩
      simp [mOp, mVar, R.data, fLe, flat2, gI, leD]
  refine mRet_d (d := .bl (nrb ns)) (mCB_1 e ?_) rfl
  refine (all_bl _ leD).trans ?_
  rw [pairs_ints, List.all_map]
  rfl
theorem nr_lst {ns : List Int} (hc : ns.length ≤ 100000) : g_never_rises A [dRow ns] = some (.ret (.d (.bl (nrb ns)))) := by
  refine nr_core hc ?_
  simp [mZip, mCons, mNil, mVar, mSl, mPart, mNoPart, mC, R.data, fSl, newL, dRow]
  have : cut (ns.map D.int) (some 1) none = (ns.drop 1).map .int := by rw [cut1, List.map_drop]
  rw [this, if_pos (imm_ints _)]
  simp [R.data, S.data, dataL_d, R.fixed]
  have e2 : (List.map (S.d ∘ D.int) ns).tail = ((ns.drop 1).map D.int).map S.d := by cases ns <;> simp [Function.comp_def]
  rw [e2, dataL_d]
  cases ns <;> simp
theorem nr_tup {ns : List Int} (hc : ns.length ≤ 100000) (h0 : 0 < ns.length) : g_never_rises A [.tup (ns.map .int)] = some (.ret (.d (.bl (nrb ns)))) := by
  refine nr_core hc ?_
  have e1 : fSl (.tup (ns.map D.int)) (some 1) none = some (.sh (.tup ((ns.drop 1).map .int))) := by
    show (if HT.sIx (ns.map D.int).length 0 (some 1) = 0 ∧ HT.sIx (ns.map D.int).length (ns.map D.int).length none = (ns.map D.int).length then none else (if immL (cut (ns.map D.int) (some 1) none) = true then some (R.sh (.tup (cut (ns.map D.int) (some 1) none))) else none)) = _
    rw [if_neg, cut1, ← List.map_drop, if_pos (imm_ints _)]
    rintro ⟨z, _⟩
    rw [show HT.sIx (ns.map D.int).length 0 (some 1) = min 1 (ns.map D.int).length from HT.sIx_nat _ 0 1, List.length_map] at z
    omega
  simp [mZip, mCons, mNil, mVar, mSl, mPart, mNoPart, mC, R.data, e1, R.fixed]
theorem nrb_rise {ns : List Int} {i : Nat} {x y : Int} (h1 : ns[i]? = some x) (h2 : ns[i + 1]? = some y) (h : x < y) : nrb ns = false := by
  unfold nrb
  rw [List.all_eq_false]
  refine ⟨(x, y), ?_, by simp; omega⟩
  refine List.mem_iff_getElem?.mpr ⟨i, ?_⟩
  rw [List.getElem?_zip_eq_some]
  exact ⟨h1, by rw [List.getElem?_drop, Nat.add_comm]; exact h2⟩
end My

set_option Elab.async false
set_option linter.all false
set_option maxRecDepth 100000
set_option maxHeartbeats 4000000
namespace My
open PySem PySem.Spec PyProof.Rows L2 DL
variable {A : Ad}
/-! is_table of any rows -/
def dRows (rows : List (List D)) : D := .lst (rows.map .lst)
def ET2 (r c h : Nat) (d : D) : DL.Env := [.sh (dRoom r c h), .sh d, .sh (.int r), .sh (.int c), .sh (.int h), .dead, .dead]
theorem table_pre {r c h : Nat} {rows : List (List D)} (m : MS) : mSeq (mSetT (mgTup [2, 3, 4]) (mVar 0)) (mSeq (mIfS (mOr (mNot (mTst (mIsi "list" (mVar 1)))) (mTst (mOp fNe (mCB gLen (mCons (mVar 1) mNil)) (mVar 2)))) (mRet (mC (.bl false))) mNext) m) [.sh (dRoom r c h), .sh (dRows rows), .dead, .dead, .dead, .dead, .dead] =
    if rows.length = r then m (ET2 r c h (dRows rows)) else some (.rt (.d (.bl false))) := by
  let ρ := ET2 r c h (dRows rows)
  have e1 : mSetT (mgTup [2, 3, 4]) (mVar 0) [.sh (dRoom r c h), .sh (dRows rows), .dead, .dead, .dead, .dead, .dead] = some (.nx ρ) := by
    simp [mSetT, mVar, mgTup, setE, itR, R.slot, dRoom, R.data, R.fixed, ρ, ET2]
  have q1 : mTst (mIsi "list" (mVar 1)) ρ = some true := by
    simp (config := { decide := true }) [mTst, mIsi, mVar, ρ, ET2, R.data, D.ty, isTy, dRows]
  have q2 : mTst (mOp fNe (mCB gLen (mCons (mVar 1) mNil)) (mVar 2)) ρ = some (!decide (((rows.map D.lst).length : Int) = r)) :=
    mTst_b (mOp_eq (x := .sh (.int (rows.map D.lst).length)) (y := .sh (.int r)) rfl rfl (fNe_int rfl rfl))
  rw [List.length_map] at q2
  have c1 : mOr (mNot (mTst (mIsi "list" (mVar 1)))) (mTst (mOp fNe (mCB gLen (mCons (mVar 1) mNil)) (mVar 2))) ρ = some (!decide ((rows.length : Int) = r)) := by
    unfold mOr
    rw [mNot_t q1, q2]
  refine mSeq_n e1 ?_
  by_cases hr : rows.length = r
  · rw [if_pos hr]
    rw [decide_eq_true (show (rows.length : Int) = r by omega)] at c1
    exact mSeq_n (ρ1 := ρ) (by rw [mIfS_f c1]; rfl) rfl
  · rw [if_neg hr]
    rw [decide_eq_false (show ¬ (rows.length : Int) = r by omega)] at c1
    unfold mSeq
    rw [mIfS_t c1]; rfl
theorem is_table_len {r c h : Nat} {rows : List (List D)} (hl : rows.length ≠ r) : g_is_table A [dRoom r c h, dRows rows] = some (.ret (.d (.bl false))) :=
  run1 ((table_pre _).trans (if_neg hl))
theorem il_rows {ρ : DL.Env} {rows : List (List D)} (h : ρ[1]? = some (.sh (dRows rows))) : mIL (mVar 1) ρ = some (true, rows.map .lst) := by
  simp [mIL, mVar, h, R.data, R.fixed, dRows]
def rowD : D → List D
  | .lst ds => ds
  | _ => []
def rowOk (c h : Nat) (ds : List D) : Bool := decide ((ds.length : Int) = c) && ds.all (inR 0 h)
theorem rows_test {r c h : Nat} {rows : List (List D)} (hr : rows.length ≤ 1000) (hl : ∀ x ∈ rows, x.length ≤ 100000) :
    mTst (mCB gAll (mCons (mLc (mIL (mVar 1)) (mgName 5) mYes (mCall 3 (g_is_row A) (mCons (mVar 5) (mCons (mVar 3) (mCons (mVar 4) mNil)))) [5]) mNil)) (ET2 r c h (dRows rows)) = some (rows.all (rowOk c h)) := by
  let ρ := ET2 r c h (dRows rows)
  have e : mLc (mIL (mVar 1)) (mgName 5) mYes (mCall 3 (g_is_row A) (mCons (mVar 5) (mCons (mVar 3) (mCons (mVar 4) mNil)))) [5] ρ = some (.tr (.own ((rows.map D.lst).map fun z => .d (.bl (rowOk c h (rowD z)))))) := by
    rw [mLc_eval (s := true) (items := rows.map D.lst) (fun _ => true) (fun z => .sh (.bl (rowOk c h (rowD z)))) (fun z => .d (.bl (rowOk c h (rowD z)))) (il_rows rfl)]
    · rw [ft]
    · rw [List.length_map]; omega
    · rfl
    · intro z m
      obtain ⟨x, hx, rfl⟩ := List.mem_map.mp m
      refine ⟨[.sh (dRoom r c h), .sh (dRows rows), .sh (.int r), .sh (.int c), .sh (.int h), .sh (.lst x), .dead], rfl, rfl, fun _ => ⟨?_, rfl⟩⟩
      exact mCall_d (rs := [.sh (.lst x), .sh (.int c), .sh (.int h)]) (three rfl rfl rfl) rfl (is_row_any (hl x hx))
  refine mTst_b (mCB_1 e ((all_bl _ fun z => rowOk c h (rowD z)).trans ?_))
  rw [List.all_map]; rfl
theorem is_table_row {r c h : Nat} {rows : List (List D)} (hr : r ≤ 1000) (hl : ∀ x ∈ rows, x.length ≤ 100000) {x : List D} (hx : x ∈ rows) (hb : rowOk c h x = false) : g_is_table A [dRoom r c h, dRows rows] = some (.ret (.d (.bl false))) := by
  by_cases hrr : rows.length = r
  · refine run1 ((table_pre _).trans ((if_pos hrr).trans ?_))
    have c1 := rows_test (A := A) (r := r) (c := c) (h := h) (rows := rows) (by omega) hl
    have e : rows.all (rowOk c h) = false := List.all_eq_false.mpr ⟨x, hx, by simp [hb]⟩
    rw [e] at c1
    unfold mSeq
    rw [mIfS_t (show mNot _ _ = some true by simp only [mNot, c1]; rfl)]
    rfl
  · exact is_table_len hrr
/-! tables of numbers in their bounds -/
def colI (t : List (List Int)) (j : Nat) : List Int := t.map fun x => x.getD j 0
theorem tab_rows (t : List (List Int)) : dTab t = dRows (t.map fun x => x.map .int) := by
  unfold dTab dRows
  rw [List.map_map]; rfl
theorem rowOk_ints {c h : Nat} {x : List Int} (hl : x.length = c) (lo : ∀ n ∈ x, 0 ≤ n ∧ n ≤ (h : Int)) : rowOk c h (x.map .int) = true := by
  unfold rowOk
  rw [List.length_map, decide_eq_true (by omega), Bool.true_and, List.all_map, List.all_eq_true]
  intro n m
  exact decide_eq_true (lo n m)
theorem is_table_b {r c h : Nat} {t : List (List Int)} (M : Rm r c h) (hr0 : t.length = r) (row : ∀ x ∈ t, x.length = c) (lo : ∀ x ∈ t, ∀ n ∈ x, 0 ≤ n ∧ n ≤ (h : Int)) :
    g_is_table A [dRoom r c h, dTab t] = some (.ret (.d (.bl (t.all nrb && (List.range c).all fun j => nrb (colI t j))))) := by
  have hr := M.r; have hc := M.c; have hh := M.h
  rw [tab_rows]
  let rows := t.map fun x => x.map D.int
  refine run1 ((table_pre _).trans ((if_pos (by rw [List.length_map]; exact hr0)).trans ?_))
  let ρ := ET2 r c h (dRows rows)
  show mSeq _ _ ρ = _
  have c1 : mTst _ ρ = some (rows.all (rowOk c h)) := rows_test (A := A) (r := r) (c := c) (h := h) (rows := rows) (by simp [rows]; omega) fun x m => by
    obtain ⟨y, hy, rfl⟩ := List.mem_map.mp m
    rw [List.length_map, row y hy]; omega
  have e1 : rows.all (rowOk c h) = true := by
    rw [List.all_eq_true]
    intro x m
    obtain ⟨y, hy, rfl⟩ := List.mem_map.mp m
    exact rowOk_ints (row y hy) (lo y hy)
  rw [e1] at c1
  refine mSeq_n (ρ1 := ρ) (by rw [mIfS_f (mNot_t c1)]; rfl) ?_
  have rl : ∀ x ∈ t, x.length ≤ 100000 := fun x m => by rw [row x m]; omega
  have c2 : mTst (mCB gAll (mCons (mLc (mIL (mVar 1)) (mgName 5) mYes (mCall 1 (g_never_rises A) (mCons (mVar 5) mNil)) [5]) mNil)) ρ = some (t.all nrb) := by
    have e : mLc (mIL (mVar 1)) (mgName 5) mYes (mCall 1 (g_never_rises A) (mCons (mVar 5) mNil)) [5] ρ = some (.tr (.own ((t.map dRow).map fun z => .d (.bl (nrb (rowOf z)))))) := by
      rw [mLc_eval (s := true) (items := t.map dRow) (fun _ => true) (fun z => .sh (.bl (nrb (rowOf z)))) (fun z => .d (.bl (nrb (rowOf z))))]
      · rw [ft]
      · have := il_rows (ρ := ρ) (rows := rows) rfl
        rw [this, List.map_map]; rfl
      · rw [List.length_map]; omega
      · rfl
      · intro z m
        obtain ⟨x, hx, rfl⟩ := List.mem_map.mp m
        refine ⟨[.sh (dRoom r c h), .sh (dRows rows), .sh (.int r), .sh (.int c), .sh (.int h), .sh (dRow x), .dead], rfl, rfl, fun _ => ⟨?_, rfl⟩⟩
        rw [rowOf_row]
        exact mCall_d (rs := [.sh (dRow x)]) (one rfl) rfl (nr_lst (rl x hx))
    refine mTst_b (mCB_1 e ((all_bl _ fun z => nrb (rowOf z)).trans ?_))
    rw [List.all_map]
    congr 3
    congr 1
    funext x
    simp [rowOf_row]
  cases hb : t.all nrb with
  | false =>
    rw [hb] at c2
    unfold mSeq
    rw [mIfS_t (show mNot _ ρ = some true by simp only [mNot, c2]; rfl)]
    rfl
  | true =>
    rw [hb] at c2
    refine mSeq_n (ρ1 := ρ) (by rw [mIfS_f (mNot_t c2)]; rfl) ?_
    have hz : mZipN (mVar 1) ρ = some (true, colsD (t.map fun x => x.map D.int) c) := by
      have hrows : rows? (rows.map D.lst) = some rows := rows?_map rows
      have hv : mVar 1 ρ = some (.sh (.lst (rows.map D.lst))) := rfl
      have hne : t ≠ [] := by intro e; subst e; simp at hr0; omega
      obtain ⟨x0, xs, rfl⟩ := List.exists_cons_of_ne_nil hne
      have hx0 := row x0 List.mem_cons_self
      unfold mZipN
      rw [hv]
      simp only [R.data, hrows]
      simp only [rows, List.map_cons]
      rw [if_pos]
      · rw [List.length_map, hx0]; rfl
      · refine ⟨by rw [List.length_map]; simp at hr0; omega, List.all_eq_true.mpr fun y hy => ?_⟩
        obtain ⟨z, hz, rfl⟩ := List.mem_map.mp hy
        rw [List.length_map, List.length_map, hx0, row z (List.mem_cons_of_mem _ hz)]
        simp
    have hcols : colsD (t.map fun x => x.map D.int) c = (List.range c).map fun j => .tup ((colI t j).map .int) := by
      unfold colsD
      apply List.map_congr_left
      intro j hj
      rw [List.mem_range] at hj
      unfold colI
      rw [List.map_map, List.map_map]
      congr 1
      apply List.map_congr_left
      intro x hx
      have : j < x.length := by rw [row x hx]; exact hj
      simp [this]
    rw [hcols] at hz
    let tupI : D → List Int := fun z => match z with
      | .tup ds => rowOf (.lst ds)
      | _ => []
    have tupI_ok : ∀ ns : List Int, tupI (.tup (ns.map .int)) = ns := fun ns => rowOf_row ns
    have e : mLc (mZipN (mVar 1)) (mgName 6) mYes (mCall 1 (g_never_rises A) (mCons (mVar 6) mNil)) [6] ρ = some (.tr (.own (((List.range c).map fun j => D.tup ((colI t j).map .int)).map fun z => .d (.bl (nrb (tupI z)))))) := by
      rw [mLc_eval (s := true) (items := (List.range c).map fun j => D.tup ((colI t j).map .int)) (fun _ => true) (fun z => .sh (.bl (nrb (tupI z)))) (fun z => .d (.bl (nrb (tupI z)))) hz]
      · rw [ft]
      · simp; omega
      · rfl
      · intro z m
        obtain ⟨j, hj, rfl⟩ := List.mem_map.mp m
        refine ⟨[.sh (dRoom r c h), .sh (dRows rows), .sh (.int r), .sh (.int c), .sh (.int h), .dead, .sh (.tup ((colI t j).map .int))], rfl, rfl, fun _ => ⟨?_, rfl⟩⟩
        rw [tupI_ok]
        exact mCall_d (rs := [.sh (.tup ((colI t j).map .int))]) (one rfl) rfl (nr_tup (by unfold colI; rw [List.length_map]; omega) (by unfold colI; rw [List.length_map]; omega))
    refine mRet_d (d := .bl (true && (List.range c).all fun j => nrb (colI t j))) (mCB_1 e ?_) rfl
    rw [Bool.true_and]
    refine (all_bl _ fun z => nrb (tupI z)).trans ?_
    rw [List.all_map]
    congr 3
    congr 1
    funext j
    simp [tupI_ok]
end My

set_option Elab.async false
set_option linter.all false
set_option maxRecDepth 100000
set_option maxHeartbeats 4000000
namespace My
open PySem PySem.Spec PyProof.Rows L2 DL
/-! texts of steps and rows -/
theorem Rw.up : ∀ {a b : Int} {ns : List Int}, a ≤ b → Rw a ns → Rw b ns
  | a, b, [], h, q => by have q : 0 ≤ a := q; show 0 ≤ b; omega
  | a, b, n :: r, h, q => ⟨Int.le_trans q.1 h, q.2⟩
theorem laneC_down : ∀ {a : Int} {ns : List Int}, Rw a ns → laneC (a + 1) ns = 100 :: laneC a ns
  | a, [], q => by
    have q : 0 ≤ a := q
    show [] ++ List.replicate (a + 1).toNat 100 = 100 :: ([] ++ List.replicate a.toNat 100)
    have e : (a + 1).toNat = a.toNat + 1 := by omega
    rw [e, List.replicate_succ]; rfl
  | a, n :: r, q => by
    have q1 := q.1
    show (List.replicate (a + 1 - n).toNat 100 ++ 114 :: laneB n r) ++ List.replicate (lastN n r).toNat 100 = 100 :: ((List.replicate (a - n).toNat 100 ++ 114 :: laneB n r) ++ List.replicate (lastN n r).toNat 100)
    have e : (a + 1 - n).toNat = (a - n).toNat + 1 := by omega
    rw [e, List.replicate_succ]; rfl
def rdOnly (l : List Nat) : Prop := ∀ x ∈ l, x = 114 ∨ x = 100
theorem row_lane : ∀ {l : List Nat} {a : Int}, 0 ≤ a → rdOnly l → (l.count 100 : Int) = a → Rw a (rowL a l) ∧ laneC a (rowL a l) = l
  | [], a, h0, _, hc => by
    have : a = 0 := by simpa using hc.symm
    subst this
    exact ⟨Int.le_refl _, rfl⟩
  | x :: l, a, h0, hs, hc => by
    have hs' : rdOnly l := fun y m => hs y (List.mem_cons_of_mem _ m)
    rcases hs x List.mem_cons_self with rfl | rfl
    · have hc' : (l.count 100 : Int) = a := by
        rw [List.count_cons] at hc
        simpa using hc
      obtain ⟨q1, q2⟩ := row_lane h0 hs' hc'
      have e : rowL a (114 :: l) = a :: rowL a l := by simp [rowL]
      rw [e]
      refine ⟨⟨Int.le_refl _, q1⟩, ?_⟩
      show (List.replicate (a - a).toNat 100 ++ 114 :: laneB a (rowL a l)) ++ List.replicate (lastN a (rowL a l)).toNat 100 = _
      have e2 : (a - a).toNat = 0 := by omega
      rw [e2]
      show 114 :: laneC a (rowL a l) = _
      rw [q2]
    · have hc' : (l.count 100 : Int) = a - 1 := by
        rw [List.count_cons] at hc
        simp at hc
        omega
      have h1 : 0 ≤ a - 1 := by
        have : (0 : Int) ≤ (l.count 100 : Int) := Int.natCast_nonneg _
        omega
      obtain ⟨q1, q2⟩ := row_lane h1 hs' hc'
      have e : rowL a (100 :: l) = rowL (a - 1) l := by simp [rowL]
      rw [e]
      refine ⟨q1.up (by omega), ?_⟩
      have := laneC_down q1
      rw [show a - 1 + 1 = a by omega] at this
      rw [this, q2]
theorem rowL_len : ∀ (l : List Nat) (a : Int), (rowL a l).length = l.count 114
  | [], _ => rfl
  | x :: l, a => by
    unfold rowL
    by_cases h : x = 114
    · rw [if_pos h, List.length_cons, rowL_len l, h, List.count_cons]; simp
    · rw [if_neg h, rowL_len l, List.count_cons]
      simp [h]
theorem cnt_two : ∀ (l : List Nat), l.count 114 + l.count 100 ≤ l.length ∧ (l.count 114 + l.count 100 = l.length → rdOnly l)
  | [] => ⟨Nat.le_refl _, fun _ x m => by cases m⟩
  | x :: l => by
    obtain ⟨h1, h2⟩ := cnt_two l
    simp only [List.count_cons, List.length_cons]
    by_cases a : x = 114
    · subst a
      simp
      refine ⟨by omega, fun h y m => ?_⟩
      rcases List.mem_cons.mp m with rfl | m
      · exact .inl rfl
      · exact h2 (by omega) y m
    · by_cases b : x = 100
      · subst b
        simp
        refine ⟨by omega, fun h y m => ?_⟩
        rcases List.mem_cons.mp m with rfl | m
        · exact .inr rfl
        · exact h2 (by omega) y m
      · have a' : (x == 114) = false := by simpa using a
        have b' : (x == 100) = false := by simpa using b
        simp [a', b']
        exact ⟨by omega, fun h => by omega⟩
/-- a lane of the room: so many steps to the right, so many down -/
def Ln (c h : Nat) (l : List Nat) : Prop := l.length = c + h ∧ l.count 114 = c ∧ l.count 100 = h
instance (c h : Nat) (l : List Nat) : Decidable (Ln c h l) := by unfold Ln; infer_instance
theorem Ln.rd {c h : Nat} {l : List Nat} (L : Ln c h l) : rdOnly l := (cnt_two l).2 (by rw [L.1, L.2.1, L.2.2])
theorem Ln.rw {c h : Nat} {l : List Nat} (L : Ln c h l) : Rw h (rowL h l) ∧ laneC h (rowL h l) = l := row_lane (by omega) L.rd (by rw [L.2.2])
theorem Ln.len {c h : Nat} {l : List Nat} (L : Ln c h l) : (rowL h l).length = c := by rw [rowL_len, L.2.1]
theorem Rw.mem : ∀ {a : Int} {ns : List Int}, Rw a ns → ∀ n ∈ ns, 0 ≤ n ∧ n ≤ a
  | _, [], _, _, m => by cases m
  | a, n :: r, q, k, m => by
    rcases List.mem_cons.mp m with rfl | m
    · exact ⟨q.2.nn, q.1⟩
    · have := q.2.mem k m
      exact ⟨this.1, Int.le_trans this.2 q.1⟩
theorem Rw.nrb : ∀ {a : Int} {ns : List Int}, Rw a ns → ∀ (i : Nat) (x y : Int), ns[i]? = some x → ns[i + 1]? = some y → y ≤ x
  | _, [], _, i, x, y, h, _ => by simp at h
  | a, n :: r, q, 0, x, y, h1, h2 => by
    simp at h1 h2; subst h1
    cases r with
    | nil => simp at h2
    | cons m r => simp at h2; subst h2; exact q.2.1
  | a, n :: r, q, i + 1, x, y, h1, h2 => q.2.nrb i x y (by simpa using h1) (by simpa using h2)
/-! two lanes meet -/
theorem Fc_ge : ∀ {ns : List Int} {a b t m : Int} {j : Nat}, Rw a ns → ns[j]? = some m → b + j - m < t → j + 1 ≤ Fc b t ns
  | [], _, _, _, _, j, _, h, _ => by simp at h
  | n :: r, a, b, t, m, 0, q, h, hb => by
    simp at h; subst h
    unfold Fc
    rw [if_pos (by omega)]; omega
  | n :: r, a, b, t, m, j + 1, q, h, hb => by
    have h' : r[j]? = some m := by simpa using h
    have ih := Fc_ge (b := b + 1) (t := t) q.2 h' (by omega)
    have hm := (q.2.mem m (List.mem_of_getElem? h')).2
    unfold Fc
    rw [if_pos (by omega)]; omega
theorem Fc_le : ∀ {ns : List Int} {a b t m : Int} {j : Nat}, Rw a ns → ns[j]? = some m → t ≤ b + j - m → Fc b t ns ≤ j
  | [], _, _, _, _, j, _, h, _ => by simp at h
  | n :: r, a, b, t, m, 0, q, h, hb => by
    simp at h; subst h
    unfold Fc
    rw [if_neg (by omega), Fc_zero q.2 (by omega)]
    omega
  | n :: r, a, b, t, m, j + 1, q, h, hb => by
    have h' : r[j]? = some m := by simpa using h
    have ih := Fc_le (b := b + 1) (t := t) q.2 h' (by omega)
    unfold Fc
    split <;> omega
theorem take_step (l : List Nat) (i : Nat) : ((l.take (i + 1)).count 114 = (l.take i).count 114 ∨ (l.take (i + 1)).count 114 = (l.take i).count 114 + 1) := by
  by_cases hi : i < l.length
  · rw [List.take_add_one, List.getElem?_eq_getElem hi, List.count_append]
    simp only [Option.toList_some, List.count_cons, List.count_nil]
    split <;> omega
  · rw [List.take_of_length_le (by omega), List.take_of_length_le (by omega)]
    exact .inl rfl
theorem first_one {l l' : List Nat} : ∀ i0 : Nat, (l.take i0).count 114 + 1 ≤ (l'.take i0).count 114 → ∃ i, i ≤ i0 ∧ (l'.take i).count 114 = (l.take i).count 114 + 1
  | 0, h => by simp at h
  | i + 1, h => by
    by_cases e : (l'.take (i + 1)).count 114 = (l.take (i + 1)).count 114 + 1
    · exact ⟨i + 1, Nat.le_refl _, e⟩
    · have a := take_step l i
      have b := take_step l' i
      obtain ⟨k, hk, q⟩ := first_one (l := l) (l' := l') i (by omega)
      exact ⟨k, by omega, q⟩
/-- the next row rises above: their lanes meet -/
theorem rise_meets {c h : Nat} {l l' : List Nat} (L : Ln c h l) (L' : Ln c h l') {j : Nat} {x y : Int} (hx : (rowL h l)[j]? = some x) (hy : (rowL h l')[j]? = some y) (hxy : x < y) : ∃ i, i ≤ c + h ∧ (l'.take i).count 114 = (l.take i).count 114 + 1 := by
  obtain ⟨q1, q2⟩ := L.rw
  obtain ⟨p1, p2⟩ := L'.rw
  have bx := q1.mem x (List.mem_of_getElem? hx)
  have by' := p1.mem y (List.mem_of_getElem? hy)
  have hj : j < c := by
    have := (List.getElem?_eq_some_iff.mp hx).1
    rw [L.len] at this; exact this
  let i0 : Nat := ((h : Int) + j - y + 1).toNat
  have hi0 : (i0 : Int) = (h : Int) + j - y + 1 := by omega
  have g1 : (l'.take i0).count 114 = Fc h i0 (rowL h l') := by
    have := cnt_lane (a := (h : Int)) i0 p1
    rw [p2] at this; exact this
  have g2 : (l.take i0).count 114 = Fc h i0 (rowL h l) := by
    have := cnt_lane (a := (h : Int)) i0 q1
    rw [q2] at this; exact this
  have a1 := Fc_ge (b := (h : Int)) (t := (i0 : Int)) p1 hy (by omega)
  have a2 := Fc_le (b := (h : Int)) (t := (i0 : Int)) q1 hx (by omega)
  obtain ⟨i, hi, e⟩ := first_one (l := l) (l' := l') i0 (by omega)
  exact ⟨i, by omega, e⟩
end My

set_option Elab.async false
set_option linter.all false
set_option maxRecDepth 100000
set_option maxHeartbeats 4000000
namespace My
open PySem PySem.Spec PyProof.Rows L2 DL
variable {A : Ad}
/-! texts made by the law -/
theorem tx_cut (l : List Nat) (lo hi : Option Int) : cutS (tx l) lo hi = tx (cut l lo hi) := by
  unfold cutS cut
  rw [tx_len]
  simp [tx]
theorem sl_text {ρ : DL.Env} {m : ME} {l : List Nat} {z : R} {ml mh : MO} {lo hi : Option Int} (h : m ρ = some z) (hz : z.data = .str (tx l)) (h1 : ml ρ = some lo) (h2 : mh ρ = some hi) (hl : l.length ≤ 100000) : mSl m ml mh ρ = some (.sh (.str (tx (cut l lo hi)))) := by
  unfold mSl
  rw [h, h1, h2]
  show fSl z.data lo hi = _
  rw [hz]
  show (if (tx l).length ≤ 100000 then some (R.sh (.str (cutS (tx l) lo hi))) else none) = _
  rw [tx_len, if_pos hl, tx_cut]
theorem ix_text {ρ : DL.Env} {ma mb : ME} {l : List Nat} {y : R} {i c : Nat} (h : ma ρ = some (.sh (.str (tx l)))) (h2 : mb ρ = some y) (hy : y.data = .int i) (hc : l[i]? = some c) (hl : l.length ≤ 100000) : mOp fIx ma mb ρ = some (.sh (.str (tx [c]))) := by
  refine mOp_eq h h2 ?_
  have e : (tx l).cps.toList = l := by simp [tx]
  unfold fIx
  simp only [hy]
  rw [tx_len, if_pos hl, e, atI_nat hc]
  rfl
def ETx (s0 : Sl) (a b : Int) (l : List Nat) (s4 : Sl) : DL.Env := [s0, .sh (.int a), .sh (.int b), .sh (.str (tx l)), s4]
def txBody : MS := (mIfS (mAnd (mTst (mOp fGt (mVar 1) (mC (.int 0)))) (mOr (mTst (mOp fEq (mVar 2) (mC (.int 0)))) (mTst (mOp fLt (mOp fMod (mVar 4) (mOp fAdd (mVar 1) (mVar 2))) (mVar 1))))) (mSeq (mSet 3 (mOp fAdd (mVar 3) (mC (.str (PySem.Str.ofString "r")))))
    (mSet 1 (mOp fSub (mVar 1) (mC (.int 1))))) (mIfS (mTst (mOp fGt (mVar 2) (mC (.int 0)))) (mSeq (mSet 3 (mOp fAdd (mVar 3) (mC (.str (PySem.Str.ofString "d")))))
    (mSet 2 (mOp fSub (mVar 2) (mC (.int 1))))) mNext))
theorem txBody_ok {s0 : Sl} {a b v : Int} {l : List Nat} (ha : 0 ≤ a) (hb : 0 ≤ b) (hs : rdOnly l) (hl : l.length ≤ 10000) :
    ∃ a' b' l', 0 ≤ a' ∧ a' ≤ a ∧ 0 ≤ b' ∧ b' ≤ b ∧ rdOnly l' ∧ l'.length ≤ l.length + 1 ∧ txBody (ETx s0 a b l (.sh (.int v))) = some (.nx (ETx s0 a' b' l' (.sh (.int v)))) := by
  let E := ETx s0 a b l (.sh (.int v))
  have w1 : mVar 1 E = some (.sh (.int a)) := rfl
  have w2 : mVar 2 E = some (.sh (.int b)) := rfl
  have w3 : mVar 3 E = some (.sh (.str (tx l))) := rfl
  have c1 : mTst (mOp fGt (mVar 1) (mC (.int 0))) E = some (decide (0 < a)) := mTst_b (mOp_eq w1 (y := .sh (.int 0)) rfl (fGt_ok rfl rfl))
  have c2 : mTst (mOp fEq (mVar 2) (mC (.int 0))) E = some (decide (b = 0)) := mTst_b (mOp_eq w2 (y := .sh (.int 0)) rfl (fEq_int rfl rfl))
  have addr : ∀ (c : Nat) (s : String), Str.ofString s = tx [c] → mOp fAdd (mVar 3) (mC (.str (Str.ofString s))) E = some (.sh (.str (tx (l ++ [c])))) := fun c s hs => by
    refine mOp_eq w3 (y := .sh (.str (tx [c]))) (by show some (R.sh (.str (Str.ofString s))) = _; rw [hs]) (fAdd_s rfl rfl (by simp; omega))
  have rd1 : ∀ c, c = 114 ∨ c = 100 → rdOnly (l ++ [c]) := fun c hc y m => by
    rcases List.mem_append.mp m with m | m
    · exact hs y m
    · rw [List.mem_singleton.mp m]; exact hc
  have right : 0 < a → mSeq (mSet 3 (mOp fAdd (mVar 3) (mC (.str (PySem.Str.ofString "r"))))) (mSet 1 (mOp fSub (mVar 1) (mC (.int 1)))) E = some (.nx (ETx s0 (a - 1) b (l ++ [114]) (.sh (.int v)))) := fun _ =>
    mSeq_n (mSet_d (addr 114 "r" tx_r)) (mSet_d (mOp_eq (x := .sh (.int a)) (y := .sh (.int 1)) rfl rfl (fSub_ok rfl rfl)))
  have down : 0 < b → mSeq (mSet 3 (mOp fAdd (mVar 3) (mC (.str (PySem.Str.ofString "d"))))) (mSet 2 (mOp fSub (mVar 2) (mC (.int 1)))) E = some (.nx (ETx s0 a (b - 1) (l ++ [100]) (.sh (.int v)))) := fun _ =>
    mSeq_n (mSet_d (addr 100 "d" tx_d)) (mSet_d (mOp_eq (x := .sh (.int b)) (y := .sh (.int 1)) rfl rfl (fSub_ok rfl rfl)))
  have other : ∀ {x : MS}, ∃ a' b' l', 0 ≤ a' ∧ a' ≤ a ∧ 0 ≤ b' ∧ b' ≤ b ∧ rdOnly l' ∧ l'.length ≤ l.length + 1 ∧ (mIfS (mTst (mOp fGt (mVar 2) (mC (.int 0)))) (mSeq (mSet 3 (mOp fAdd (mVar 3) (mC (.str (PySem.Str.ofString "d"))))) (mSet 2 (mOp fSub (mVar 2) (mC (.int 1))))) mNext) E = some (.nx (ETx s0 a' b' l' (.sh (.int v)))) := fun {_} => by
    have c3 : mTst (mOp fGt (mVar 2) (mC (.int 0))) E = some (decide (0 < b)) := mTst_b (mOp_eq w2 (y := .sh (.int 0)) rfl (fGt_ok rfl rfl))
    by_cases h : 0 < b
    · rw [decide_eq_true h] at c3
      exact ⟨a, b - 1, l ++ [100], ha, Int.le_refl _, by omega, by omega, rd1 100 (.inr rfl), by simp, by rw [mIfS_t c3]; exact down h⟩
    · rw [decide_eq_false h] at c3
      exact ⟨a, b, l, ha, Int.le_refl _, hb, Int.le_refl _, hs, by omega, by rw [mIfS_f c3]; rfl⟩
  by_cases h1 : 0 < a
  · rw [decide_eq_true h1] at c1
    have c4 : mTst (mOp fLt (mOp fMod (mVar 4) (mOp fAdd (mVar 1) (mVar 2))) (mVar 1)) E = some (decide (v % (a + b) < a)) :=
      mTst_b (mOp_eq (mOp_eq (x := .sh (.int v)) rfl (mOp_eq w1 w2 (fAdd_ok rfl rfl)) (fMod_ok rfl rfl (by omega))) w1 (fLt_ok rfl rfl))
    obtain ⟨u, hu⟩ : ∃ u, mOr (mTst (mOp fEq (mVar 2) (mC (.int 0)))) (mTst (mOp fLt (mOp fMod (mVar 4) (mOp fAdd (mVar 1) (mVar 2))) (mVar 1))) E = some u := by
      unfold mOr
      rw [c2]
      by_cases h2 : b = 0
      · exact ⟨true, by simp [h2]⟩
      · exact ⟨decide (v % (a + b) < a), by simp [h2, c4]⟩
    have cc : mAnd (mTst (mOp fGt (mVar 1) (mC (.int 0)))) (mOr (mTst (mOp fEq (mVar 2) (mC (.int 0)))) (mTst (mOp fLt (mOp fMod (mVar 4) (mOp fAdd (mVar 1) (mVar 2))) (mVar 1)))) E = some u := by
      unfold mAnd
      rw [c1]; exact hu
    cases u with
    | true => exact ⟨a - 1, b, l ++ [114], by omega, by omega, hb, Int.le_refl _, rd1 114 (.inl rfl), by simp, by unfold txBody; rw [mIfS_t cc]; exact right h1⟩
    | false =>
      obtain ⟨a', b', l', q1, q2, q3, q4, q5, q6, q7⟩ := other (x := mNext)
      exact ⟨a', b', l', q1, q2, q3, q4, q5, q6, by unfold txBody; rw [mIfS_f cc]; exact q7⟩
  · rw [decide_eq_false h1] at c1
    have cc : mAnd (mTst (mOp fGt (mVar 1) (mC (.int 0)))) (mOr (mTst (mOp fEq (mVar 2) (mC (.int 0)))) (mTst (mOp fLt (mOp fMod (mVar 4) (mOp fAdd (mVar 1) (mVar 2))) (mVar 1)))) E = some false := by
      unfold mAnd
      rw [c1]
    obtain ⟨a', b', l', q1, q2, q3, q4, q5, q6, q7⟩ := other (x := mNext)
    exact ⟨a', b', l', q1, q2, q3, q4, q5, q6, by unfold txBody; rw [mIfS_f cc]; exact q7⟩
theorem tx_loop {s0 : Sl} : ∀ (cs : List Int) (a b : Int) (l : List Nat), 0 ≤ a → 0 ≤ b → rdOnly l → l.length + cs.length ≤ 10000 →
    ∃ a' b' l', 0 ≤ a' ∧ a' ≤ a ∧ 0 ≤ b' ∧ b' ≤ b ∧ rdOnly l' ∧ l'.length ≤ l.length + cs.length ∧ forGo true (mgName 4) txBody [4] (cs.map .int) (ETx s0 a b l .dead) = some (.nx (ETx s0 a' b' l' .dead))
  | [], a, b, l, ha, hb, hs, _ => ⟨a, b, l, ha, Int.le_refl _, hb, Int.le_refl _, hs, Nat.le_refl _, rfl⟩
  | v :: cs, a, b, l, ha, hb, hs, hl => by
    rw [List.length_cons] at hl
    obtain ⟨a1, b1, l1, p1, p2, p3, p4, p5, p6, p7⟩ := txBody_ok (s0 := s0) (v := v) ha hb hs (by omega)
    obtain ⟨a2, b2, l2, q1, q2, q3, q4, q5, q6, q7⟩ := tx_loop (s0 := s0) cs a1 b1 l1 p1 p3 p5 (by omega)
    refine ⟨a2, b2, l2, q1, by omega, q3, by omega, q5, by rw [List.length_cons]; omega, ?_⟩
    show (match txBody (ETx s0 a b l (.sh (.int v))) with
      | some (.nx ρ2) => forGo true (mgName 4) txBody [4] (cs.map .int) (killE [4] ρ2)
      | some (.ct ρ2) => forGo true (mgName 4) txBody [4] (cs.map .int) (killE [4] ρ2)
      | some (.bk ρ2) => some (.nx ρ2)
      | o => o) = _
    rw [p7]
    exact q7
theorem lawText_ok {cs : List Int} {a b : Nat} (hc : cs.length ≤ 1000) (ha : a ≤ 100) (hb : b ≤ 100) : ∃ l, rdOnly l ∧ l.length ≤ 1200 ∧ g__law_text A [.lst (cs.map .int), .int a, .int b] = some (.ret (.d (.str (tx l)))) := by
  obtain ⟨a', b', l, q1, q2, q3, q4, q5, q6, q7⟩ := tx_loop (s0 := .sh (.lst (cs.map .int))) cs (a : Int) (b : Int) [] (by omega) (by omega) (fun _ m => by cases m) (by simp; omega)
  let l2 := l ++ List.replicate a'.toNat 114 ++ List.replicate b'.toNat 100
  simp only [List.length_nil, Nat.zero_add] at q6
  refine ⟨l2, fun x m => ?_, ?_, ?_⟩
  · simp only [l2, List.mem_append, List.mem_replicate] at m
    rcases m with (m | m) | m
    · exact q5 x m
    · exact .inl m.2
    · exact .inr m.2
  · simp only [l2, List.length_append, List.length_replicate]
    omega
  · refine run1 ?_
    have e1 : mSet 3 (mC (.str (PySem.Str.ofString ""))) [.sh (.lst (cs.map .int)), .sh (.int a), .sh (.int b), .dead, .dead] = some (.nx (ETx (.sh (.lst (cs.map .int))) a b [] .dead)) := by
      have := mSet_d (i := 3) (m := mC (.str (PySem.Str.ofString ""))) (ρ := [.sh (.lst (cs.map .int)), .sh (.int a), .sh (.int b), .dead, .dead]) (d := .str (tx [])) (by show some (R.sh (.str (Str.ofString ""))) = _; rw [tx_e])
      exact this
    refine mSeq_n e1 ?_
    show mSeq (mFor (mIL (mVar 0)) (mgName 4) txBody [4]) _ (ETx (.sh (.lst (cs.map .int))) a b [] .dead) = _
    have e2 : mFor (mIL (mVar 0)) (mgName 4) txBody [4] (ETx (.sh (.lst (cs.map .int))) a b [] .dead) = some (.nx (ETx (.sh (.lst (cs.map .int))) a' b' l .dead)) := by
      rw [mFor_eq (items := cs.map .int) (by simp [mIL, mVar, ETx, R.data, R.fixed])]
      exact q7
    refine mSeq_n e2 ?_
    let E := ETx (.sh (.lst (cs.map .int))) a' b' l .dead
    have m1 : mOp fMul (mC (.str (PySem.Str.ofString "r"))) (mVar 1) E = some (.sh (.str (tx (List.replicate a'.toNat 114)))) :=
      mOp_eq (x := .sh (.str (tx [114]))) (by show some (R.sh (.str (Str.ofString "r"))) = _; rw [tx_r]) (y := .sh (.int a')) rfl (fMul_s rfl rfl q1 (by omega))
    have m2 : mOp fMul (mC (.str (PySem.Str.ofString "d"))) (mVar 2) E = some (.sh (.str (tx (List.replicate b'.toNat 100)))) :=
      mOp_eq (x := .sh (.str (tx [100]))) (by show some (R.sh (.str (Str.ofString "d"))) = _; rw [tx_d]) (y := .sh (.int b')) rfl (fMul_s rfl rfl q3 (by omega))
    have m3 := mOp_eq (ma := mVar 3) (x := .sh (.str (tx l))) (ρ := E) rfl m1 (fAdd_s rfl rfl (by simp; omega))
    have m4 := mOp_eq m3 m2 (fAdd_s rfl rfl (by simp; omega))
    exact mRet_d m4 (by simp [imm])
end My

set_option Elab.async false
set_option linter.all false
set_option maxRecDepth 100000
set_option maxHeartbeats 4000000
namespace My
open PySem PySem.Spec PyProof.Rows L2 DL
variable {A : Ad}
/-! the lanes that the law makes -/
def NV (s : Sl) : Prop := ∀ x, s ≠ .vw x
theorem nv_dead : NV .dead := fun x z => nomatch z
theorem nv_sh (d : D) : NV (.sh d) := fun x z => nomatch z
theorem nv_tr (s : S) : NV (.tr s) := fun x z => nomatch z
theorem killVw_nv {ρ : DL.Env} (h : ∀ s ∈ ρ, NV s) : killVw ρ = ρ := by
  unfold killVw
  refine (List.map_congr_left fun s m => ?_).trans (List.map_id ρ)
  cases s with
  | vw x => exact (h _ m x rfl).elim
  | _ => rfl
def GL (L : List (List Nat)) (B : Nat) : Prop := ∀ l ∈ L, l.length ≤ B ∧ small l
theorem rd_small' {l : List Nat} (h : rdOnly l) : small l := rd_small h
theorem sTx_set (L : List (List Nat)) (k : Nat) (l : List Nat) : S.own ((L.map fun a => S.d (.str (tx a))).set k (.d (.str (tx l)))) = sTx (L.set k l) := by
  unfold sTx
  rw [List.map_set]
theorem part_ok {m : ME} {ρ : DL.Env} {z : R} {i : Int} (h : m ρ = some z) (hz : z.data = .int i) : mPart m ρ = some (some i) := by
  unfold mPart
  rw [h]
  simp only [hz]
section
variable {ρ : DL.Env} {L : List (List Nat)} {k : Nat} {l : List Nat}
theorem lane_get (h3 : ρ[3]? = some (.tr (sTx L))) (h4 : ρ[4]? = some (.sh (.int k))) (hl : L[k]? = some l) : mOp fIx (mVar 3) (mVar 4) ρ = some (.vw (.str (tx l))) := by
  have w3 : mVar 3 ρ = some (.vw (dTx L)) := by
    unfold mVar; rw [h3]
    show some (R.vw (sTx L).data) = _
    rw [sTx_data]
  have w4 : mVar 4 ρ = some (.sh (.int k)) := by unfold mVar; rw [h4]
  exact mOp_eq w3 w4 (fIx_vw (by rw [List.getElem?_map, hl]; rfl))
theorem lane_set (hn : ∀ s ∈ ρ, NV s) (h3 : ρ[3]? = some (.tr (sTx L))) (h4 : ρ[4]? = some (.sh (.int k))) (hk : k < L.length) {me : ME} {z : R} (hm : me ρ = some z) (hz : z.tree = some (.d (.str (tx l)))) : mSetIx (mpV 3) (mVar 4) me ρ = some (.nx (ρ.set 3 (.tr (sTx (L.set k l))))) := by
  have e1 : mpV 3 ρ = some (3, []) := by unfold mpV; rw [h3]; rfl
  have e2 : mVar 4 ρ = some (.sh (.int k)) := by unfold mVar; rw [h4]
  have e3 : S.get [] (sTx L) = some (.own (L.map fun a => .d (.str (tx a)))) := rfl
  have e4 : ixN (L.map fun a => S.d (.str (tx a))).length (k : Int) = some k := by
    unfold ixN
    rw [List.length_map]
    simp; omega
  unfold mSetIx
  rw [e1, e2, hm]
  simp only [h3, R.data, hz, e3, e4]
  rw [killVw_nv hn, sTx_set]
  rfl
theorem lane_app (hn : ∀ s ∈ ρ, NV s) (h3 : ρ[3]? = some (.tr (sTx L))) (hl : L.length < 100000) {me : ME} {z : R} (hm : me ρ = some z) (hz : z.tree = some (.d (.str (tx l)))) : mAppend (mpV 3) me ρ = some (.nx (ρ.set 3 (.tr (sTx (L ++ [l]))))) := by
  have e1 : mpV 3 ρ = some (3, []) := by unfold mpV; rw [h3]; rfl
  have e3 : S.get [] (sTx L) = some (.own (L.map fun a => .d (.str (tx a)))) := rfl
  unfold mAppend
  rw [e1, hm]
  simp only [h3, hz, e3]
  rw [if_pos (by rw [List.length_map]; exact hl), killVw_nv hn]
  have : S.own ((L.map fun a => S.d (.str (tx a))) ++ [.d (.str (tx l))]) = sTx (L ++ [l]) := by
    unfold sTx; rw [List.map_append]; rfl
  rw [this]; rfl
theorem lane_pop (hn : ∀ s ∈ ρ, NV s) (h3 : ρ[3]? = some (.tr (sTx L))) (h4 : ρ[4]? = some (.sh (.int k))) (hk : k < L.length) (hl : L.length ≤ 100000) : mPop (mpV 3) (mVar 4) ρ = some (.nx (ρ.set 3 (.tr (sTx (L.take k ++ L.drop (k + 1)))))) := by
  have e1 : mpV 3 ρ = some (3, []) := by unfold mpV; rw [h3]; rfl
  have e2 : mVar 4 ρ = some (.sh (.int k)) := by unfold mVar; rw [h4]
  have e3 : S.get [] (sTx L) = some (.own (L.map fun a => .d (.str (tx a)))) := rfl
  unfold mPop
  rw [e1, e2]
  simp only [h3, R.data, e3, Int.toNat_natCast]
  rw [if_pos ⟨by omega, by rw [List.length_map]; exact hk, by rw [List.length_map]; exact hl⟩, killVw_nv hn]
  have : S.own ((L.map fun a => S.d (.str (tx a))).eraseIdx k) = sTx (L.take k ++ L.drop (k + 1)) := by
    unfold sTx
    rw [List.eraseIdx_eq_take_drop_succ, List.map_append, List.map_take, List.map_drop]
  rw [this]; rfl
end
theorem GL.set {L : List (List Nat)} {B k : Nat} {l : List Nat} (G : GL L B) (h1 : l.length ≤ B) (h2 : small l) : GL (L.set k l) B := fun y m => by
  rcases List.mem_or_eq_of_mem_set m with m | rfl
  · exact G y m
  · exact ⟨h1, h2⟩
theorem GL.up {L : List (List Nat)} {B C : Nat} (G : GL L B) (h : B ≤ C) : GL L C := fun y m => ⟨Nat.le_trans (G y m).1 h, (G y m).2⟩
theorem small_app {a b : List Nat} (h1 : small a) (h2 : small b) : small (a ++ b) := fun x m => by
  rcases List.mem_append.mp m with m | m
  · exact h1 x m
  · exact h2 x m
theorem small_sub {a b : List Nat} (h : small b) (hs : ∀ x ∈ a, x ∈ b) : small a := fun x m => h x (hs x m)
end My

set_option Elab.async false
set_option linter.all false
set_option maxRecDepth 100000
set_option maxHeartbeats 4000000
namespace My
open PySem PySem.Spec PyProof.Rows L2 DL
variable {A : Ad}
def EL7 (ns : List Int) (r c h : Nat) (s2 s3 s4 s5 s6 s7 s8 s9 s10 s11 : Sl) : DL.Env := [.sh (.scr ns), .sh (dRoom r c h), s2, s3, s4, s5, s6, s7, s8, s9, s10, s11, .dead]
theorem nv_el {ns : List Int} {r c h : Nat} {s2 s3 s4 s5 s6 s7 s8 s9 s10 s11 : Sl} (h2 : NV s2) (h3 : NV s3) (h4 : NV s4) (h5 : NV s5) (h6 : NV s6) (h7 : NV s7) (h8 : NV s8) (h9 : NV s9) (h10 : NV s10) (h11 : NV s11) : ∀ s ∈ EL7 ns r c h s2 s3 s4 s5 s6 s7 s8 s9 s10 s11, NV s := fun s m => by
  simp only [EL7, List.mem_cons, List.not_mem_nil, or_false] at m
  rcases m with rfl | rfl | rfl | rfl | rfl | rfl | rfl | rfl | rfl | rfl | rfl | rfl | rfl
  · exact nv_sh _
  · exact nv_sh _
  · exact h2
  · exact h3
  · exact h4
  · exact h5
  · exact h6
  · exact h7
  · exact h8
  · exact h9
  · exact h10
  · exact h11
  · exact nv_dead
section
variable {ns : List Int} {r c h k a : Nat} {L : List (List Nat)} {B : Nat}
/-- two steps of a lane change places -/
theorem swap_ok {w : Int} (hk : k < L.length) (ha : w = 1 → ∀ l ∈ L, a < l.length) (G : GL L B) (hB : B ≤ 1300) :
    ∃ L' s6 s7, NV s6 ∧ NV s7 ∧ L'.length = L.length ∧ GL L' (B + 2) ∧ mIfS (mAnd (mTst (mOp fEq (mVar 2) (mC (.int 1)))) (mTst (mOp fGt (mVar 5) (mC (.int 0))))) (mSeq (mSet 6 (mOp fIx (mVar 3) (mVar 4)))
    (mSeq (mSet 7 (mOp fAdd (mOp fIx (mVar 6) (mVar 5)) (mOp fIx (mVar 6) (mOp fSub (mVar 5) (mC (.int 1))))))
    (mSetIx (mpV 3) (mVar 4) (mOp fAdd (mOp fAdd (mSl (mVar 6) mNoPart (mPart (mOp fSub (mVar 5) (mC (.int 1))))) (mVar 7)) (mSl (mVar 6) (mPart (mOp fAdd (mVar 5) (mC (.int 1)))) mNoPart))))) mNext (EL7 ns r c h (.sh (.int w)) (.tr (sTx L)) (.sh (.int k)) (.sh (.int a)) .dead .dead .dead .dead .dead .dead) = some (.nx (EL7 ns r c h (.sh (.int w)) (.tr (sTx L')) (.sh (.int k)) (.sh (.int a)) s6 s7 .dead .dead .dead .dead)) := by
  let d : Sl := .dead
  let E : List (List Nat) → Sl → Sl → DL.Env := fun L s6 s7 => EL7 ns r c h (.sh (.int w)) (.tr (sTx L)) (.sh (.int k)) (.sh (.int a)) s6 s7 d d d d
  have c1 : mTst (mOp fEq (mVar 2) (mC (.int 1))) (E L d d) = some (decide (w = 1)) := mTst_b (mOp_eq (x := .sh (.int w)) (y := .sh (.int 1)) rfl rfl (fEq_int rfl rfl))
  have c2 : mTst (mOp fGt (mVar 5) (mC (.int 0))) (E L d d) = some (decide ((0 : Int) < a)) := mTst_b (mOp_eq (x := .sh (.int a)) (y := .sh (.int 0)) rfl rfl (fGt_ok rfl rfl))
  have stay : ∀ {t : MT} {x : MS}, t (E L d d) = some false → ∃ L' s6 s7, NV s6 ∧ NV s7 ∧ L'.length = L.length ∧ GL L' (B + 2) ∧ mIfS t x mNext (E L d d) = some (.nx (E L' s6 s7)) := fun ht =>
    ⟨L, d, d, nv_dead, nv_dead, rfl, G.up (by omega), by rw [mIfS_f ht]; rfl⟩
  by_cases hw : w = 1
  rotate_left
  · exact stay (by unfold mAnd; rw [c1, decide_eq_false hw])
  by_cases h0 : 0 < a
  rotate_left
  · exact stay (by unfold mAnd; rw [c1, decide_eq_true hw]; show mTst _ _ = _; rw [c2, decide_eq_false (by omega)])
  obtain ⟨l, hl⟩ : ∃ l, L[k]? = some l := ⟨L[k], List.getElem?_eq_getElem hk⟩
  have hm := List.mem_of_getElem? hl
  have hal := ha hw l hm
  have gl := G l hm
  obtain ⟨x, hx⟩ : ∃ x, l[a]? = some x := ⟨l[a], List.getElem?_eq_getElem hal⟩
  obtain ⟨y, hy⟩ : ∃ y, l[a - 1]? = some y := ⟨l[a - 1], List.getElem?_eq_getElem (by omega)⟩
  let t6 : Sl := .sh (.str (tx l))
  have e6 : mSet 6 (mOp fIx (mVar 3) (mVar 4)) (E L d d) = some (.nx (E L t6 d)) := mSet_z (lane_get rfl rfl hl) rfl
  have sb : ∀ s7, mOp fSub (mVar 5) (mC (.int 1)) (E L t6 s7) = some (.sh (.int ((a - 1 : Nat) : Int))) := fun s7 => by
    have := mOp_eq (ma := mVar 5) (mb := mC (.int 1)) (ρ := E L t6 s7) (x := .sh (.int a)) (y := .sh (.int 1)) rfl rfl (fSub_ok rfl rfl)
    rw [this]; congr 3; omega
  have ad : ∀ s7, mOp fAdd (mVar 5) (mC (.int 1)) (E L t6 s7) = some (.sh (.int ((a + 1 : Nat) : Int))) := fun s7 => by
    have := mOp_eq (ma := mVar 5) (mb := mC (.int 1)) (ρ := E L t6 s7) (x := .sh (.int a)) (y := .sh (.int 1)) rfl rfl (fAdd_ok rfl rfl)
    rw [this]; congr 3
  have hll : l.length ≤ 100000 := by omega
  let t7 : Sl := .sh (.str (tx ([x] ++ [y])))
  have e7 : mSet 7 (mOp fAdd (mOp fIx (mVar 6) (mVar 5)) (mOp fIx (mVar 6) (mOp fSub (mVar 5) (mC (.int 1))))) (E L t6 d) = some (.nx (E L t6 t7)) :=
    mSet_d (mOp_eq (ix_text rfl (y := .sh (.int a)) rfl rfl hx hll) (ix_text rfl (sb d) rfl hy hll) (fAdd_s rfl rfl (by simp)))
  let l' := l.take (a - 1) ++ ([x] ++ [y]) ++ l.drop (a + 1)
  have s1 := sl_text (ρ := E L t6 t7) (m := mVar 6) (z := .sh (.str (tx l))) (ml := mNoPart) (mh := mPart (mOp fSub (mVar 5) (mC (.int 1)))) rfl rfl rfl (part_ok (sb t7) rfl) hll
  have s2 := sl_text (ρ := E L t6 t7) (m := mVar 6) (z := .sh (.str (tx l))) (ml := mPart (mOp fAdd (mVar 5) (mC (.int 1)))) (mh := mNoPart) rfl rfl (part_ok (ad t7) rfl) rfl hll
  rw [cut_take] at s1
  rw [cut_drop] at s2
  have l1 : (l.take (a - 1)).length ≤ l.length := by simp; omega
  have l2 : (l.drop (a + 1)).length ≤ l.length := by simp
  have e8 : mOp fAdd (mOp fAdd (mSl (mVar 6) mNoPart (mPart (mOp fSub (mVar 5) (mC (.int 1))))) (mVar 7)) (mSl (mVar 6) (mPart (mOp fAdd (mVar 5) (mC (.int 1)))) mNoPart) (E L t6 t7) = some (.sh (.str (tx l'))) :=
    mOp_eq (mOp_eq s1 (y := .sh (.str (tx ([x] ++ [y])))) rfl (fAdd_s rfl rfl (by simp; omega))) s2 (fAdd_s rfl rfl (by simp; omega))
  have e9 := lane_set (l := l') (ρ := E L t6 t7) (nv_el (nv_sh _) (nv_tr _) (nv_sh _) (nv_sh _) (nv_sh _) (nv_sh _) nv_dead nv_dead nv_dead nv_dead) rfl rfl hk e8 rfl
  refine ⟨L.set k l', t6, t7, nv_sh _, nv_sh _, by rw [List.length_set], (G.up (by omega)).set ?_ ?_, ?_⟩
  · simp [l']; omega
  · refine small_app (small_app (small_sub gl.2 fun z m => List.mem_of_mem_take m) (small_app (fun z m => ?_) fun z m => ?_)) (small_sub gl.2 fun z m => List.mem_of_mem_drop m)
    · rw [List.mem_singleton.mp m]; exact gl.2 x (List.mem_of_getElem? hx)
    · rw [List.mem_singleton.mp m]; exact gl.2 y (List.mem_of_getElem? hy)
  · have ct : mAnd (mTst (mOp fEq (mVar 2) (mC (.int 1)))) (mTst (mOp fGt (mVar 5) (mC (.int 0)))) (E L d d) = some true := by
      unfold mAnd; rw [c1, decide_eq_true hw]; show mTst _ _ = _; rw [c2, decide_eq_true (by omega)]
    show mIfS _ _ _ (E L d d) = _
    rw [mIfS_t ct]
    exact mSeq_n e6 (mSeq_n e7 e9)
/-- one lane is spoilt -/
def oddM (A : Ad) : MS := (mSeq (mIfS (mTst (mOp fEq (mVar 11) (mC (.int 0)))) (mAppend (mpV 3) (mOp fIx (mVar 3) (mVar 4))) mNext)
    (mSeq (mIfS (mTst (mOp fEq (mVar 11) (mC (.int 1)))) (mPop (mpV 3) (mVar 4)) mNext)
    (mSeq (mIfS (mTst (mOp fEq (mVar 11) (mC (.int 2)))) (mSetIx (mpV 3) (mVar 4) (mOp fAdd (mOp fIx (mVar 3) (mVar 4)) (mOp fIx (mC (.str (PySem.Str.ofString "rd"))) (mOp fMod (mVar 5) (mC (.int 2)))))) mNext)
    (mSeq (mIfS (mTst (mOp fEq (mVar 11) (mC (.int 3)))) (mSetIx (mpV 3) (mVar 4) (mOp fAdd (mSl (mOp fIx (mVar 3) (mVar 4)) mNoPart (mPart (mVar 5))) (mSl (mOp fIx (mVar 3) (mVar 4)) (mPart (mOp fAdd (mVar 5) (mC (.int 1)))) mNoPart))) mNext)
    (mSeq (mIfS (mTst (mOp fEq (mVar 11) (mC (.int 4)))) (mSeq (mSet 6 (mOp fIx (mVar 3) (mVar 4)))
    (mSetIx (mpV 3) (mVar 4) (mOp fAdd (mOp fAdd (mSl (mVar 6) mNoPart (mPart (mVar 5))) (mOp fIx (mC (.str (PySem.Str.ofString "rdxx"))) (mOp fMod (mOp fDiv (mCall 2 (g__law_of A) (mCons (mVar 0) (mCons (mC (.int 2)) mNil))) (mC (.int 999))) (mC (.int 4))))) (mSl (mVar 6) (mPart (mOp fAdd (mVar 5) (mC (.int 1)))) mNoPart)))) mNext)
    (mRetV 3))))))
theorem tx_rdxx : Str.ofString "rdxx" = tx [114, 100, 120, 120] := by decide
theorem odd_ok {s2 s8 s9 : Sl} {o v2 : Int} (n2 : NV s2) (n8 : NV s8) (n9 : NV s9) (hv : g__law_of A [.scr ns, .int 2] = some (.ret (.d (.int v2)))) (hk : k < L.length) (hL : L.length ≤ 10) (G : GL L B) (hB : B ≤ 1310) :
    ∃ L', L'.length ≤ 20 ∧ GL L' (B + 2) ∧ oddM A (EL7 ns r c h s2 (.tr (sTx L)) (.sh (.int k)) (.sh (.int a)) .dead .dead s8 s9 .dead (.sh (.int o))) = some (.rt (sTx L')) := by
  let d : Sl := .dead
  let E : List (List Nat) → Sl → DL.Env := fun L s6 => EL7 ns r c h s2 (.tr (sTx L)) (.sh (.int k)) (.sh (.int a)) s6 d s8 s9 d (.sh (.int o))
  have nE : ∀ L s6, NV s6 → ∀ s ∈ E L s6, NV s := fun L s6 h6 => nv_el n2 (nv_tr _) (nv_sh _) (nv_sh _) h6 nv_dead n8 n9 nv_dead (nv_sh _)
  obtain ⟨l, hl⟩ : ∃ l, L[k]? = some l := ⟨L[k], List.getElem?_eq_getElem hk⟩
  have gl := G l (List.mem_of_getElem? hl)
  have hll : l.length ≤ 100000 := by omega
  have tst : ∀ (L : List (List Nat)) (s6 : Sl) (j : Int), mTst (mOp fEq (mVar 11) (mC (.int j))) (E L s6) = some (decide (o = j)) := fun L s6 j => mTst_b (mOp_eq (x := .sh (.int o)) (y := .sh (.int j)) rfl rfl (fEq_int rfl rfl))
  have no : ∀ {L : List (List Nat)} {s6 : Sl} {j : Int} {x y : MS} {z : Option Out}, o ≠ j → y (E L s6) = z → mSeq (mIfS (mTst (mOp fEq (mVar 11) (mC (.int j)))) x mNext) y (E L s6) = z := fun hj hy => mSeq_n (ρ1 := E _ _) (by rw [mIfS_f (by rw [tst, decide_eq_false hj])]; rfl) hy
  have yes : ∀ {L L' : List (List Nat)} {s6 s6' : Sl} {j : Int} {x y : MS} {z : Option Out}, o = j → x (E L s6) = some (.nx (E L' s6')) → y (E L' s6') = z → mSeq (mIfS (mTst (mOp fEq (mVar 11) (mC (.int j)))) x mNext) y (E L s6) = z := fun hj hx hy => mSeq_n (ρ1 := E _ _) (by rw [mIfS_t (by rw [tst, decide_eq_true hj])]; exact hx) hy
  have fin : ∀ L s6, mRetV 3 (E L s6) = some (.rt (sTx L)) := fun L s6 => rfl
  have get : ∀ s6, mOp fIx (mVar 3) (mVar 4) (E L s6) = some (.vw (.str (tx l))) := fun s6 => lane_get rfl rfl hl
  have ad : ∀ s6, mOp fAdd (mVar 5) (mC (.int 1)) (E L s6) = some (.sh (.int ((a + 1 : Nat) : Int))) := fun s6 => by
    have := mOp_eq (ma := mVar 5) (mb := mC (.int 1)) (ρ := E L s6) (x := .sh (.int a)) (y := .sh (.int 1)) rfl rfl (fAdd_ok rfl rfl)
    rw [this]; congr 3
  have l1 : (l.take a).length ≤ l.length := by simp; omega
  have l2 : (l.drop (a + 1)).length ≤ l.length := by simp
  show ∃ L', L'.length ≤ 20 ∧ GL L' (B + 2) ∧ oddM A (E L d) = some (.rt (sTx L'))
  by_cases h0 : o = 0
  · refine ⟨L ++ [l], by simp; omega, fun y m => ?_, yes h0 (lane_app (nE L d nv_dead) rfl (by omega) (get d) rfl) (no (by omega) (no (by omega) (no (by omega) (no (by omega) (fin _ _)))))⟩
    rcases List.mem_append.mp m with m | m
    · exact (G.up (by omega)) y m
    · rw [List.mem_singleton.mp m]; exact ⟨by omega, gl.2⟩
  by_cases h1 : o = 1
  · refine ⟨L.take k ++ L.drop (k + 1), by simp; omega, fun y m => ?_, no h0 (yes h1 (lane_pop (nE L d nv_dead) rfl rfl hk (by omega)) (no (by omega) (no (by omega) (no (by omega) (fin _ _)))))⟩
    rcases List.mem_append.mp m with m | m
    · exact (G.up (by omega)) y (List.mem_of_mem_take m)
    · exact (G.up (by omega)) y (List.mem_of_mem_drop m)
  by_cases h2 : o = 2
  · have hi := Int.emod_nonneg (a : Int) (b := 2) (by decide)
    have hi2 := Int.emod_lt_of_pos (a : Int) (b := 2) (by decide)
    obtain ⟨i, hie⟩ : ∃ i : Nat, (a : Int) % 2 = i := ⟨((a : Int) % 2).toNat, by omega⟩
    obtain ⟨x, hx, hxs⟩ : ∃ x, [114, 100][i]? = some x ∧ (x = 114 ∨ x = 100) := by
      have : i = 0 ∨ i = 1 := by omega
      rcases this with rfl | rfl
      · exact ⟨114, rfl, .inl rfl⟩
      · exact ⟨100, rfl, .inr rfl⟩
    have e1 : mOp fMod (mVar 5) (mC (.int 2)) (E L d) = some (.sh (.int i)) := by
      have := mOp_eq (ma := mVar 5) (mb := mC (.int 2)) (ρ := E L d) (x := .sh (.int a)) (y := .sh (.int 2)) rfl rfl (fMod_ok rfl rfl (by decide))
      rwa [hie] at this
    have e2 : mOp fIx (mC (.str (PySem.Str.ofString "rd"))) (mOp fMod (mVar 5) (mC (.int 2))) (E L d) = some (.sh (.str (tx [x]))) := ix_text (l := [114, 100]) (by show some (R.sh (.str (Str.ofString "rd"))) = _; rw [tx_rd]) e1 rfl hx (by decide)
    have e3 := mOp_eq (get d) e2 (fAdd_s rfl rfl (by simp; omega))
    refine ⟨L.set k (l ++ [x]), by rw [List.length_set]; omega, (G.up (by omega)).set (by simp; omega) (small_app gl.2 (rd_small fun z m => by rw [List.mem_singleton.mp m]; exact hxs)), no h0 (no h1 (yes h2 (lane_set (nE L d nv_dead) rfl rfl hk e3 rfl) (no (by omega) (no (by omega) (fin _ _)))))⟩
  by_cases h3 : o = 3
  · have s1 := sl_text (ρ := E L d) (z := .vw (.str (tx l))) (ml := mNoPart) (mh := mPart (mVar 5)) (get d) rfl rfl (part_ok (z := .sh (.int a)) (i := a) rfl rfl) hll
    have s2 := sl_text (ρ := E L d) (z := .vw (.str (tx l))) (ml := mPart (mOp fAdd (mVar 5) (mC (.int 1)))) (mh := mNoPart) (get d) rfl (part_ok (ad d) rfl) rfl hll
    rw [cut_take] at s1
    rw [cut_drop] at s2
    have e3 := mOp_eq s1 s2 (fAdd_s rfl rfl (by omega))
    refine ⟨L.set k (l.take a ++ l.drop (a + 1)), by rw [List.length_set]; omega, (G.up (by omega)).set (by simp; omega) (small_app (small_sub gl.2 fun z m => List.mem_of_mem_take m) (small_sub gl.2 fun z m => List.mem_of_mem_drop m)), no h0 (no h1 (no h2 (yes h3 (lane_set (nE L d nv_dead) rfl rfl hk e3 rfl) (no (by omega) (fin _ _)))))⟩
  by_cases h4 : o = 4
  · let t6 : Sl := .sh (.str (tx l))
    have e6 : mSet 6 (mOp fIx (mVar 3) (mVar 4)) (E L d) = some (.nx (E L t6)) := mSet_z (get d) rfl
    have lw : mCall 2 (g__law_of A) (mCons (mVar 0) (mCons (mC (.int 2)) mNil)) (E L t6) = some (.sh (.int v2)) := mCall_d (rs := [.sh (.scr ns), .sh (.int 2)]) (two rfl rfl) rfl hv
    have hi := Int.emod_nonneg (v2 / 999) (b := 4) (by decide)
    have hi2 := Int.emod_lt_of_pos (v2 / 999) (b := 4) (by decide)
    obtain ⟨i, hie⟩ : ∃ i : Nat, v2 / 999 % 4 = i := ⟨(v2 / 999 % 4).toNat, by omega⟩
    obtain ⟨x, hx, hxs⟩ : ∃ x, [114, 100, 120, 120][i]? = some x ∧ x < 1114112 := by
      have : i = 0 ∨ i = 1 ∨ i = 2 ∨ i = 3 := by omega
      rcases this with rfl | rfl | rfl | rfl
      · exact ⟨114, rfl, by decide⟩
      · exact ⟨100, rfl, by decide⟩
      · exact ⟨120, rfl, by decide⟩
      · exact ⟨120, rfl, by decide⟩
    have e1 : mOp fMod (mOp fDiv (mCall 2 (g__law_of A) (mCons (mVar 0) (mCons (mC (.int 2)) mNil))) (mC (.int 999))) (mC (.int 4)) (E L t6) = some (.sh (.int i)) := by
      have := mOp_eq (mOp_eq lw (mb := mC (.int 999)) (y := .sh (.int 999)) rfl (fDiv_ok rfl rfl ⟨by decide, by decide⟩)) (mb := mC (.int 4)) (y := .sh (.int 4)) rfl (fMod_ok rfl rfl (by decide))
      rwa [hie] at this
    have e2 : mOp fIx (mC (.str (PySem.Str.ofString "rdxx"))) (mOp fMod (mOp fDiv (mCall 2 (g__law_of A) (mCons (mVar 0) (mCons (mC (.int 2)) mNil))) (mC (.int 999))) (mC (.int 4))) (E L t6) = some (.sh (.str (tx [x]))) := ix_text (l := [114, 100, 120, 120]) (by show some (R.sh (.str (Str.ofString "rdxx"))) = _; rw [tx_rdxx]) e1 rfl hx (by decide)
    have s1 := sl_text (ρ := E L t6) (m := mVar 6) (z := .sh (.str (tx l))) (ml := mNoPart) (mh := mPart (mVar 5)) rfl rfl rfl (part_ok (z := .sh (.int a)) (i := a) rfl rfl) hll
    have s2 := sl_text (ρ := E L t6) (m := mVar 6) (z := .sh (.str (tx l))) (ml := mPart (mOp fAdd (mVar 5) (mC (.int 1)))) (mh := mNoPart) rfl rfl (part_ok (ad t6) rfl) rfl hll
    rw [cut_take] at s1
    rw [cut_drop] at s2
    have e3 := mOp_eq (mOp_eq s1 e2 (fAdd_s rfl rfl (by simp; omega))) s2 (fAdd_s rfl rfl (by simp; omega))
    refine ⟨L.set k (l.take a ++ [x] ++ l.drop (a + 1)), by rw [List.length_set]; omega, (G.up (by omega)).set (by simp; omega) (small_app (small_app (small_sub gl.2 fun z m => List.mem_of_mem_take m) (fun z m => by rw [List.mem_singleton.mp m]; exact hxs)) (small_sub gl.2 fun z m => List.mem_of_mem_drop m)), no h0 (no h1 (no h2 (no h3 (yes h4 (mSeq_n e6 (lane_set (nE L t6 (nv_sh _)) rfl rfl hk e3 rfl)) (fin _ _)))))⟩
  · exact ⟨L, by omega, G.up (by omega), no h0 (no h1 (no h2 (no h3 (no h4 (fin _ _)))))⟩
end
end My

set_option Elab.async false
set_option linter.all false
set_option maxRecDepth 100000
set_option maxHeartbeats 4000000
namespace My
open PySem PySem.Spec PyProof.Rows L2 DL
variable {A : Ad}
def tableLc (A : Ad) : ME := (mLc (mIL (mCall 3 (g__law_table A) (mCons (mVar 0) (mCons (mC (.int 3)) (mCons (mVar 1) mNil))))) (mgName 12) mYes (mCall 2 (g__law_lane A) (mCons (mVar 12) (mCons (mOp fIx (mVar 1) (mC (.int 2))) mNil))) [12])
theorem ft7 {α : Type} (xs : List α) : xs.filter (fun _ => true) = xs := List.filter_eq_self.mpr fun _ _ => rfl
theorem tableLc_ok {ns : List Int} (hns : ns.length ≤ 63) {r c h : Nat} (M : Rm r c h) {s2 : Sl} : ∃ L, L.length = r ∧ (∀ l ∈ L, l.length = c + h ∧ small l) ∧ tableLc A (EL7 ns r c h s2 .dead .dead .dead .dead .dead .dead .dead .dead .dead) = some (.tr (sTx L)) := by
  obtain ⟨t, ⟨F, hl⟩, ht⟩ := table_fl (k0 := 3) (A := A) (by decide) hns M
  have hr := M.r; have hc := M.c; have hh := M.h
  refine ⟨t.map (laneC h), by rw [List.length_map]; exact hl, fun l m => ?_, ?_⟩
  · obtain ⟨x, hx, rfl⟩ := List.mem_map.mp m
    obtain ⟨i, hi⟩ := List.getElem?_of_mem hx
    refine ⟨?_, laneC_small _ _⟩
    rw [laneC_len (F.rw_at hi), F.row x hx]; omega
  · unfold tableLc
    rw [mLc_eval (s := true) (items := t.map dRow) (fun _ => true) (fun d => .sh (.str (tx (laneC h (rowOf d))))) (fun d => .d (.str (tx (laneC h (rowOf d)))))]
    · rw [ft7, List.map_map]
      simp [sTx, Function.comp_def, rowOf_row]
    · have w : mCall 3 (g__law_table A) (mCons (mVar 0) (mCons (mC (.int 3)) (mCons (mVar 1) mNil))) (EL7 ns r c h s2 .dead .dead .dead .dead .dead .dead .dead .dead .dead) = some (.tr (sTab t)) :=
        mCall_t (rs := [.sh (.scr ns), .sh (.int 3), .sh (dRoom r c h)]) (three rfl rfl rfl) rfl ht
      simp [mIL, w, R.data, sTab_data, dTab, R.fixed, dRow]
    · simp; omega
    · rfl
    · intro d m
      obtain ⟨x, hx, rfl⟩ := List.mem_map.mp m
      refine ⟨_, rfl, rfl, fun _ => ⟨?_, by simp [R.tree, imm]⟩⟩
      obtain ⟨i, hi⟩ := List.getElem?_of_mem hx
      have hxl := F.row x hx
      rw [rowOf_row]
      exact mCall_d (rs := [.sh (dRow x), .sh (.int h)]) (two rfl (room_ix (k := 1) (r := r) (c := c) (h := h) rfl).2.2) rfl (lawLane_ok (F.rw_at hi) (by omega) (by omega) (fun z => by subst z; simp at hxl; omega))
/-! texts drawn each by itself -/
def cellsLc (A : Ad) : ME := (mLc (mRg1 (mCons (mOp fMul (mVar 8) (mOp fIx (mVar 1) (mC (.int 0)))) mNil)) (mgName 10) mYes (mOp fDiv (mCall 2 (g__law_drawn A) (mCons (mVar 0) (mCons (mOp fAdd (mC (.int 3)) (mVar 10)) mNil))) (mC (.int 7))) [10])
theorem cellsLc_ok {ns : List Int} (hns : ns.length ≤ 63) {r c h : Nat} (M : Rm r c h) {s4 s5 : Sl} : ∃ cs : List Int, cs.length ≤ 1000 ∧ cellsLc A (EL7 ns r c h .dead .dead s4 s5 .dead .dead (.sh (.int (c + h))) .dead .dead .dead) = some (.tr (sRow cs)) := by
  have hr := M.r; have hc := M.c; have hh := M.h
  have key : ∀ k : Nat, ∃ v, k < 900000 → g__law_drawn A [.scr ns, .int (3 + (k : Int))] = some (.ret (.d (.int v))) := fun k => by
    by_cases hk : k < 900000
    · obtain ⟨v, hv⟩ := drawn_ok (A := A) ns hns (3 + k) (by omega)
      exact ⟨v, fun _ => by rw [← hv]; congr 3⟩
    · exact ⟨0, fun z => absurd z hk⟩
  let cell : Nat → Int := fun k => Classical.choose (key k) / 7
  have hcell : ∀ k : Nat, k < 900000 → g__law_drawn A [.scr ns, .int (3 + (k : Int))] = some (.ret (.d (.int (Classical.choose (key k))))) := fun k => Classical.choose_spec (key k)
  have hle : (c + h) * r ≤ 240 := Nat.le_trans (Nat.mul_le_mul (by omega : c + h ≤ 40) hr.2) (by decide)
  let nat : D → Nat := fun d => match d with | .int k => k.toNat | _ => 0
  refine ⟨((List.range ((c + h) * r)).map cell), by simp; omega, ?_⟩
  unfold cellsLc
  rw [mLc_eval (s := true) (items := rg 0 ((c + h) * r)) (fun _ => true) (fun d => .sh (.int (cell (nat d)))) (fun d => .d (.int (cell (nat d))))]
  · rw [ft7]
    simp only [rg, List.map_map, sRow]
    refine congrArg (fun x => some (R.tr (S.own x))) (List.map_congr_left fun k _ => ?_)
    show S.d (D.int (cell (0 + (k : Int)).toNat)) = S.d (D.int (cell k))
    rw [show (0 + (k : Int)).toNat = k by omega]
  · refine mRg1_eval (r := .sh (.int (((c + h) * r : Nat) : Int))) (one ?_) rfl (by omega)
    have := mOp_eq (ma := mVar 8) (mb := mOp fIx (mVar 1) (mC (.int 0))) (ρ := EL7 ns r c h .dead .dead s4 s5 .dead .dead (.sh (.int (c + h))) .dead .dead .dead) (x := .sh (.int (c + h))) rfl (room_ix (k := 1) (r := r) (c := c) (h := h) rfl).1 (fMul_ok rfl rfl (.inl ⟨by omega, by omega⟩))
    rw [this]; congr 3
  · simp [rg]; omega
  · rfl
  · intro d m
    obtain ⟨i, hi⟩ := List.getElem?_of_mem m
    obtain ⟨hi, rfl⟩ := rg_at hi
    refine ⟨_, rfl, rfl, fun _ => ⟨?_, by simp [R.tree, imm]⟩⟩
    have : nat (.int (i : Int)) = i := by simp [nat]
    rw [this]
    refine mOp_eq (drawn_c (z3 := 3 + (i : Int)) (ns := ns) rfl ?_ (hcell i (by omega))) (y := .sh (.int 7)) rfl (fDiv_ok rfl rfl ⟨by decide, by decide⟩)
    exact mOp_eq (x := .sh (.int 3)) (y := .sh (.int i)) rfl rfl (fAdd_ok rfl rfl)
def textLoop (A : Ad) : MS := (mFor (mRg1 (mCons (mOp fIx (mVar 1) (mC (.int 0))) mNil)) (mgName 10) (mAppend (mpV 3) (mCall 3 (g__law_text A) (mCons (mSl (mVar 9) (mPart (mOp fMul (mVar 8) (mVar 10))) (mPart (mOp fAdd (mOp fMul (mVar 8) (mVar 10)) (mVar 8)))) (mCons (mOp fIx (mVar 1) (mC (.int 1))) (mCons (mOp fIx (mVar 1) (mC (.int 2))) mNil))))) [10])
theorem cut_map7 (xs : List Int) (a b : Option Int) : cut (xs.map D.int) a b = (cut xs a b).map .int := by
  unfold cut
  rw [List.length_map, ← List.map_drop, ← List.map_take]
def textStep (A : Ad) : MS := (mAppend (mpV 3) (mCall 3 (g__law_text A) (mCons (mSl (mVar 9) (mPart (mOp fMul (mVar 8) (mVar 10))) (mPart (mOp fAdd (mOp fMul (mVar 8) (mVar 10)) (mVar 8)))) (mCons (mOp fIx (mVar 1) (mC (.int 1))) (mCons (mOp fIx (mVar 1) (mC (.int 2))) mNil)))))
theorem slice_ok {ρ : DL.Env} {cs : List Int} {n k : Int} (h8 : mVar 8 ρ = some (.sh (.int n))) (h9 : mVar 9 ρ = some (.vw (dRow cs))) (h10 : mVar 10 ρ = some (.sh (.int k))) (hn : CMul n k) : ∃ a b, mSl (mVar 9) (mPart (mOp fMul (mVar 8) (mVar 10))) (mPart (mOp fAdd (mOp fMul (mVar 8) (mVar 10)) (mVar 8))) ρ = some (newL ((cut cs a b).map .int)) := by
  have mu : mOp fMul (mVar 8) (mVar 10) ρ = some (.sh (.int (n * k))) := mOp_eq h8 h10 (fMul_ok rfl rfl hn)
  have ad := mOp_eq mu h8 (fAdd_ok rfl rfl)
  refine ⟨some (n * k), some (n * k + n), ?_⟩
  unfold mSl
  rw [h9, part_ok mu rfl, part_ok ad rfl]
  show fSl (dRow cs) _ _ = _
  unfold dRow
  show some (newL _) = _
  rw [cut_map7]
theorem textStep_ok {ns : List Int} {r c h : Nat} (M : Rm r c h) {s4 s5 : Sl} (n4 : NV s4) (n5 : NV s5) {cs : List Int} (hcs : cs.length ≤ 1000) {L : List (List Nat)} {k : Nat} (hk : k < 6) (hL : L.length ≤ 6) : ∃ l, (l.length ≤ 1200 ∧ small l) ∧ textStep A (EL7 ns r c h .dead (.tr (sTx L)) s4 s5 .dead .dead (.sh (.int (c + h))) (.tr (sRow cs)) (.sh (.int k)) .dead) = some (.nx (EL7 ns r c h .dead (.tr (sTx (L ++ [l]))) s4 s5 .dead .dead (.sh (.int (c + h))) (.tr (sRow cs)) (.sh (.int k)) .dead)) := by
  have hr := M.r; have hc := M.c; have hh := M.h
  have x0 := room_ix (ρ := EL7 ns r c h .dead (.tr (sTx L)) s4 s5 .dead .dead (.sh (.int (c + h))) (.tr (sRow cs)) (.sh (.int k)) .dead) (k := 1) (r := r) (c := c) (h := h) rfl
  have h9 : mVar 9 (EL7 ns r c h .dead (.tr (sTx L)) s4 s5 .dead .dead (.sh (.int (c + h))) (.tr (sRow cs)) (.sh (.int k)) .dead) = some (.vw (dRow cs)) := by
    rw [← sRow_data]; rfl
  obtain ⟨a, b, sl⟩ := slice_ok (ρ := EL7 ns r c h .dead (.tr (sTx L)) s4 s5 .dead .dead (.sh (.int (c + h))) (.tr (sRow cs)) (.sh (.int k)) .dead) (cs := cs) (n := c + h) (k := k) rfl h9 rfl (.inl ⟨by omega, by omega⟩)
  obtain ⟨l, hrd, hlen, hl⟩ := lawText_ok (A := A) (cs := cut cs a b) (a := c) (b := h) (Nat.le_trans (cut_len _ _ _) hcs) (by omega) (by omega)
  have hd : (newL ((cut cs a b).map D.int)).data = .lst ((cut cs a b).map D.int) := newL_data _
  generalize newL ((cut cs a b).map D.int) = z at sl hd
  have e0 : mCall 3 (g__law_text A) (mCons (mSl (mVar 9) (mPart (mOp fMul (mVar 8) (mVar 10))) (mPart (mOp fAdd (mOp fMul (mVar 8) (mVar 10)) (mVar 8)))) (mCons (mOp fIx (mVar 1) (mC (.int 1))) (mCons (mOp fIx (mVar 1) (mC (.int 2))) mNil))) (EL7 ns r c h .dead (.tr (sTx L)) s4 s5 .dead .dead (.sh (.int (c + h))) (.tr (sRow cs)) (.sh (.int k)) .dead) = some (.sh (.str (tx l))) :=
    mCall_d (rs := [z, .sh (.int c), .sh (.int h)]) (three sl x0.2.1 x0.2.2) rfl (by rw [List.map_cons, hd]; exact hl)
  refine ⟨l, ⟨hlen, rd_small hrd⟩, ?_⟩
  unfold textStep
  rw [lane_app (L := L) (l := l) (nv_el nv_dead (nv_tr _) n4 n5 nv_dead nv_dead (nv_sh _) (nv_tr _) (nv_sh _) nv_dead) rfl (by omega) e0 rfl]
  rfl
theorem textLoop_ok {ns : List Int} {r c h : Nat} (M : Rm r c h) {s4 s5 : Sl} (n4 : NV s4) (n5 : NV s5) {cs : List Int} (hcs : cs.length ≤ 1000) : ∃ L, L.length = r ∧ GL L 1200 ∧ textLoop A (EL7 ns r c h .dead (.tr (sTx [])) s4 s5 .dead .dead (.sh (.int (c + h))) (.tr (sRow cs)) .dead .dead) = some (.nx (EL7 ns r c h .dead (.tr (sTx L)) s4 s5 .dead .dead (.sh (.int (c + h))) (.tr (sRow cs)) .dead .dead)) := by
  have hr := M.r
  unfold textLoop
  rw [mFor_eq (mRg1_eval (one (room_ix (k := 1) (r := r) (c := c) (h := h) rfl).1) rfl (by omega))]
  obtain ⟨ρ, h1, L, hL, G, rfl⟩ := forGo_inv (s := true) (g := mgName 10) (body := textStep A) (ks := [10]) (items := rg 0 r) (ρ0 := EL7 ns r c h .dead (.tr (sTx [])) s4 s5 .dead .dead (.sh (.int (c + h))) (.tr (sRow cs)) .dead .dead)
      (fun k ρ => ∃ L : List (List Nat), L.length = k ∧ GL L 1200 ∧ ρ = EL7 ns r c h .dead (.tr (sTx L)) s4 s5 .dead .dead (.sh (.int (c + h))) (.tr (sRow cs)) .dead .dead) ⟨[], rfl, fun y m => (List.not_mem_nil m).elim, rfl⟩ fun k d ρ hd hI => by
    obtain ⟨L, hL, G, rfl⟩ := hI
    obtain ⟨hk, rfl⟩ := rg_at hd
    obtain ⟨l, gl, e⟩ := textStep_ok (A := A) (ns := ns) M n4 n5 hcs (L := L) (k := k) (by omega) (by omega)
    refine ⟨_, _, rfl, .inl e, L ++ [l], by simp [hL], fun y m => ?_, rfl⟩
    rcases List.mem_append.mp m with m | m
    · exact G y m
    · rw [List.mem_singleton.mp m]; exact gl
  exact ⟨L, by rw [hL]; simp [rg], G, h1⟩
/-! all lanes of a script -/
theorem law_lanes_ok {ns : List Int} (hns : ns.length ≤ 63) {r c h : Nat} (M : Rm r c h) : ∃ L, L.length ≤ 20 ∧ GL L 1310 ∧ g__law_lanes A [.scr ns, dRoom r c h] = some (.ret (sTx L)) := by
  have hr := M.r; have hc := M.c; have hh := M.h
  obtain ⟨v1, hv1⟩ := law_of_any (A := A) ns hns 1
  obtain ⟨v2, hv2⟩ := law_of_any (A := A) ns hns 2
  have law1 : ∀ ρ : DL.Env, ρ[0]? = some (.sh (.scr ns)) → mCall 2 (g__law_of A) (mCons (mVar 0) (mCons (mC (.int 1)) mNil)) ρ = some (.sh (.int v1)) := fun ρ h0 =>
    mCall_d (rs := [.sh (.scr ns), .sh (.int 1)]) (two (by simp [mVar, h0]) rfl) rfl hv1
  have law2 : ∀ ρ : DL.Env, ρ[0]? = some (.sh (.scr ns)) → mCall 2 (g__law_of A) (mCons (mVar 0) (mCons (mC (.int 2)) mNil)) ρ = some (.sh (.int v2)) := fun ρ h0 =>
    mCall_d (rs := [.sh (.scr ns), .sh (.int 2)]) (two (by simp [mVar, h0]) rfl) rfl hv2
  let d : Sl := .dead
  let W : Sl := .sh (.int (v1 % 3))
  obtain ⟨L0, l0, g0, e0⟩ := tableLc_ok (A := A) hns M (s2 := W)
  obtain ⟨k, hk⟩ : ∃ k : Nat, v2 % (r : Int) = k := ⟨(v2 % (r : Int)).toNat, by have := Int.emod_nonneg v2 (show (r : Int) ≠ 0 by omega); omega⟩
  have hkr : k < r := by have := Int.emod_lt_of_pos v2 (show (0 : Int) < r by omega); omega
  obtain ⟨a, ha⟩ : ∃ a : Nat, v2 / 6 % ((c : Int) + h) = a := ⟨(v2 / 6 % ((c : Int) + h)).toNat, by have := Int.emod_nonneg (v2 / 6) (show (c : Int) + h ≠ 0 by omega); omega⟩
  have hal : a < c + h := by have := Int.emod_lt_of_pos (v2 / 6) (show (0 : Int) < (c : Int) + h by omega); omega
  have G0 : GL L0 40 := fun l m => ⟨by have := (g0 l m).1; omega, (g0 l m).2⟩
  obtain ⟨L1, t6, t7, n6, n7, l1, G1, e1⟩ := swap_ok (ns := ns) (r := r) (c := c) (h := h) (k := k) (a := a) (w := v1 % 3) (by omega) (fun _ l m => by have := (g0 l m).1; omega) G0 (by decide)
  obtain ⟨s2, L2, s8, s9, m2, m8, m9, l2, G2, e2⟩ : ∃ s2 L2 s8 s9, NV s2 ∧ NV s8 ∧ NV s9 ∧ L2.length = r ∧ GL L2 1200 ∧ mIfS (mTst (mOp fEq (mVar 2) (mC (.int 2)))) (mSeq (mSet 8 (mOp fAdd (mOp fIx (mVar 1) (mC (.int 1))) (mOp fIx (mVar 1) (mC (.int 2)))))
    (mKill [2, 3, 6, 7, 9, 10, 11] (mSeq (mSet 9 (cellsLc A))
    (mSeq (mSet 3 (mLst mNil))
    (mKill [2, 6, 7, 10, 11] (textLoop A)))))) mNext (EL7 ns r c h W (.tr (sTx L1)) (.sh (.int k)) (.sh (.int a)) d d d d d d) = some (.nx (EL7 ns r c h s2 (.tr (sTx L2)) (.sh (.int k)) (.sh (.int a)) d d s8 s9 d d)) := by
    have ct : mTst (mOp fEq (mVar 2) (mC (.int 2))) (EL7 ns r c h W (.tr (sTx L1)) (.sh (.int k)) (.sh (.int a)) d d d d d d) = some (decide (v1 % 3 = 2)) := mTst_b (mOp_eq (x := .sh (.int (v1 % 3))) (y := .sh (.int 2)) rfl rfl (fEq_int rfl rfl))
    by_cases hw : v1 % 3 = 2
    · obtain ⟨cs, hcs, ec⟩ := cellsLc_ok (A := A) hns M (s4 := .sh (.int k)) (s5 := .sh (.int a))
      obtain ⟨L, hL, G, el⟩ := textLoop_ok (A := A) (ns := ns) M (s4 := .sh (.int k)) (s5 := .sh (.int a)) (nv_sh _) (nv_sh _) hcs
      refine ⟨d, L, .sh (.int (c + h)), .tr (sRow cs), nv_dead, nv_sh _, nv_tr _, hL, G, ?_⟩
      rw [mIfS_t (by rw [ct, decide_eq_true hw])]
      have x0 := room_ix (ρ := EL7 ns r c h W (.tr (sTx L1)) (.sh (.int k)) (.sh (.int a)) d d d d d d) (k := 1) (r := r) (c := c) (h := h) rfl
      refine mSeq_n (ρ1 := EL7 ns r c h W (.tr (sTx L1)) (.sh (.int k)) (.sh (.int a)) d d (.sh (.int (c + h))) d d d) (mSet_d (mOp_eq x0.2.1 x0.2.2 (fAdd_ok rfl rfl))) ?_
      show mSeq _ _ (EL7 ns r c h d d (.sh (.int k)) (.sh (.int a)) d d (.sh (.int (c + h))) d d d) = _
      refine mSeq_n (ρ1 := EL7 ns r c h d d (.sh (.int k)) (.sh (.int a)) d d (.sh (.int (c + h))) (.tr (sRow cs)) d d) (mSet_z ec rfl) ?_
      refine mSeq_n (ρ1 := EL7 ns r c h d (.tr (sTx [])) (.sh (.int k)) (.sh (.int a)) d d (.sh (.int (c + h))) (.tr (sRow cs)) d d) rfl ?_
      exact el
    · exact ⟨W, L1, d, d, nv_sh _, nv_dead, nv_dead, by omega, G1.up (by decide), by rw [mIfS_f (by rw [ct, decide_eq_false hw])]; rfl⟩
  obtain ⟨L3, l3, G3, e3⟩ := odd_ok (A := A) (ns := ns) (r := r) (c := c) (h := h) (k := k) (a := a) (L := L2) (o := v1 / 3 % 10) m2 m8 m9 hv2 (by omega) (by omega) G2 (by decide)
  refine ⟨L3, l3, G3.up (by decide), run1 ?_⟩
  show m__law_lanes A (EL7 ns r c h d d d d d d d d d d) = _
  refine mSeq_n (ρ1 := EL7 ns r c h W d d d d d d d d d) (mSet_d (mOp_eq (law1 _ rfl) (mb := mC (.int 3)) (y := .sh (.int 3)) rfl (fMod_ok rfl rfl (by decide)))) ?_
  show mSeq _ _ (EL7 ns r c h W d d d d d d d d d) = _
  refine mSeq_n (ρ1 := EL7 ns r c h W (.tr (sTx L0)) d d d d d d d d) (mSet_z e0 rfl) ?_
  have x0 := fun s4 => room_ix (ρ := EL7 ns r c h W (.tr (sTx L0)) s4 d d d d d d d) (k := 1) (r := r) (c := c) (h := h) rfl
  refine mSeq_n (ρ1 := EL7 ns r c h W (.tr (sTx L0)) (.sh (.int k)) d d d d d d d) (mSet_d (by
    have := mOp_eq (law2 (EL7 ns r c h W (.tr (sTx L0)) d d d d d d d d) rfl) (x0 d).1 (fMod_ok rfl rfl (by omega))
    rwa [hk] at this)) ?_
  refine mSeq_n (ρ1 := EL7 ns r c h W (.tr (sTx L0)) (.sh (.int k)) (.sh (.int a)) d d d d d d) (mSet_d (by
    have := mOp_eq (mOp_eq (law2 (EL7 ns r c h W (.tr (sTx L0)) (.sh (.int k)) d d d d d d d) rfl) (mb := mC (.int 6)) (y := .sh (.int 6)) rfl (fDiv_ok rfl rfl ⟨by decide, by decide⟩)) (mOp_eq (x0 (.sh (.int k))).2.1 (x0 (.sh (.int k))).2.2 (fAdd_ok rfl rfl)) (fMod_ok rfl rfl (by omega))
    rwa [ha] at this)) ?_
  refine mSeq_n e1 ?_
  show mSeq _ _ (EL7 ns r c h W (.tr (sTx L1)) (.sh (.int k)) (.sh (.int a)) d d d d d d) = _
  refine mSeq_n e2 ?_
  refine mSeq_n (ρ1 := EL7 ns r c h s2 (.tr (sTx L2)) (.sh (.int k)) (.sh (.int a)) d d s8 s9 d (.sh (.int (v1 / 3 % 10)))) (mSet_d (mOp_eq (mOp_eq (law1 _ rfl) (mb := mC (.int 3)) (y := .sh (.int 3)) rfl (fDiv_ok rfl rfl ⟨by decide, by decide⟩)) (mb := mC (.int 10)) (y := .sh (.int 10)) rfl (fMod_ok rfl rfl (by decide)))) ?_
  exact e3
end My

set_option Elab.async false
set_option linter.all false
set_option maxRecDepth 100000
set_option maxHeartbeats 4000000
namespace My
open PySem PySem.Spec PyProof.Rows L2 DL
variable {A : Ad}
/-! do the lanes keep apart? -/
structure SeenB (kvs : List (List Key × V)) (S : List (Int × Int)) : Prop where
  new : ∀ p, valV kvs (kq p) = none ↔ p ∉ S
  len : kvs.length ≤ S.length
theorem SeenB.put {kvs : List (List Key × V)} {S : List (Int × Int)} (s : SeenB kvs S) {p : Int × Int} (hp : p ∉ S) (v : V) : SeenB (putK kvs (kq p) v) (S ++ [p]) where
  new := fun q => by
    rw [valV_put]
    by_cases e : kq q = kq p
    · rw [if_pos e]
      have := kq_inj e
      subst this
      simp
    · rw [if_neg e, s.new q, List.mem_append, List.mem_singleton, not_or]
      exact ⟨fun z => ⟨z, fun y => e (by rw [y])⟩, fun z => z.1⟩
  len := by
    have := s.len
    rw [putK_new v ((s.new p).mpr hp)]; simpa using this
def EA (L : List (List Nat)) (r c h : Nat) (kvs : List (List Key × V)) (s3 s4 s5 : Sl) : DL.Env := [.sh (dTx L), .sh (dRoom r c h), .dc (.t kvs), s3, s4, s5]
def apIn : MS := (mSeq (mIfS (mTst (mIn false (mVar 5) 2)) (mRet (mC (.bl false))) mNext)
    (mDPut 2 (mVar 5) (mC (.bl true))))
section
variable {L : List (List Nat)} {r c h k : Nat} {kvs : List (List Key × V)} {S : List (Int × Int)} {p : Int × Int} {l : List Nat}
theorem apIn_new (s : SeenB kvs S) (hp : p ∉ S) (hS : S.length < 100000) : apIn (EA L r c h kvs (.sh (.int k)) (.sh (.str (tx l))) (.sh (dq p))) = some (.nx (EA L r c h (putK kvs (kq p) (.bl true)) (.sh (.int k)) (.sh (.str (tx l))) (.sh (dq p)))) := by
  have g : getM (.t kvs) (dq p) = some none := by
    have := (s.new p).mpr hp
    simp [getM, dq, keysD, keyD]
    exact this
  have h6 : (EA L r c h kvs (.sh (.int k)) (.sh (.str (tx l))) (.sh (dq p)))[2]? = some (.dc (.t kvs)) := rfl
  have h8 : mVar 5 (EA L r c h kvs (.sh (.int k)) (.sh (.str (tx l))) (.sh (dq p))) = some (.sh (dq p)) := rfl
  have e1 : mIn false (mVar 5) 2 (EA L r c h kvs (.sh (.int k)) (.sh (.str (tx l))) (.sh (dq p))) = some (.sh (.bl false)) := by
    unfold mIn
    rw [h6, h8]
    show Option.map _ (getM (.t kvs) (dq p)) = _
    rw [g]; rfl
  refine mSeq_n (ρ1 := EA L r c h kvs (.sh (.int k)) (.sh (.str (tx l))) (.sh (dq p))) ?_ ?_
  · rw [mIfS_f (mTst_b e1)]; rfl
  · have hk : putM (.t kvs) (dq p) (.bl true) = some (.t (putK kvs (kq p) (.bl true))) := by
      have := s.len
      simp [putM, dq, keysD, keyD]
      exact ⟨by omega, rfl⟩
    unfold mDPut
    rw [h6, h8]
    show Option.map _ (putM (.t kvs) (dq p) (.bl true)) = _
    rw [hk]; rfl
theorem apIn_old (s : SeenB kvs S) (hp : p ∈ S) : apIn (EA L r c h kvs (.sh (.int k)) (.sh (.str (tx l))) (.sh (dq p))) = some (.rt (.d (.bl false))) := by
  obtain ⟨v, g⟩ : ∃ v, getM (.t kvs) (dq p) = some (some v) := by
    have : valV kvs (kq p) ≠ none := fun z => (s.new p).mp z hp
    obtain ⟨v, hv⟩ := Option.ne_none_iff_exists'.mp this
    refine ⟨v, ?_⟩
    simp [getM, dq, keysD, keyD]
    exact hv
  have h6 : (EA L r c h kvs (.sh (.int k)) (.sh (.str (tx l))) (.sh (dq p)))[2]? = some (.dc (.t kvs)) := rfl
  have h8 : mVar 5 (EA L r c h kvs (.sh (.int k)) (.sh (.str (tx l))) (.sh (dq p))) = some (.sh (dq p)) := rfl
  have e1 : mIn false (mVar 5) 2 (EA L r c h kvs (.sh (.int k)) (.sh (.str (tx l))) (.sh (dq p))) = some (.sh (.bl true)) := by
    unfold mIn
    rw [h6, h8]
    show Option.map _ (getM (.t kvs) (dq p)) = _
    rw [g]; rfl
  unfold apIn mSeq
  rw [mIfS_t (mTst_b e1)]
  rfl
theorem ap_go : ∀ (ps : List (Int × Int)) (kvs : List (List Key × V)) (S : List (Int × Int)), SeenB kvs S → ps.Nodup → S.length + ps.length < 100000 →
    ((∀ p ∈ ps, p ∉ S) ∧ ∃ kvs', SeenB kvs' (S ++ ps) ∧ forGo true (mgName 5) apIn [5] (ps.map dq) (EA L r c h kvs (.sh (.int k)) (.sh (.str (tx l))) .dead) = some (.nx (EA L r c h kvs' (.sh (.int k)) (.sh (.str (tx l))) .dead))) ∨
    ((∃ p ∈ ps, p ∈ S) ∧ forGo true (mgName 5) apIn [5] (ps.map dq) (EA L r c h kvs (.sh (.int k)) (.sh (.str (tx l))) .dead) = some (.rt (.d (.bl false)))) := by
  intro ps
  induction ps with
  | nil => intro kvs S s _ _; exact .inl ⟨fun p m => (List.not_mem_nil m).elim, kvs, by simpa using s, by simp [forGo]⟩
  | cons p ps ih =>
    intro kvs S s nd hl
    rw [List.length_cons] at hl
    have nd' := List.nodup_cons.mp nd
    rw [List.map_cons]
    have g : mgName 5 true (dq p) (EA L r c h kvs (.sh (.int k)) (.sh (.str (tx l))) .dead) = some (EA L r c h kvs (.sh (.int k)) (.sh (.str (tx l))) (.sh (dq p))) := by
      simp [mgName, itR, R.slot, EA]
    by_cases hp : p ∈ S
    · refine .inr ⟨⟨p, List.mem_cons_self, hp⟩, ?_⟩
      unfold forGo
      simp only [g, apIn_old s hp]
    · have kk : ∀ kv, killE [5] (EA L r c h kv (.sh (.int k)) (.sh (.str (tx l))) (.sh (dq p))) = EA L r c h kv (.sh (.int k)) (.sh (.str (tx l))) .dead := fun _ => rfl
      rcases ih (putK kvs (kq p) (.bl true)) (S ++ [p]) (s.put hp _) nd'.2 (by simp; omega) with ⟨q1, kvs', s', e⟩ | ⟨⟨q, mq, q1⟩, e⟩
      · refine .inl ⟨fun q m => ?_, kvs', by simpa using s', ?_⟩
        · rcases List.mem_cons.mp m with rfl | m
          · exact hp
          · exact fun z => q1 q m (List.mem_append_left _ z)
        · unfold forGo
          simp only [g, apIn_new s hp (by omega : S.length < 100000), kk]
          exact e
      · refine .inr ⟨⟨q, List.mem_cons_of_mem _ mq, ?_⟩, ?_⟩
        · rcases List.mem_append.mp q1 with z | z
          · exact z
          · have := List.mem_singleton.mp z; subst this; exact (nd'.1 mq).elim
        · unfold forGo
          simp only [g, apIn_new s hp (by omega : S.length < 100000), kk]
          exact e
end
/-- the spots of lane k -/
def spl (r h k : Nat) (l : List Nat) : List (Int × Int) := ((r : Int) - 1 - k, (r : Int) - 1 - k + h) :: walk ((r : Int) - 1 - k, (r : Int) - 1 - k + h) l
def allSp (r h : Nat) (L : List (List Nat)) (k : Nat) : List (Int × Int) := (List.range k).flatMap fun i => spl r h i (L.getD i [])
/-- what the law asks of lanes -/
structure AP (r c h : Nat) (L : List (List Nat)) : Prop where
  len : L.length = r
  ln : ∀ l ∈ L, Ln c h l
  apart : ∀ i j, i < j → j < r → ∀ p, p ∈ spl r h i (L.getD i []) → p ∉ spl r h j (L.getD j [])
def apB (A : Ad) : MS := (mSeq (mSet 4 (mOp fIx (mVar 0) (mVar 3)))
    (mSeq (mIfS (mTst (mOp fNe (mCB gLen (mCons (mVar 4) mNil)) (mOp fAdd (mOp fIx (mVar 1) (mC (.int 1))) (mOp fIx (mVar 1) (mC (.int 2)))))) (mRet (mC (.bl false))) mNext)
    (mSeq (mIfS (mTst (mOp fNe (mCount (mVar 4) (mC (.str (PySem.Str.ofString "r")))) (mOp fIx (mVar 1) (mC (.int 1))))) (mRet (mC (.bl false))) mNext)
    (mSeq (mIfS (mTst (mOp fNe (mCount (mVar 4) (mC (.str (PySem.Str.ofString "d")))) (mOp fIx (mVar 1) (mC (.int 2))))) (mRet (mC (.bl false))) mNext)
    (mKill [5] (mFor (mIL (mCall 3 (g__law_spots A) (mCons (mVar 4) (mCons (mOp fSub (mOp fSub (mOp fIx (mVar 1) (mC (.int 0))) (mC (.int 1))) (mVar 3)) (mCons (mOp fIx (mVar 1) (mC (.int 2))) mNil))))) (mgName 5) apIn [5]))))))
section
variable {L : List (List Nat)} {r c h k : Nat} {kvs : List (List Key × V)} {S : List (Int × Int)} {l : List Nat}
theorem apB_ok (hl : L[k]? = some l) (hln : l.length ≤ 5000) (s : SeenB kvs S) (hS : S.length ≤ 90000) :
    (Ln c h l ∧ (∀ p ∈ spl r h k l, p ∉ S) ∧ ∃ kvs', SeenB kvs' (S ++ spl r h k l) ∧ apB A (EA L r c h kvs (.sh (.int k)) .dead .dead) = some (.nx (EA L r c h kvs' (.sh (.int k)) (.sh (.str (tx l))) .dead))) ∨
    ((¬ Ln c h l ∨ ∃ p ∈ spl r h k l, p ∈ S) ∧ apB A (EA L r c h kvs (.sh (.int k)) .dead .dead) = some (.rt (.d (.bl false)))) := by
  let ρ := EA L r c h kvs (.sh (.int k)) (.sh (.str (tx l))) .dead
  have x0 := room_ix (ρ := ρ) (k := 1) (r := r) (c := c) (h := h) rfl
  have e0 : mSet 4 (mOp fIx (mVar 0) (mVar 3)) (EA L r c h kvs (.sh (.int k)) .dead .dead) = some (.nx ρ) :=
    mSet_d (mOp_eq (x := .sh (dTx L)) (y := .sh (.int k)) rfl rfl (fIx_sh (by rw [List.getElem?_map, hl]; rfl)))
  have ll : mCB gLen (mCons (mVar 4) mNil) ρ = some (.sh (.int l.length)) := mCB_1 (x := .sh (.str (tx l))) rfl (by
    show (if (tx l).length ≤ 100000 then some (R.sh (.int ((tx l).length : Nat))) else none) = _
    rw [tx_len, if_pos (by omega)])
  have c1 : mTst (mOp fNe (mCB gLen (mCons (mVar 4) mNil)) (mOp fAdd (mOp fIx (mVar 1) (mC (.int 1))) (mOp fIx (mVar 1) (mC (.int 2))))) ρ = some (!decide ((l.length : Int) = c + h)) :=
    mTst_b (mOp_eq ll (mOp_eq x0.2.1 x0.2.2 (fAdd_ok rfl rfl)) (fNe_int rfl rfl))
  have n1 : mCount (mVar 4) (mC (.str (PySem.Str.ofString "r"))) ρ = some (.sh (.int (l.count 114 : Nat))) := by
    show some (R.sh (.int (Txt.count (tx l) (PySem.Str.ofString "r")))) = _
    rw [tx_r, count_tx]
  have n2 : mCount (mVar 4) (mC (.str (PySem.Str.ofString "d"))) ρ = some (.sh (.int (l.count 100 : Nat))) := by
    show some (R.sh (.int (Txt.count (tx l) (PySem.Str.ofString "d")))) = _
    rw [tx_d, count_tx]
  have c2 : mTst (mOp fNe (mCount (mVar 4) (mC (.str (PySem.Str.ofString "r")))) (mOp fIx (mVar 1) (mC (.int 1)))) ρ = some (!decide ((l.count 114 : Int) = c)) := mTst_b (mOp_eq n1 x0.2.1 (fNe_int rfl rfl))
  have c3 : mTst (mOp fNe (mCount (mVar 4) (mC (.str (PySem.Str.ofString "d")))) (mOp fIx (mVar 1) (mC (.int 2)))) ρ = some (!decide ((l.count 100 : Int) = h)) := mTst_b (mOp_eq n2 x0.2.2 (fNe_int rfl rfl))
  have bad : ∀ {t : MT} {b : MS}, t ρ = some true → mSeq (mIfS t (mRet (mC (.bl false))) mNext) b ρ = some (.rt (.d (.bl false))) := fun ht => by
    unfold mSeq; rw [mIfS_t ht]; rfl
  have good : ∀ {t : MT} {b : MS} {z : Option Out}, t ρ = some false → b ρ = z → mSeq (mIfS t (mRet (mC (.bl false))) mNext) b ρ = z := fun ht hb =>
    mSeq_n (ρ1 := ρ) (by rw [mIfS_f ht]; rfl) hb
  by_cases a1 : (l.length : Int) = c + h
  rotate_left
  · refine .inr ⟨.inl fun z => a1 (by rw [z.1]; omega), mSeq_n e0 (bad (by rw [c1, decide_eq_false a1]; rfl))⟩
  by_cases a2 : (l.count 114 : Int) = c
  rotate_left
  · refine .inr ⟨.inl fun z => a2 (by rw [z.2.1]), mSeq_n e0 (good (by rw [c1, decide_eq_true a1]; rfl) (bad (by rw [c2, decide_eq_false a2]; rfl)))⟩
  by_cases a3 : (l.count 100 : Int) = h
  rotate_left
  · refine .inr ⟨.inl fun z => a3 (by rw [z.2.2]), mSeq_n e0 (good (by rw [c1, decide_eq_true a1]; rfl) (good (by rw [c2, decide_eq_true a2]; rfl) (bad (by rw [c3, decide_eq_false a3]; rfl))))⟩
  have hn : Ln c h l := ⟨by omega, by omega, by omega⟩
  have q2 : mCall 3 (g__law_spots A) (mCons (mVar 4) (mCons (mOp fSub (mOp fSub (mOp fIx (mVar 1) (mC (.int 0))) (mC (.int 1))) (mVar 3)) (mCons (mOp fIx (mVar 1) (mC (.int 2))) mNil))) ρ = some (.tr (sSp (spl r h k l))) :=
    mCall_t (rs := [.sh (.str (tx l)), .sh (.int ((r : Int) - 1 - k)), .sh (.int h)]) (three rfl (mOp_eq (mOp_eq x0.1 rfl (fSub_ok rfl rfl)) (y := .sh (.int k)) rfl (fSub_ok rfl rfl)) x0.2.2) rfl (lawSpots_ok hn.rd hln _ _)
  have hlen : (spl r h k l).length = l.length + 1 := by simp [spl, walk_len]
  have fr : ∀ z, forGo true (mgName 5) apIn [5] ((spl r h k l).map dq) ρ = z → apB A (EA L r c h kvs (.sh (.int k)) .dead .dead) = z := fun z hz => by
    refine mSeq_n e0 (good (by rw [c1, decide_eq_true a1]; rfl) (good (by rw [c2, decide_eq_true a2]; rfl) (good (by rw [c3, decide_eq_true a3]; rfl) ?_)))
    show mFor _ _ apIn _ ρ = _
    rw [mFor_eq (items := (spl r h k l).map dq) (by simp only [mIL, q2, R.data, sSp_data, dSp, R.fixed])]
    exact hz
  rcases ap_go (L := L) (r := r) (c := c) (h := h) (k := k) (l := l) (spl r h k l) kvs S s walk_nd (by omega) with ⟨q, kvs', s', e⟩ | ⟨q, e⟩
  · exact .inl ⟨hn, q, kvs', s', fr _ e⟩
  · exact .inr ⟨.inr q, fr _ e⟩
theorem allSp_succ : allSp r h L (k + 1) = allSp r h L k ++ spl r h k (L.getD k []) := by
  simp [allSp, List.range_succ]
theorem rg_succ (lo : Int) (n : Nat) : rg lo (n + 1) = .int lo :: rg (lo + 1) n := by
  unfold rg
  rw [List.range_succ_eq_map, List.map_cons, List.map_map]
  refine congr (congrArg List.cons (by simp)) (List.map_congr_left fun k _ => ?_)
  simp only [Function.comp_apply]
  congr 1; omega
theorem apOut (hr : r ≤ 6) (hL : L.length = r) (hl : ∀ l ∈ L, l.length ≤ 5000) : ∀ (n k : Nat) (kvs : List (List Key × V)), k + n = r → SeenB kvs (allSp r h L k) → (allSp r h L k).length ≤ 10000 * k → (∀ i, i < k → Ln c h (L.getD i [])) → (∀ i j, i < j → j < k → ∀ p, p ∈ spl r h i (L.getD i []) → p ∉ spl r h j (L.getD j [])) →
    (AP r c h L ∧ ∃ kvs', forGo true (mgName 3) (apB A) [3, 4, 5] (rg k n) (EA L r c h kvs .dead .dead .dead) = some (.nx (EA L r c h kvs' .dead .dead .dead))) ∨
    (¬ AP r c h L ∧ forGo true (mgName 3) (apB A) [3, 4, 5] (rg k n) (EA L r c h kvs .dead .dead .dead) = some (.rt (.d (.bl false)))) := by
  intro n
  induction n with
  | zero =>
    intro k kvs hk s _ h1 h2
    refine .inl ⟨⟨hL, fun l m => ?_, fun i j hij hj => h2 i j hij (by omega)⟩, kvs, rfl⟩
    obtain ⟨i, hi⟩ := List.getElem?_of_mem m
    have := (List.getElem?_eq_some_iff.mp hi).1
    have := h1 i (by omega)
    simpa [hi] using this
  | succ n ih =>
    intro k kvs hk s sl h1 h2
    have hkL : k < L.length := by omega
    have e1 : L[k]? = some (L.getD k []) := by simp [List.getElem?_eq_getElem hkL]
    have hm := List.mem_of_getElem? e1
    rw [rg_succ]
    have g : mgName 3 true (.int k) (EA L r c h kvs .dead .dead .dead) = some (EA L r c h kvs (.sh (.int k)) .dead .dead) := rfl
    rcases apB_ok (A := A) (r := r) (c := c) (h := h) (kvs := kvs) e1 (hl _ hm) s (by omega) with ⟨b1, b2, kvs', s', e⟩ | ⟨b, e⟩
    · have kk : killE [3, 4, 5] (EA L r c h kvs' (.sh (.int k)) (.sh (.str (tx (L.getD k [])))) .dead) = EA L r c h kvs' .dead .dead .dead := rfl
      have := ih (k + 1) kvs' (by omega) (by rw [allSp_succ]; exact s') (by
          rw [allSp_succ, List.length_append]
          have : (spl r h k (L.getD k [])).length = (L.getD k []).length + 1 := by simp [spl, walk_len]
          have := hl _ hm
          omega) (fun i hi => by
          by_cases e : i = k
          · rw [e]; exact b1
          · exact h1 i (by omega)) (fun i j hij hj p mp z => by
          by_cases e : j = k
          · subst e
            exact b2 p z (List.mem_flatMap.mpr ⟨i, List.mem_range.mpr hij, mp⟩)
          · exact h2 i j hij (by omega) p mp z)
      unfold forGo
      simp only [g, e, kk]
      exact this
    · refine .inr ⟨fun Z => ?_, ?_⟩
      · rcases b with b | ⟨p, mp, b⟩
        · exact b (Z.ln _ hm)
        · obtain ⟨i, mi, z⟩ := List.mem_flatMap.mp b
          rw [List.mem_range] at mi
          exact Z.apart i k mi (by omega) p z mp
      · unfold forGo
        simp only [g, e]
theorem apart_ok (hr : r ≤ 6) (hL : L.length ≤ 1000) (hl : ∀ l ∈ L, l.length ≤ 5000) : ∃ b : Bool, (b = true ↔ AP r c h L) ∧ g__law_apart A [dTx L, dRoom r c h] = some (.ret (.d (.bl b))) := by
  let d : Sl := .dead
  let ρ : DL.Env := [.sh (dTx L), .sh (dRoom r c h), d, d, d, d]
  have x0 := room_ix (ρ := ρ) (k := 1) (r := r) (c := c) (h := h) rfl
  have ll : ∀ ρ : DL.Env, ρ[0]? = some (.sh (dTx L)) → mCB gLen (mCons (mVar 0) mNil) ρ = some (.sh (.int L.length)) := fun ρ hρ => mCB_1 (x := .sh (dTx L)) (by unfold mVar; rw [hρ]) (by simp [R.data, dTx, gLen])
  have c1 : mTst (mOp fNe (mCB gLen (mCons (mVar 0) mNil)) (mOp fIx (mVar 1) (mC (.int 0)))) ρ = some (!decide ((L.length : Int) = r)) := mTst_b (mOp_eq (ll ρ rfl) x0.1 (fNe_int rfl rfl))
  by_cases hlen : L.length = r
  rotate_left
  · refine ⟨false, ⟨fun z => Bool.noConfusion z, fun Z => (hlen Z.len).elim⟩, run1 ?_⟩
    show m__law_apart A ρ = _
    unfold m__law_apart mSeq
    rw [mIfS_t (by rw [c1, decide_eq_false (by omega)]; rfl)]
    rfl
  have main : ∀ z, mSeq (mFor (mRg1 (mCons (mCB gLen (mCons (mVar 0) mNil)) mNil)) (mgName 3) (apB A) [3, 4, 5]) (mRet (mC (.bl true))) (EA L r c h [] d d d) = z → m__law_apart A ρ = z := fun z hz => by
    refine mSeq_n (ρ1 := ρ) (by rw [mIfS_f (by rw [c1, decide_eq_true (by omega)]; rfl)]; rfl) ?_
    refine mSeq_n (ρ1 := EA L r c h [] d d d) rfl ?_
    exact hz
  have lp : mFor (mRg1 (mCons (mCB gLen (mCons (mVar 0) mNil)) mNil)) (mgName 3) (apB A) [3, 4, 5] (EA L r c h [] d d d) = forGo true (mgName 3) (apB A) [3, 4, 5] (rg (0 : Nat) r) (EA L r c h [] d d d) := by
    rw [← hlen]
    exact mFor_eq (mRg1_eval (one (ll _ rfl)) rfl (by omega))
  rcases apOut (A := A) (c := c) (h := h) hr hlen hl r 0 [] (by omega) ⟨fun p => by simp [allSp, valV], by simp⟩ (by simp [allSp]) (fun i hi => by omega) (fun i j _ hj => by omega) with ⟨P, kvs', e⟩ | ⟨P, e⟩
  · refine ⟨true, ⟨fun _ => P, fun _ => rfl⟩, run1 (main _ ?_)⟩
    exact mSeq_n (lp.trans e) rfl
  · refine ⟨false, ⟨fun z => Bool.noConfusion z, fun Z => (P Z).elim⟩, run1 (main _ ?_)⟩
    unfold mSeq
    rw [lp, e]
end
end My

set_option Elab.async false
set_option linter.all false
set_option maxRecDepth 100000
set_option maxHeartbeats 4000000
namespace My
open PySem PySem.Spec PyProof.Rows L2 DL
variable {A : Ad}
theorem nrb_true {ns : List Int} (h : nrb ns = true) {i : Nat} {x y : Int} (h1 : ns[i]? = some x) (h2 : ns[i + 1]? = some y) : y ≤ x := by
  by_cases q : x < y
  · rw [nrb_rise h1 h2 q] at h; cases h
  · omega
theorem nrb_of {ns : List Int} (h : ∀ (i : Nat) (x y : Int), ns[i]? = some x → ns[i + 1]? = some y → y ≤ x) : nrb ns = true := by
  unfold nrb
  rw [List.all_eq_true]
  intro p m
  obtain ⟨i, hi⟩ := List.getElem?_of_mem m
  rw [List.getElem?_zip_eq_some] at hi
  obtain ⟨a, b⟩ := hi
  rw [List.getElem?_drop, Nat.add_comm] at b
  exact decide_eq_true (h i _ _ a b)
theorem rI_at {r k : Nat} (hk : k < r) : (rI r).getD k 0 = k := by
  unfold rI
  simp [List.getD, hk]
section
variable {L : List (List Nat)} {r c h : Nat}
theorem laneIs_ln (l : List Nat) : laneIs l c h = true ↔ Ln c h l := by
  unfold laneIs Ln
  simp only [Bool.and_eq_true, decide_eq_true_iff]
  omega
theorem areP_iff : areP r c h (rI r) L = true ↔ L.length = r ∧ ∀ l ∈ L, Ln c h l := by
  have key : ∀ k, k < r → lanesIs c h (rI r) L k = laneIs (L.getD k []) c h := fun k hk => by
    unfold lanesIs
    rw [rI_at hk]
    congr 1 <;> omega
  unfold areP
  rw [Bool.and_eq_true, decide_eq_true_iff]
  constructor
  · intro ⟨h1, h2⟩
    refine ⟨h1, fun l m => ?_⟩
    obtain ⟨k, hk⟩ := List.getElem?_of_mem m
    have hkr := (List.getElem?_eq_some_iff.mp hk).1
    rw [List.all_eq_true] at h2
    have := h2 (lanesIs c h (rI r) L k) (List.mem_map.mpr ⟨k, List.mem_range.mpr (by omega), rfl⟩)
    rw [id, key k (by omega)] at this
    have e : L.getD k [] = l := by simp [List.getD, hk]
    rw [e] at this
    exact (laneIs_ln l).mp this
  · intro ⟨h1, h2⟩
    refine ⟨h1, ?_⟩
    rw [List.all_eq_true]
    intro b m
    obtain ⟨k, mk, rfl⟩ := List.mem_map.mp m
    rw [List.mem_range] at mk
    rw [id, key k mk, laneIs_ln]
    have hk : k < L.length := by omega
    have e : L.getD k [] = L[k] := by simp [List.getD, hk]
    rw [e]
    exact h2 _ (List.getElem_mem hk)
theorem tabL_row (hn : ∀ l ∈ L, Ln c h l) : ∀ x ∈ tabL h L, x.length = c := fun x m => by
  obtain ⟨l, ml, rfl⟩ := List.mem_map.mp m
  exact (hn l ml).len
theorem tabL_lo (hn : ∀ l ∈ L, Ln c h l) : ∀ x ∈ tabL h L, ∀ n ∈ x, 0 ≤ n ∧ n ≤ (h : Int) := fun x m n mn => by
  obtain ⟨l, ml, rfl⟩ := List.mem_map.mp m
  exact (hn l ml).rw.1.mem n mn
def tabB (c : Nat) (t : List (List Int)) : Bool := t.all nrb && (List.range c).all fun j => nrb (colI t j)
theorem at2_of {t : List (List Int)} {i j : Nat} {x : List Int} {n : Int} (hx : t[i]? = some x) (hn : x[j]? = some n) : at2 t i j = n := by simp [at2, hx, hn]
theorem colI_at {t : List (List Int)} {i j : Nat} {x : List Int} (hx : t[i]? = some x) : (colI t j)[i]? = some (x.getD j 0) := by
  unfold colI; rw [List.getElem?_map, hx]; rfl
theorem tabB_fl (hn : ∀ l ∈ L, Ln c h l) (hb : tabB c (tabL h L) = true) : Fl c h (tabL h L) := by
  unfold tabB at hb
  rw [Bool.and_eq_true, List.all_eq_true, List.all_eq_true] at hb
  have row := tabL_row hn
  have look : ∀ i, i < (tabL h L).length → ∃ x, (tabL h L)[i]? = some x ∧ x ∈ tabL h L ∧ x.length = c := fun i hi =>
    ⟨(tabL h L)[i], List.getElem?_eq_getElem hi, List.getElem_mem hi, row _ (List.getElem_mem hi)⟩
  have val : ∀ (x : List Int) j, j < x.length → x[j]? = some (x.getD j 0) := fun x j hj => by simp [List.getD, hj]
  refine ⟨row, fun i j hi hj => ?_, fun i j hi hj => ?_, fun i j hi hj => ?_⟩
  · obtain ⟨x, hx, mx, lx⟩ := look i hi
    have v := val x j (by omega)
    rw [at2_of hx v]
    exact tabL_lo hn x mx _ (List.mem_of_getElem? v)
  · obtain ⟨x, hx, mx, lx⟩ := look i hi
    have v := val x j (by omega)
    have w := val x (j + 1) (by omega)
    rw [at2_of hx v, at2_of hx w]
    exact nrb_true (hb.1 x mx) v w
  · obtain ⟨x, hx, mx, lx⟩ := look i (by omega)
    obtain ⟨y, hy, my, ly⟩ := look (i + 1) hi
    rw [at2_of hx (val x j (by omega)), at2_of hy (val y j (by omega))]
    exact nrb_true (hb.2 j (List.mem_range.mpr hj)) (colI_at hx) (colI_at hy)
theorem spk_spl (hn : ∀ l ∈ L, Ln c h l) {k : Nat} (hk : k < L.length) : spk (tabL h L) r h k = spl r h k (L.getD k []) := by
  have e : L.getD k [] = L[k] := by simp [List.getD, hk]
  have e2 : (tabL h L).getD k [] = rowL h L[k] := by simp [List.getD, tabL, hk]
  unfold spk spl
  rw [e, e2, (hn _ (List.getElem_mem hk)).rw.2]
theorem spot_at {k i : Nat} {l : List Nat} (hl : i ≤ l.length) : ∃ q, q ∈ spl r h k l ∧ q.1 = (r : Int) - 1 - k + ((l.take i).count 114 : Nat) ∧ q.1 - q.2 = - (h : Int) + i := by
  have hlen : (spl r h k l).length = l.length + 1 := by simp [spl, walk_len]
  have hi : i < (spl r h k l).length := by omega
  have w := walk_at (l := l) (p := ((r : Int) - 1 - k, (r : Int) - 1 - k + h)) (q := (spl r h k l)[i]) (i := i) (List.getElem?_eq_getElem hi)
  refine ⟨(spl r h k l)[i], List.getElem_mem hi, w.1, ?_⟩
  have := w.2
  simp only at this
  omega
/-- a table exactly where the lanes keep apart -/
theorem tabB_iff (hl : L.length = r) (hn : ∀ l ∈ L, Ln c h l) : tabB c (tabL h L) = true ↔ AP r c h L := by
  constructor
  · intro hb
    have F := tabB_fl hn hb
    refine ⟨hl, hn, fun i j hij hj p m1 m2 => ?_⟩
    rw [← spk_spl hn (by omega)] at m1 m2
    exact no_meet F (by unfold tabL; rw [List.length_map]; exact hl) hij hj m1 m2
  · intro P
    unfold tabB
    rw [Bool.and_eq_true, List.all_eq_true, List.all_eq_true]
    refine ⟨fun x m => ?_, fun j mj => ?_⟩
    · obtain ⟨l, ml, rfl⟩ := List.mem_map.mp m
      exact nrb_of (hn l ml).rw.1.nrb
    · rw [List.mem_range] at mj
      refine nrb_of fun i x y hx hy => ?_
      by_cases q : x < y
      · exfalso
        have hi : i + 1 < L.length := by
          have := (List.getElem?_eq_some_iff.mp hy).1
          simpa [colI, tabL] using this
        have a1 : (colI (tabL h L) j)[i]? = some ((rowL h L[i]).getD j 0) := colI_at (by simp [tabL, List.getElem?_eq_getElem (show i < L.length by omega)])
        have a2 : (colI (tabL h L) j)[i + 1]? = some ((rowL h L[i + 1]).getD j 0) := colI_at (by simp [tabL, List.getElem?_eq_getElem hi])
        have N1 := hn _ (List.getElem_mem (show i < L.length by omega))
        have N2 := hn _ (List.getElem_mem hi)
        have b1 : (rowL h L[i])[j]? = some x := by
          have : j < (rowL h L[i]).length := by rw [N1.len]; exact mj
          rw [a1] at hx
          rw [← Option.some.inj hx]; simp [List.getD, this]
        have b2 : (rowL h L[i + 1])[j]? = some y := by
          have : j < (rowL h L[i + 1]).length := by rw [N2.len]; exact mj
          rw [a2] at hy
          rw [← Option.some.inj hy]; simp [List.getD, this]
        obtain ⟨k, hk, e⟩ := rise_meets N1 N2 b1 b2 q
        obtain ⟨p, mp, p1, p2⟩ := spot_at (r := r) (h := h) (k := i) (i := k) (l := L[i]) (by rw [N1.1]; exact hk)
        obtain ⟨p', mp', p1', p2'⟩ := spot_at (r := r) (h := h) (k := i + 1) (i := k) (l := L[i + 1]) (by rw [N2.1]; exact hk)
        have e1 : p = p' := by
          have e1 : p.1 = p'.1 := by rw [p1, p1', e]; omega
          exact Prod.ext e1 (by omega)
        have d1 : L.getD i [] = L[i] := by simp [List.getD, show i < L.length by omega]
        have d2 : L.getD (i + 1) [] = L[i + 1] := by simp [List.getD, hi]
        exact P.apart i (i + 1) (by omega) (by omega) p (by rw [d1]; exact mp) (by rw [d2, e1]; exact mp')
      · omega
end
/-- table_of at any lanes -/
theorem tableOf_ok (M : Rm r c h) (hL : L.length ≤ 1000) (hl : ∀ l ∈ L, l.length ≤ 5000) (hs : ∀ l ∈ L, small l) :
    (AP r c h L ∧ g_table_of A [dRoom r c h, dTx L] = some (.ret (sTab (tabL h L)))) ∨ (¬ AP r c h L ∧ g_table_of A [dRoom r c h, dTx L] = some (.exc A.c_NoLanes)) := by
  by_cases ha : areP r c h (rI r) L = true
  · obtain ⟨q1, q2⟩ := areP_iff.mp ha
    have := table_of_pre (A := A) M hL hl hs true (tabB c (tabL h L)) ha fun _ => is_table_b M (by unfold tabL; rw [List.length_map]; exact q1) (tabL_row q2) (tabL_lo q2)
    rw [this, Bool.true_and]
    by_cases hb : tabB c (tabL h L) = true
    · exact .inl ⟨(tabB_iff q1 q2).mp hb, by rw [if_pos hb]⟩
    · exact .inr ⟨fun P => hb ((tabB_iff q1 q2).mpr P), by rw [if_neg hb]⟩
  · have hf : areP r c h (rI r) L = false := by simpa using ha
    have := table_of_pre (A := A) M hL hl hs false false hf (fun z => Bool.noConfusion z)
    rw [this]
    exact .inr ⟨fun P => ha (areP_iff.mpr ⟨P.len, P.ln⟩), rfl⟩
end My

set_option Elab.async false
set_option linter.all false
set_option maxRecDepth 100000
set_option maxHeartbeats 4000000
namespace My
open PySem PySem.Spec PyProof.Rows L2 DL
variable {A : Ad}
theorem app_tab {ρ : DL.Env} {u : List (List Int)} {x : List Int} {q i : Nat} {mi me : ME} {y z : R} {v : Int} (hq : ρ[q]? = some (.tr (sTab u))) (hx : u[i]? = some x) (hl : x.length < 100000) (h1 : mi ρ = some y) (d1 : y.data = .int i) (h3 : me ρ = some z) (d3 : z.tree = some (.d (.int v))) :
    mAppend (mpIx (mpV q) mi) me ρ = some (.nx ((killVw ρ).set q (.tr (sTab (u.set i (x ++ [v])))))) := by
  have hiu := (List.getElem?_eq_some_iff.mp hx).1
  have w5 : mpV q ρ = some (q, []) := by unfold mpV; rw [hq]; rfl
  have k2 : (u.map sRow)[i]? = some (sRow x) := by simp [hx]
  have p : mpIx (mpV q) mi ρ = some (q, [i]) := by
    have n1 : nodeAt ρ q [] = some (u.map sRow) := by unfold nodeAt; rw [hq]; rfl
    have k1 : ixN (u.map sRow).length i = some i := by rw [tab_len]; simp [ixN, hiu]
    unfold mpIx
    rw [w5, h1]
    simp only [n1, d1, k1, k2]
    rfl
  have gp : S.get [i] (sTab u) = some (.own (x.map fun n => .d (.int n))) := by
    simp only [S.get, sTab, k2]; rfl
  have pp : S.put (.own ((x.map fun n => S.d (.int n)) ++ [.d (.int v)])) [i] (sTab u) = sTab (u.set i (x ++ [v])) := by
    simp only [S.put, sTab, k2]
    congr 1
    rw [List.map_set]
    congr 1
    simp [sRow]
  unfold mAppend
  rw [p, h3]
  simp only [hq, d3, gp, pp]
  rw [if_pos (by rw [List.length_map]; exact hl)]
theorem mSeq_r {a b : MS} {ρ : DL.Env} {s : S} (h : a ρ = some (.rt s)) : mSeq a b ρ = some (.rt s) := by unfold mSeq; rw [h]
def EW (s0 s1 s2 s3 s4 s5 s6 s7 : Sl) : DL.Env := [s0, s1, s2, s3, s4, s5, s6, s7]
theorem laneLc_ok {L : List (List Nat)} {r c h : Nat} (M : Rm r c h) (hn : ∀ l ∈ L, Ln c h l) (hL : L.length ≤ 1000) {ρ : DL.Env} {mi : MI} {b : Bool} {z : Sl} (hi : mi ρ = some (b, (tabL h L).map dRow)) (h7 : isDead ρ[7]? = true) (h7' : 7 < ρ.length) (h1 : ρ[1]? = some (.sh (dRoom r c h))) :
    mLc mi (mgName 7) mYes (mCall 2 (g__law_lane A) (mCons (mVar 7) (mCons (mOp fIx (mVar 1) (mC (.int 2))) mNil))) [7] ρ = some (.tr (sTx L)) := by
  have hr := M.r; have hc := M.c; have hh := M.h
  have e : (tabL h L).map (laneC h) = L := by
    unfold tabL
    rw [List.map_map]
    refine (List.map_congr_left fun l m => ?_).trans (List.map_id L)
    exact (hn l m).rw.2
  rw [mLc_eval (s := b) (items := (tabL h L).map dRow) (fun _ => true) (fun d => .sh (.str (tx (laneC h (rowOf d))))) (fun d => .d (.str (tx (laneC h (rowOf d)))))]
  · rw [ft7, List.map_map]
    have : ((tabL h L).map ((fun d => S.d (D.str (tx (laneC h (rowOf d))))) ∘ dRow)) = ((tabL h L).map (laneC h)).map fun a => S.d (.str (tx a)) := by
      rw [List.map_map]
      refine List.map_congr_left fun x _ => ?_
      simp only [Function.comp_apply, rowOf_row]
    rw [this, e]; rfl
  · exact hi
  · rw [List.length_map]; unfold tabL; rw [List.length_map]; omega
  · simp [h7]
  · intro d m
    obtain ⟨x, hx, rfl⟩ := List.mem_map.mp m
    obtain ⟨l, ml, rfl⟩ := List.mem_map.mp hx
    have N := hn l ml
    obtain ⟨s, hs⟩ : ∃ s, mgName 7 b (dRow (rowL h l)) ρ = some (ρ.set 7 s) ∧ ∃ q, mVar 7 (ρ.set 7 s) = some q ∧ q.data = dRow (rowL h l) := by
      cases b with
      | true => exact ⟨.sh (dRow (rowL h l)), rfl, .sh (dRow (rowL h l)), by unfold mVar; rw [List.getElem?_set_self h7'], rfl⟩
      | false => exact ⟨.vw (dRow (rowL h l)), rfl, .vw (dRow (rowL h l)), by unfold mVar; rw [List.getElem?_set_self h7'], rfl⟩
    obtain ⟨hs, q, hq, hqd⟩ := hs
    have h1' : (ρ.set 7 s)[1]? = some (.sh (dRoom r c h)) := by rw [List.getElem?_set_ne (by decide)]; exact h1
    refine ⟨_, hs, rfl, fun _ => ⟨?_, by simp [R.tree, imm]⟩⟩
    rw [rowOf_row]
    refine mCall_d (rs := [q, .sh (.int h)]) (two hq (room_ix h1').2.2) rfl ?_
    show g__law_lane A [q.data, .int h] = _
    rw [hqd]
    have hl := N.len
    exact lawLane_ok N.rw.1 (by omega) (by omega) (fun z => by rw [z] at hl; simp at hl; omega)
theorem law_true (ns : List Int) (hns : ns.length ≤ 63) : g_law A [.scr ns] = some (.ret (.d (.bl true))) := by
  obtain ⟨r, c, h, M, hroom⟩ := room_ok (A := A) (ns.headD 0)
  obtain ⟨L, hL, G, hlanes⟩ := law_lanes_ok (A := A) hns M
  have hr := M.r; have hc := M.c; have hh := M.h
  have Ls : ∀ l ∈ L, small l := fun l m => (G l m).2
  have Ll : ∀ l ∈ L, l.length ≤ 5000 := fun l m => Nat.le_trans (G l m).1 (by decide)
  obtain ⟨b, hb, hap⟩ := apart_ok (A := A) (r := r) (c := c) (h := h) hr.2 (by omega : L.length ≤ 1000) Ll
  refine run1 ?_
  let d : Sl := .dead
  let s0 : Sl := .sh (.scr ns)
  let s1 : Sl := .sh (dRoom r c h)
  let sL : Sl := .tr (sTx L)
  show m_law A (EW s0 d d d d d d d) = _
  have e1 : mSet 1 (mCall 1 (g__law_room A) (mCons (mCall 2 (g__law_of A) (mCons (mVar 0) (mCons (mC (.int 0)) mNil))) mNil)) (EW s0 d d d d d d d) = some (.nx (EW s0 s1 d d d d d d)) :=
    mSet_d (mCall_d (rs := [.sh (.int (ns.headD 0))]) (one (mCall_d (rs := [.sh (.scr ns), .sh (.int 0)]) (two rfl rfl) rfl (law_of_ok ns))) rfl hroom)
  refine mSeq_n e1 ?_
  refine mSeq_n (ρ1 := EW s0 s1 sL d d d d d) (mSet_z (mCall_t (rs := [.sh (.scr ns), .sh (dRoom r c h)]) (two rfl rfl) rfl hlanes) rfl) ?_
  have e3 : mCB gList (mCons (mVar 2) mNil) (EW s0 s1 sL d d d d d) = some (.tr (sTx L)) := mCB_1 (x := .vw (sTx L).data) rfl (by
    rw [show (R.vw (sTx L).data).data = dTx L from sTx_data L]
    show some (newL (L.map fun a => D.str (tx a))) = _
    have hi : immL (L.map fun a => D.str (tx a)) = true := by
      generalize L = X
      induction X with
      | nil => rfl
      | cons x X ih => rw [List.map_cons]; simp [immL, imm, ih]
    unfold newL
    rw [if_pos hi, List.map_map]; rfl)
  refine mSeq_n (ρ1 := EW s0 s1 sL sL d d d d) (mSet_z e3 rfl) ?_
  refine mSeq_n (ρ1 := EW s0 s1 sL sL (.sh .non) d d d) rfl ?_
  let ρ := EW s0 s1 sL sL (.sh .non) d d d
  have same : ∀ (neg : Bool) s4 s5 s6, gEq neg (sTx L).data (sTx L).data = some (.bl (!neg)) ∧ mVar 3 (EW s0 s1 sL sL s4 s5 s6 d) = some (.vw (sTx L).data) ∧ mVar 2 (EW s0 s1 sL sL s4 s5 s6 d) = some (.vw (sTx L).data) := fun neg s4 s5 s6 => by
    refine ⟨?_, rfl, rfl⟩
    rw [sTx_data, gEq_txs neg Ls Ls]
    cases neg <;> simp
  have ap : ∀ s4 s5 s6, mCall 2 (g__law_apart A) (mCons (mVar 2) (mCons (mVar 1) mNil)) (EW s0 s1 sL sL s4 s5 s6 d) = some (.sh (.bl b)) := fun s4 s5 s6 =>
    mCall_d (rs := [.vw (sTx L).data, .sh (dRoom r c h)]) (two rfl rfl) rfl (by simp only [List.map_cons, List.map_nil, R.data, sTx_data]; exact hap)
  rcases tableOf_ok (A := A) M (by omega : L.length ≤ 1000) Ll Ls with ⟨P, ht⟩ | ⟨P, ht⟩
  rotate_left
  · have hbf : b = false := by
      cases b with
      | false => rfl
      | true => exact (P (hb.mp rfl)).elim
    subst hbf
    have hc : mCallO 2 (g_table_of A) (mCons (mVar 1) (mCons (mVar 3) mNil)) ρ = some (.exc A.c_NoLanes) := by
      unfold mCallO
      rw [two (x := .sh (dRoom r c h)) (y := .vw (sTx L).data) rfl rfl]
      show (if _ then g_table_of A [dRoom r c h, (sTx L).data] else _) = _
      rw [sTx_data, ht]; rfl
    have suite := mTryC_exc (ix := 4) (i := 5) (C := A.c_NoLanes) (ρ := ρ) (s := .d (.bl true)) (mc := mCallO 2 (g_table_of A) (mCons (mVar 1) (mCons (mVar 3) mNil))) (m2 := fun a => (mSeq (mIfS (mTst (mOp fNe (mCP 5 a [.d (.bl false), .d (.bl false), .d (.bl false), .d (.bl true), .d (.bl false), .d (.bl true)]) (mLst (mCons (mC (.bl false)) (mCons (mC (.bl false)) (mCons (mC (.bl false)) (mCons (mC (.bl true)) (mCons (mC (.bl false)) (mCons (mC (.bl true)) mNil))))))))) (mRet (mC (.bl false))) mNext)
      (mRet (mAndV (mNotV (mCall 2 (g__law_apart A) (mCons (mVar 2) (mCons (mVar 1) mNil)))) (mOp fEq (mVar 3) (mVar 2)))))) hc fun a => by
        show mSeq _ _ (EW s0 s1 sL sL (.sh .non) (.ad a) d d) = _
        have k1 : mTst (mOp fNe (mCP 5 a [.d (.bl false), .d (.bl false), .d (.bl false), .d (.bl true), .d (.bl false), .d (.bl true)]) (mLst (mCons (mC (.bl false)) (mCons (mC (.bl false)) (mCons (mC (.bl false)) (mCons (mC (.bl true)) (mCons (mC (.bl false)) (mCons (mC (.bl true)) mNil)))))))) (EW s0 s1 sL sL (.sh .non) (.ad a) d d) = some false := by
          have p1 : mCP 5 a [.d (.bl false), .d (.bl false), .d (.bl false), .d (.bl true), .d (.bl false), .d (.bl true)] (EW s0 s1 sL sL (.sh .non) (.ad a) d d) = some (.tr (.own [.d (.bl false), .d (.bl false), .d (.bl false), .d (.bl true), .d (.bl false), .d (.bl true)])) := by
            unfold mCP
            show (if a = a then _ else _) = _
            rw [if_pos rfl]
          have p2 : mLst (mCons (mC (.bl false)) (mCons (mC (.bl false)) (mCons (mC (.bl false)) (mCons (mC (.bl true)) (mCons (mC (.bl false)) (mCons (mC (.bl true)) mNil)))))) (EW s0 s1 sL sL (.sh .non) (.ad a) d d) = some (.tr (.own [.d (.bl false), .d (.bl false), .d (.bl false), .d (.bl true), .d (.bl false), .d (.bl true)])) := rfl
          exact mTst_b (b := false) (mOp_eq p1 p2 (by rfl))
        refine mSeq_n (ρ1 := EW s0 s1 sL sL (.sh .non) (.ad a) d d) (by rw [mIfS_f k1]; rfl) ?_
        have k2 : mNotV (mCall 2 (g__law_apart A) (mCons (mVar 2) (mCons (mVar 1) mNil))) (EW s0 s1 sL sL (.sh .non) (.ad a) d d) = some (.sh (.bl true)) := by
          unfold mNotV; rw [mTst_b (ap _ _ _)]; rfl
        refine mRet_d (d := .bl true) ?_ rfl
        unfold mAndV
        rw [mTst_b k2]
        obtain ⟨q1, q2, q3⟩ := same false (.sh .non) (.ad a) d
        exact mOp_eq q2 q3 (by simp [fEq, flat2, R.data, q1])
    exact mSeq_r suite
  · have hbt : b = true := hb.mpr P
    subst hbt
    let t := tabL h L
    let sT : Sl := .tr (sTab t)
    have hc : mCallO 2 (g_table_of A) (mCons (mVar 1) (mCons (mVar 3) mNil)) ρ = some (.ret (sTab t)) := by
      unfold mCallO
      rw [two (x := .sh (dRoom r c h)) (y := .vw (sTx L).data) rfl rfl]
      show (if _ then g_table_of A [dRoom r c h, (sTx L).data] else _) = _
      rw [sTx_data, ht]; rfl
    refine mSeq_n (mTryC_ret hc) ?_
    show mSeq _ _ (EW s0 s1 sL sL sT d d d) = _
    have hl : L.length = r := P.len
    have F : Fl c h t := tabB_fl P.ln ((tabB_iff hl P.ln).mpr P)
    have tl : t.length = r := by show (tabL h L).length = r; unfold tabL; rw [List.length_map]; exact hl
    have hgood : mCall 2 (g__law_good A) (mCons (mVar 4) (mCons (mVar 1) mNil)) (EW s0 s1 sL sL sT d d d) = some (.sh (.bl true)) :=
      mCall_d (rs := [.vw (sTab t).data, .sh (dRoom r c h)]) (two rfl rfl) rfl (by simp only [List.map_cons, List.map_nil, R.data, sTab_data]; exact good_ok M (F.hs tl) (F.pw tl))
    have k3 : mTst (mOp fNe (mVar 3) (mVar 2)) (EW s0 s1 sL sL sT d d d) = some false := by
      obtain ⟨q1, q2, q3⟩ := same true sT d d
      exact mTst_b (b := false) (mOp_eq q2 q3 (by simp [fNe, flat2, R.data, q1]))
    refine mSeq_n (ρ1 := EW s0 s1 sL sL sT d d d) (by rw [mIfS_f (mOr_f (mNot_t (mTst_b (ap sT d d))) (mOr_f (mNot_t (mTst_b hgood)) k3))]; rfl) ?_
    show mSeq _ _ (EW d s1 sL sL sT d d d) = _
    have k4 : mTst (mOp fNe (mLc (mIL (mVar 4)) (mgName 7) mYes (mCall 2 (g__law_lane A) (mCons (mVar 7) (mCons (mOp fIx (mVar 1) (mC (.int 2))) mNil))) [7]) (mVar 2)) (EW d s1 sL sL sT d d d) = some false := by
      have hi : mIL (mVar 4) (EW d s1 sL sL sT d d d) = some (false, t.map dRow) := by
        have w : mVar 4 (EW d s1 sL sL sT d d d) = some (.vw (sTab t).data) := rfl
        simp [mIL, w, R.data, sTab_data, dTab, R.fixed, dRow]
      have e := laneLc_ok (A := A) (z := d) M P.ln (by omega) hi rfl (by simp [EW]) rfl
      obtain ⟨q1, _, _⟩ := same true sT d d
      exact mTst_b (b := false) (mOp_eq e (y := .vw (sTx L).data) rfl (by simp [fNe, flat2, R.data, q1]))
    refine mSeq_n (ρ1 := EW d s1 sL sL sT d d d) (by rw [mIfS_f k4]; rfl) ?_
    show mSeq _ _ (EW d s1 sL sL sT d d d) = _
    obtain ⟨u, hloop⟩ : ∃ u : List (List Int), mFor (mRg1 (mCons (mOp fIx (mVar 1) (mC (.int 0))) mNil)) (mgName 6) (mAppend (mpIx (mpV 4) (mVar 6)) (mC (.int 0))) [6] (EW d s1 sL sL sT d d d) = some (.nx (EW d s1 sL sL (.tr (sTab u)) d d d)) := by
      rw [mFor_eq (mRg1_eval (one (room_ix (k := 1) (r := r) (c := c) (h := h) rfl).1) rfl (by omega))]
      obtain ⟨ρ', h1, u, _, _, rfl⟩ := forGo_inv (s := true) (g := mgName 6) (body := mAppend (mpIx (mpV 4) (mVar 6)) (mC (.int 0))) (ks := [6]) (items := rg 0 r) (ρ0 := EW d s1 sL sL sT d d d)
          (fun k ρ => ∃ u : List (List Int), u.length = r ∧ (∀ x ∈ u, x.length ≤ 20 + k) ∧ ρ = EW d s1 sL sL (.tr (sTab u)) d d d) ⟨t, tl, fun x m => by rw [F.row x m]; omega, rfl⟩ fun k z ρ hd hI => by
        obtain ⟨u, hu, hx, rfl⟩ := hI
        obtain ⟨hk, rfl⟩ := rg_at hd
        have hk' : k < u.length := by omega
        have ex : u[k]? = some u[k] := List.getElem?_eq_getElem hk'
        have lx := hx _ (List.getElem_mem hk')
        have e := app_tab (ρ := EW d s1 sL sL (.tr (sTab u)) d (.sh (.int k)) d) (q := 4) (mi := mVar 6) (me := mC (.int 0)) (z := .sh (.int 0)) (y := .sh (.int k)) (v := 0) rfl ex (by omega) rfl rfl rfl rfl
        refine ⟨_, _, rfl, .inl e, u.set k (u[k] ++ [0]), by rw [List.length_set]; exact hu, fun x m => ?_, rfl⟩
        rcases List.mem_or_eq_of_mem_set m with m | rfl
        · have := hx x m; omega
        · rw [List.length_append]; simp; omega
      exact ⟨u, h1⟩
    refine mSeq_n hloop ?_
    show mRet _ (EW d s1 sL sL d d d d) = _
    have hi : mIL (mCall 2 (g_table_of A) (mCons (mVar 1) (mCons (mVar 3) mNil))) (EW d s1 sL sL d d d d) = some (true, t.map dRow) := by
      have w : mCall 2 (g_table_of A) (mCons (mVar 1) (mCons (mVar 3) mNil)) (EW d s1 sL sL d d d d) = some (.tr (sTab t)) :=
        mCall_t (rs := [.sh (dRoom r c h), .vw (sTx L).data]) (two rfl rfl) rfl (by simp only [List.map_cons, List.map_nil, R.data, sTx_data]; exact ht)
      simp [mIL, w, R.data, sTab_data, dTab, R.fixed, dRow]
    have e := laneLc_ok (A := A) (z := d) M P.ln (by omega) hi rfl (by simp [EW]) rfl
    obtain ⟨q1, _, _⟩ := same false d d d
    exact mRet_d (d := .bl true) (mOp_eq e (y := .vw (sTx L).data) rfl (by simp [fEq, flat2, R.data, q1])) rfl
theorem ok_end {P : Program} {w : World} {K : PySem.W.Frag} {mg : Str → Option Value} {base : Heap} {A : Ad} (T : Txt K mg A) : FnOk P w K mg base (L2N.CX P w) 5 A.a_law A.d_law ["_law_script"] (DL.spLaw K) := law_end (ok_law T) law_true
end My

open PySem PySem.W PyProof.Rows
set_option maxHeartbeats 0 in
theorem PySem.Challenge.cw_boxheap_k07_texts_that_are_lanes_holds : PySem.Challenge.rw_boxheap_k07_texts_that_are_lanes.Holds := by
  w_on; o_law; k_head; (case hw => w_witness2)
  k_fill
  refine L2.walk_of (l := PySem.Challenge.rw_boxheap_k07_texts_that_are_lanes) (n := 63) (k := 5) (x := "_law_script") (CX := fun w => L2N.CX PySem.Challenge.pw_boxheap_k07_texts_that_are_lanes w) (sp := fun w => DL.spLaw _) rfl (by decide) rfl ⟨rfl, by decide, by decide⟩ (fun w h Y => PySem.W.kIn_of Y) ?F (fun _ _ a ns hl _ hS => ⟨ns, .cons (.scr hS hl) .nil, rfl, hl, fun _ => rfl⟩) (fun w _ _ _ _ h => DL.noExcN h)
  case F =>
    intro w mg fa h KX G hmg
    refine' Exists.elim (My.all_mk (l := PySem.Challenge.rw_boxheap_k07_texts_that_are_lanes) (w := w) KX G hmg ?a0 ?l0 ?c0 ?k0 ?a1 ?l1 ?c1 ?k1 ?a2 ?l2 ?c2 ?k2 ?a3 ?l3 ?c3 ?k3 ?a4 ?l4 ?c4 ?k4 ?a5 ?l5 ?c5 ?k5 ?a6 ?l6 ?c6 ?k6 ?a7 ?l7 ?c7 ?k7 ?a8 ?l8 ?c8 ?k8 ?a9 ?l9 ?c9 ?k9 ?a10 ?l10 ?c10 ?k10 ?a11 ?l11 ?c11 ?k11 ?a12 ?l12 ?c12 ?k12 ?a13 ?l13 ?c13 ?k13 ?a14 ?l14 ?c14 ?k14 ?a15 ?l15 ?c15 ?k15 ?a16 ?l16 ?c16 ?k16 ?a17 ?l17 ?c17 ?k17 ?a18 ?l18 ?c18 ?k18 ?a19 ?l19 ?c19 ?k19 ?a20 ?l20 ?c20 ?k20 ?a21 ?l21 ?c21 ?k21 ?a22 ?l22 ?c22 ?k22 ?a23 ?l23 ?c23 ?k23 ?xa_HeapError ?xq_HeapError ?xk_HeapError ?xb_HeapError ?xt_HeapError ?xa_NoRoom ?xq_NoRoom ?xk_NoRoom ?xb_NoRoom ?xt_NoRoom ?xa_NoTable ?xq_NoTable ?xk_NoTable ?xb_NoTable ?xt_NoTable ?xa_NoPlace ?xq_NoPlace ?xk_NoPlace ?xb_NoPlace ?xt_NoPlace ?xa_NoLanes ?xq_NoLanes ?xk_NoLanes ?xb_NoLanes ?xt_NoLanes ?xa_NoFloor ?xq_NoFloor ?xk_NoFloor ?xb_NoFloor ?xt_NoFloor ?x1_NoLanes ?x2_NoLanes ?x3_NoLanes ?x4_NoLanes ?x5_NoLanes ?x6_NoLanes ?x7_NoLanes ?x8_NoLanes ?xn_NoLanes_NoFloor ?xn_NoLanes_NoLanes ?xn_NoLanes_NoPlace ?xn_NoLanes_NoRoom ?xn_NoLanes_NoTable ?xm_NoLanes_HeapError ?ca_MOST ?cl_MOST ?z_ValueError ?z_all ?z_bool ?z_int ?z_isinstance ?z_len ?z_list ?z_max ?z_min ?z_range ?z_str ?z_tuple ?z_zip) ?fin
    (case a0 => k_is)
    (case l0 => k_is)
    (case c0 => k_is)
    (case k0 => k_is)
    (case a1 => k_is)
    (case l1 => k_is)
    (case c1 => k_is)
    (case k1 => k_is)
    (case a2 => k_is)
    (case l2 => k_is)
    (case c2 => k_is)
    (case k2 => k_is)
    (case a3 => k_is)
    (case l3 => k_is)
    (case c3 => k_is)
    (case k3 => k_is)
    (case a4 => k_is)
    (case l4 => k_is)
    (case c4 => k_is)
    (case k4 => k_is)
    (case a5 => k_is)
    (case l5 => k_is)
    (case c5 => k_is)
    (case k5 => k_is)
    (case a6 => k_is)
    (case l6 => k_is)
    (case c6 => k_is)
    (case k6 => k_is)
    (case a7 => k_is)
    (case l7 => k_is)
    (case c7 => k_is)
    (case k7 => k_is)
    (case a8 => k_is)
    (case l8 => k_is)
    (case c8 => k_is)
    (case k8 => k_is)
    (case a9 => k_is)
    (case l9 => k_is)
    (case c9 => k_is)
    (case k9 => k_is)
    (case a10 => k_is)
    (case l10 => k_is)
    (case c10 => k_is)
    (case k10 => k_is)
    (case a11 => k_is)
    (case l11 => k_is)
    (case c11 => k_is)
    (case k11 => k_is)
    (case a12 => k_is)
    (case l12 => k_is)
    (case c12 => k_is)
    (case k12 => k_is)
    (case a13 => k_is)
    (case l13 => k_is)
    (case c13 => k_is)
    (case k13 => k_is)
    (case a14 => k_is)
    (case l14 => k_is)
    (case c14 => k_is)
    (case k14 => k_is)
    (case a15 => k_is)
    (case l15 => k_is)
    (case c15 => k_is)
    (case k15 => k_is)
    (case a16 => k_is)
    (case l16 => k_is)
    (case c16 => k_is)
    (case k16 => k_is)
    (case a17 => k_is)
    (case l17 => k_is)
    (case c17 => k_is)
    (case k17 => k_is)
    (case a18 => k_is)
    (case l18 => k_is)
    (case c18 => k_is)
    (case k18 => k_is)
    (case a19 => k_is)
    (case l19 => k_is)
    (case c19 => k_is)
    (case k19 => k_is)
    (case a20 => k_is)
    (case l20 => k_is)
    (case c20 => k_is)
    (case k20 => k_is)
    (case a21 => k_is)
    (case l21 => k_is)
    (case c21 => k_is)
    (case k21 => k_is)
    (case a22 => k_is)
    (case l22 => k_is)
    (case c22 => k_is)
    (case k22 => k_is)
    (case a23 => k_is)
    (case l23 => k_is)
    (case c23 => k_is)
    (case k23 => k_is)
    (case xa_HeapError => k_is)
    (case xq_HeapError => k_exc)
    (case xk_HeapError => k_is)
    (case xb_HeapError => k_is)
    (case xt_HeapError => k_is)
    (case xa_NoRoom => k_is)
    (case xq_NoRoom => k_exc)
    (case xk_NoRoom => k_is)
    (case xb_NoRoom => k_is)
    (case xt_NoRoom => k_is)
    (case xa_NoTable => k_is)
    (case xq_NoTable => k_exc)
    (case xk_NoTable => k_is)
    (case xb_NoTable => k_is)
    (case xt_NoTable => k_is)
    (case xa_NoPlace => k_is)
    (case xq_NoPlace => k_exc)
    (case xk_NoPlace => k_is)
    (case xb_NoPlace => k_is)
    (case xt_NoPlace => k_is)
    (case xa_NoLanes => k_is)
    (case xq_NoLanes => k_exc)
    (case xk_NoLanes => k_is)
    (case xb_NoLanes => k_is)
    (case xt_NoLanes => k_is)
    (case xa_NoFloor => k_is)
    (case xq_NoFloor => k_exc)
    (case xk_NoFloor => k_is)
    (case xb_NoFloor => k_is)
    (case xt_NoFloor => k_is)
    (case x1_NoLanes => k_is)
    (case x2_NoLanes => k_is)
    (case x3_NoLanes => k_is)
    (case x4_NoLanes => k_is)
    (case x5_NoLanes => k_is)
    (case x6_NoLanes => k_is)
    (case x7_NoLanes => k_is)
    (case x8_NoLanes => exact DL.kit_VE (by k_is))
    (case xn_NoLanes_NoFloor => first | exact DL.kit_eq | exact DL.kit_ne (by decide) (by k_is) (by k_is) (by k_is))
    (case xn_NoLanes_NoLanes => first | exact DL.kit_eq | exact DL.kit_ne (by decide) (by k_is) (by k_is) (by k_is))
    (case xn_NoLanes_NoPlace => first | exact DL.kit_eq | exact DL.kit_ne (by decide) (by k_is) (by k_is) (by k_is))
    (case xn_NoLanes_NoRoom => first | exact DL.kit_eq | exact DL.kit_ne (by decide) (by k_is) (by k_is) (by k_is))
    (case xn_NoLanes_NoTable => first | exact DL.kit_eq | exact DL.kit_ne (by decide) (by k_is) (by k_is) (by k_is))
    (case xm_NoLanes_HeapError => exact PySem.W.exm_ref (by k_is) (by k_is) (by k_is) (by k_is))
    (case ca_MOST => k_is)
    (case cl_MOST => k_is)
    (case z_ValueError => k_is)
    (case z_all => k_is)
    (case z_bool => k_is)
    (case z_int => k_is)
    (case z_isinstance => k_is)
    (case z_len => k_is)
    (case z_list => k_is)
    (case z_max => k_is)
    (case z_min => k_is)
    (case z_range => k_is)
    (case z_str => k_is)
    (case z_tuple => k_is)
    (case z_zip => k_is)
    (case fin => intro A hA; obtain ⟨fd, T, rfl, rfl, hb⟩ := hA; exact ⟨A.d_law, hb, fun base _ _ => My.ok_end T⟩)

