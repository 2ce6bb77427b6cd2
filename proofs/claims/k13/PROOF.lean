import PyProof.Rows.All
import Wide.All
import OpenK.AllK
import Wide.FinOn
import HandS.ForMost
import HandS.ForExc
import HandS.IsInst
import HandS.Evl
import HandS.Zip
import HandS.Star
import KE.KStar
import PyProof.MeetsSeq2
import HandS.TupLe
import HandS.HotCalls
import HandS.Deep
import HandS.ExcIs
import HandS.SortRule
import HandS.SortInts
import KE.KSortTupAny
import PyProof.Rows.StrMeet
import PyProof.Rows.SortKeyStr
import PyProof.TupleOfSeq
import KE.KMathGC
import HandS.Conv
import KE.DatumOrd
import KE.DataMinMax
import PyProof.StrLawsIn
import PySem.Challenge.RW_boxheap_k13_whole_three_ways
set_option Elab.async false
set_option linter.all false
set_option maxRecDepth 100000
set_option maxHeartbeats 4000000
/-! Data, owned trees, environments: a layer over HandS. -/
namespace DL
open PySem PySem.Spec PyProof.Rows L2
open Evl (Ex)

/-- plain data; scr: the script -/
inductive D where
  | non | bl (b : Bool) | int (i : Int) | str (x : Str) | lst (xs : List D) | tup (xs : List D) | scr (ns : List Int) | ktp (ns : List Int)
instance : Inhabited D := ⟨.non⟩

section
variable (K : PySem.W.Frag) (H : Hp)
mutual
inductive Dt : V → D → Prop
  | non : Dt .non .non
  | bl (b : Bool) : Dt (.bl b) (.bl b)
  | int (i : Int) : Dt (.int i) (.int i)
  | str (x : Str) : Dt (.str x) (.str x)
  | lst {a : Addr} {xs : List V} {ds : List D} : H a = some (.lst xs) → DtL xs ds → Dt (.ref a) (.lst ds)
  | tup {a : Addr} {xs : List V} {ds : List D} : H a = some (.tup xs) → DtL xs ds → Dt (.ref a) (.tup ds)
  | ktp {a : Addr} {ns : List Int} : SqT K H a (ns.map V.int) → Dt (.ref a) (.ktp ns)
  | scr {a : Addr} {ns : List Int} : SqL K H a (ns.map V.int) → ns.length ≤ 63 → Dt (.ref a) (.scr ns)
inductive DtL : List V → List D → Prop
  | nil : DtL [] []
  | cons {v : V} {vs : List V} {d : D} {ds : List D} : Dt v d → DtL vs ds → DtL (v :: vs) (d :: ds)
end
end
section
variable {K : PySem.W.Frag} {H H' : Hp}
mutual
theorem Dt.mono (e : Ex H H') : ∀ {v : V} {d : D}, Dt K H v d → Dt K H' v d
  | _, _, .non => .non
  | _, _, .bl b => .bl b
  | _, _, .int i => .int i
  | _, _, .str x => .str x
  | _, _, .lst h t => .lst (e _ _ h) (DtL.mono e t)
  | _, _, .tup h t => .tup (e _ _ h) (DtL.mono e t)
  | _, _, .ktp h => .ktp (Evl.ex_t e h)
  | _, _, .scr h z => .scr (Evl.ex_l e h) z
theorem DtL.mono (e : Ex H H') : ∀ {vs : List V} {ds : List D}, DtL K H vs ds → DtL K H' vs ds
  | _, _, .nil => .nil
  | _, _, .cons h t => .cons (Dt.mono e h) (DtL.mono e t)
end
theorem DtL.len : ∀ {vs : List V} {ds : List D}, DtL K H vs ds → vs.length = ds.length
  | _, _, .nil => rfl
  | _, _, .cons _ t => congrArg (· + 1) (DtL.len t)
theorem DtL.get : ∀ {vs : List V} {ds : List D} {i : Nat} {d : D}, DtL K H vs ds → ds[i]? = some d → ∃ v, vs[i]? = some v ∧ Dt K H v d
  | _, _, _, _, .nil, e => by simp at e
  | _, _, 0, _, .cons r _, e => by simp at e; subst e; exact ⟨_, rfl, r⟩
  | _, _, i + 1, x, .cons _ t, e => by
    obtain ⟨u, h1, h2⟩ := DtL.get (i := i) (d := x) t (by simpa using e)
    exact ⟨u, by simpa using h1, h2⟩
theorem DtL.getV : ∀ {vs : List V} {ds : List D} {i : Nat} {v : V}, DtL K H vs ds → vs[i]? = some v → ∃ d, ds[i]? = some d ∧ Dt K H v d
  | _, _, _, _, .nil, e => by simp at e
  | _, _, 0, _, .cons r _, e => by simp at e; subst e; exact ⟨_, rfl, r⟩
  | _, _, i + 1, x, .cons _ t, e => by
    obtain ⟨u, h1, h2⟩ := DtL.getV (i := i) (v := x) t (by simpa using e)
    exact ⟨u, by simpa using h1, h2⟩
theorem DtL.append : ∀ {vs ws : List V} {ds es : List D}, DtL K H vs ds → DtL K H ws es → DtL K H (vs ++ ws) (ds ++ es)
  | _, _, _, _, .nil, s => s
  | _, _, _, _, .cons r t, s => .cons r (DtL.append t s)
theorem DtL.take : ∀ {vs : List V} {ds : List D} (n : Nat), DtL K H vs ds → DtL K H (vs.take n) (ds.take n)
  | _, _, 0, _ => .nil
  | _, _, _ + 1, .nil => .nil
  | _, _, n + 1, .cons r t => .cons r (DtL.take n t)
theorem DtL.drop : ∀ {vs : List V} {ds : List D} (n : Nat), DtL K H vs ds → DtL K H (vs.drop n) (ds.drop n)
  | _, _, 0, r => r
  | _, _, _ + 1, .nil => .nil
  | _, _, n + 1, .cons _ t => DtL.drop n t
theorem DtL.rep : ∀ (n : Nat) {vs : List V} {ds : List D}, DtL K H vs ds → DtL K H (List.replicate n vs).flatten (List.replicate n ds).flatten
  | 0, _, _, _ => .nil
  | n + 1, _, _, r => by
    rw [List.replicate_succ, List.replicate_succ, List.flatten_cons, List.flatten_cons]
    exact r.append (DtL.rep n r)
theorem DtL.ints : ∀ ns : List Int, DtL K H (ns.map V.int) (ns.map D.int)
  | [] => .nil
  | n :: r => .cons (.int n) (DtL.ints r)
theorem DtL.ints_inv : ∀ {vs : List V} {ns : List Int}, DtL K H vs (ns.map D.int) → vs = ns.map V.int
  | _, [], h => by cases h; rfl
  | _, n :: r, h => by
    cases h with
    | cons h1 h2 => cases h1; rw [DtL.ints_inv h2]; rfl
theorem DtL.bls_inv : ∀ {vs : List V} {ns : List Bool}, DtL K H vs (ns.map D.bl) → vs = ns.map V.bl
  | _, [], h => by cases h; rfl
  | _, n :: r, h => by
    cases h with
    | cons h1 h2 => cases h1; rw [DtL.bls_inv h2]; rfl
end

/-! ### what cannot change -/
mutual
def imm : D → Bool
  | .lst _ => false
  | .scr _ => false
  | .ktp _ => true
  | .tup xs => immL xs
  | .non => true
  | .bl _ => true
  | .int _ => true
  | .str _ => true
def immL : List D → Bool
  | [] => true
  | x :: xs => imm x && immL xs
end
def stb (H : Hp) : Hp := fun a => match H a with
  | some (.tup xs) => some (.tup xs)
  | some (.frz o u) => some (.frz o u)
  | _ => none
theorem stb_ex {H : Hp} : Ex (stb H) H := fun a o e => by
  unfold stb at e
  split at e
  · rename_i xs h; rw [h]; exact e
  · rename_i ob u h; rw [h]; exact e
  · cases e
theorem stb_tup {H : Hp} {a : Addr} {xs : List V} (h : H a = some (.tup xs)) : stb H a = some (.tup xs) := by unfold stb; rw [h]
theorem stb_frz {H : Hp} {a : Addr} {o : Obj} {u : HO} (h : H a = some (.frz o u)) : stb H a = some (.frz o u) := by unfold stb; rw [h]
theorem stb_mono {H H' : Hp} (e : Ex H H') : Ex (stb H) (stb H') := fun a o h => by
  have h1 := stb_ex a o h
  have h2 := e a o h1
  unfold stb at h ⊢
  rw [h2]
  rw [h1] at h
  exact h
theorem stb_sqT {K : PySem.W.Frag} {H : Hp} {a : Addr} {xs : List V} (h : SqT K H a xs) : SqT K (stb H) a xs := by
  rcases h with (h | ⟨o, h⟩) | h
  · exact .inl (.inl (stb_tup h))
  · exact .inl (.inr ⟨o, stb_frz h⟩)
  · exact .inr h
section
variable {K : PySem.W.Frag} {H H' : Hp}
mutual
theorem Dt.stb : ∀ {v : V} {d : D}, Dt K H v d → imm d = true → Dt K (stb H) v d
  | _, _, .non, _ => .non
  | _, _, .bl b, _ => .bl b
  | _, _, .int i, _ => .int i
  | _, _, .str x, _ => .str x
  | _, _, .tup h t, i => .tup (stb_tup h) (DtL.stb t (by simpa [imm] using i))
  | _, _, .ktp h, _ => .ktp (stb_sqT h)
  | _, _, .lst _ _, i => by simp [imm] at i
  | _, _, .scr _ _, i => by simp [imm] at i
theorem DtL.stb : ∀ {vs : List V} {ds : List D}, DtL K H vs ds → immL ds = true → DtL K (stb H) vs ds
  | _, _, .nil, _ => .nil
  | _, d :: ds, .cons h t, i => by
    have i' : imm d = true ∧ immL ds = true := by simpa [immL] using i
    exact .cons (Dt.stb h i'.1) (DtL.stb t i'.2)
end
end
theorem immL_iff : ∀ {ds : List D}, immL ds = true ↔ ∀ d ∈ ds, imm d = true
  | [] => by simp [immL]
  | d :: ds => by simp [immL, immL_iff (ds := ds)]

/-- what may change: a list, a dict of flat keys, a dict of tuple keys -/
inductive Mu where
  | l (xs : List V)
  | k (kvs : List (Key × V))
  | t (kvs : List (List Key × V))
def mo : Mu → HO
  | .l xs => .lst xs
  | .k kvs => .dK kvs
  | .t kvs => .dT kvs
theorem mo_l {H : Hp} {a : Addr} {xs : List V} (h : H a = some (.lst xs)) : ∃ xs, H a = some (mo xs) := ⟨.l xs, h⟩
/-! ### owned trees -/
inductive S where
  | d (x : D)
  | own (xs : List S)
  | tp (xs : List S)
mutual
def S.data : S → D
  | .d x => x
  | .own xs => .lst (S.dataL xs)
  | .tp xs => .tup (S.dataL xs)
def S.dataL : List S → List D
  | [] => []
  | x :: xs => x.data :: S.dataL xs
end
theorem S.dataL_map : ∀ xs : List S, S.dataL xs = xs.map S.data
  | [] => by simp [S.dataL]
  | x :: xs => by simp [S.dataL, S.dataL_map xs]
theorem S.dataL_len (xs : List S) : (S.dataL xs).length = xs.length := by rw [S.dataL_map, List.length_map]

section
variable (K : PySem.W.Frag) (H : Hp)
mutual
inductive Rep : S → V → List Addr → Prop
  | d {v : V} {x : D} : Dt K (stb H) v x → Rep (.d x) v []
  | own {a : Addr} {vs : List V} {ss : List S} {F : List Addr} : H a = some (.lst vs) → RepL ss vs F → a ∉ F → Rep (.own ss) (.ref a) (a :: F)
  | tp {a : Addr} {vs : List V} {ss : List S} {F : List Addr} : H a = some (.tup vs) → RepL ss vs F → Rep (.tp ss) (.ref a) F
inductive RepL : List S → List V → List Addr → Prop
  | nil : RepL [] [] []
  | cons {s : S} {v : V} {ss : List S} {vs : List V} {F1 F2 : List Addr} : Rep s v F1 → RepL ss vs F2 → (∀ a, a ∈ F1 → a ∉ F2) → RepL (s :: ss) (v :: vs) (F1 ++ F2)
end
end
section
variable {K : PySem.W.Frag} {H H' : Hp}
mutual
theorem Rep.mono (e : Ex H H') : ∀ {s : S} {v : V} {F : List Addr}, Rep K H s v F → Rep K H' s v F
  | _, _, _, .d h => .d (h.mono (stb_mono e))
  | _, _, _, .own h t n => .own (e _ _ h) (RepL.mono e t) n
  | _, _, _, .tp h t => .tp (e _ _ h) (RepL.mono e t)
theorem RepL.mono (e : Ex H H') : ∀ {s : List S} {v : List V} {F : List Addr}, RepL K H s v F → RepL K H' s v F
  | _, _, _, .nil => .nil
  | _, _, _, .cons h t n => .cons (Rep.mono e h) (RepL.mono e t) n
end
mutual
theorem Rep.data : ∀ {s : S} {v : V} {F : List Addr}, Rep K H s v F → Dt K H v s.data
  | _, _, _, .d h => h.mono stb_ex
  | _, _, _, .own h t n => .lst h (RepL.data t)
  | _, _, _, .tp h t => .tup h (RepL.data t)
theorem RepL.data : ∀ {s : List S} {v : List V} {F : List Addr}, RepL K H s v F → DtL K H v (S.dataL s)
  | _, _, _, .nil => .nil
  | _, _, _, .cons h t n => .cons (Rep.data h) (RepL.data t)
end
mutual
theorem Rep.ls : ∀ {s : S} {v : V} {F : List Addr}, Rep K H s v F → ∀ a ∈ F, ∃ xs, H a = some (mo xs)
  | _, _, _, .d h, _, m => by cases m
  | _, _, _, .own h t n, a, m => by
    rcases List.mem_cons.mp m with e | m
    · subst e; exact mo_l h
    · exact RepL.ls t a m
  | _, _, _, .tp h t, a, m => RepL.ls t a m
theorem RepL.ls : ∀ {s : List S} {v : List V} {F : List Addr}, RepL K H s v F → ∀ a ∈ F, ∃ xs, H a = some (mo xs)
  | _, _, _, .nil, _, m => by cases m
  | _, _, _, .cons h t n, a, m => by
    rcases List.mem_append.mp m with m | m
    · exact Rep.ls h a m
    · exact RepL.ls t a m
end
theorem RepL.len : ∀ {s : List S} {v : List V} {F : List Addr}, RepL K H s v F → s.length = v.length
  | _, _, _, .nil => rfl
  | _, _, _, .cons _ t _ => congrArg (· + 1) (RepL.len t)
/-- changes elsewhere: lists of F and all that is stable stay -/
def Keeps (F : List Addr) (H H' : Hp) : Prop := Ex (stb H) (stb H') ∧ ∀ a ∈ F, ∀ o, H a = some o → H' a = some o
mutual
theorem Rep.keep : ∀ {s : S} {v : V} {F : List Addr}, Rep K H s v F → Keeps F H H' → Rep K H' s v F
  | _, _, _, .d h, k => .d (h.mono k.1)
  | _, _, _, .own h t n, k => .own (k.2 _ (List.mem_cons_self) _ h) (RepL.keep t ⟨k.1, fun a m => k.2 a (List.mem_cons_of_mem _ m)⟩) n
  | _, _, _, .tp h t, k => .tp (stb_ex _ _ (k.1 _ _ (stb_tup h))) (RepL.keep t k)
theorem RepL.keep : ∀ {s : List S} {v : List V} {F : List Addr}, RepL K H s v F → Keeps F H H' → RepL K H' s v F
  | _, _, _, .nil, _ => .nil
  | _, _, _, .cons h t n, k => .cons (Rep.keep h ⟨k.1, fun a m => k.2 a (List.mem_append_left _ m)⟩) (RepL.keep t ⟨k.1, fun a m => k.2 a (List.mem_append_right _ m)⟩) n
end
theorem RepL.append : ∀ {ss ts : List S} {vs ws : List V} {F G : List Addr}, RepL K H ss vs F → RepL K H ts ws G → (∀ a, a ∈ F → a ∉ G) → RepL K H (ss ++ ts) (vs ++ ws) (F ++ G)
  | _, _, _, _, _, _, .nil, h, _ => h
  | _, _, _, _, _, G, .cons (F1 := F1) (F2 := F2) h t n, h2, dj => by
    have e : F1 ++ F2 ++ G = F1 ++ (F2 ++ G) := List.append_assoc _ _ _
    rw [e]
    refine .cons h (RepL.append t h2 fun a m => dj a (List.mem_append_right _ m)) fun a m z => ?_
    rcases List.mem_append.mp z with z | z
    · exact n a m z
    · exact dj a (List.mem_append_left _ m) z
theorem RepL.leaves : ∀ {ds : List D} {vs : List V}, DtL K (stb H) vs ds → RepL K H (ds.map S.d) vs []
  | _, _, .nil => .nil
  | _, _, .cons h t => .cons (F1 := []) (F2 := []) (.d h) (RepL.leaves t) (fun _ m => by cases m)
end

/-! ### environments -/
inductive Sl where
  | dead
  | dc (m : Mu)
  | ad (a : Addr)
  | fz (v : V) (ds : List D)
  | sh (x : D)
  | vw (x : D)
  | tr (s : S)
abbrev Env := List Sl
open Classical in
noncomputable def hid (H : Hp) (fp : Nat → List Addr) : Hp := fun a => if ∃ i, a ∈ fp i then none else H a
section
variable {H H' : Hp} {fp fp' : Nat → List Addr}
theorem hid_ex : Ex (hid H fp) H := fun a o e => by
  unfold hid at e; split at e
  · cases e
  · exact e
theorem hid_at {a : Addr} (h : ∀ i, a ∉ fp i) : hid H fp a = H a := by
  unfold hid; rw [if_neg]; rintro ⟨i, m⟩; exact h i m
theorem hid_some {a : Addr} {o : HO} (e : hid H fp a = some o) : (∀ i, a ∉ fp i) ∧ H a = some o := by
  unfold hid at e
  split at e
  · cases e
  · rename_i h; exact ⟨fun i m => h ⟨i, m⟩, e⟩
theorem hid_mono (e : Ex H H') : Ex (hid H fp) (hid H' fp) := fun a o h => by
  obtain ⟨n, h⟩ := hid_some h
  rw [hid_at n]; exact e a o h
theorem stb_hid (ls : ∀ i a, a ∈ fp i → ∃ xs, H a = some (mo xs)) : Ex (stb H) (hid H fp) := fun a o h => by
  have h1 := stb_ex a o h
  rw [hid_at]
  · exact h1
  · intro i m
    obtain ⟨xs, e⟩ := ls i a m
    unfold stb at h; rw [e] at h; cases xs <;> cases h
end
def SlOk (K : PySem.W.Frag) (Hh H : Hp) (σi : Option (Option V)) (F : List Addr) : Sl → Prop
  | .dead => F = []
  | .ad a => F = [] ∧ σi = some (some (.ref a))
  | .dc m => ∃ a, σi = some (some (.ref a)) ∧ F = [a] ∧ H a = some (mo m)
  | .fz v ds => F = [] ∧ σi = some (some v) ∧ Dt K Hh v (.lst ds)
  | .sh x => F = [] ∧ ∃ v, σi = some (some v) ∧ Dt K Hh v x
  | .vw x => F = [] ∧ ∃ v, σi = some (some v) ∧ Dt K H v x
  | .tr s => ∃ v, σi = some (some v) ∧ Rep K H s v F
structure RelF (K : PySem.W.Frag) (G H : Hp) (σ : L2.St) (ρ : Env) (fp : Nat → List Addr) : Prop where
  len : σ.length = ρ.length
  ex : Ex G H
  dj : ∀ i j a, a ∈ fp i → a ∈ fp j → i = j
  new : ∀ i a, a ∈ fp i → G a = none
  ls : ∀ i a, a ∈ fp i → ∃ xs, H a = some (mo xs)
  sl : ∀ i s, ρ[i]? = some s → SlOk K (hid H fp) H σ[i]? (fp i) s
section
variable {K : PySem.W.Frag} {G H H' : Hp} {σ : L2.St} {ρ : Env} {fp : Nat → List Addr}
theorem RelF.grow (r : RelF K G H σ ρ fp) (e : Ex H H') : RelF K G H' σ ρ fp where
  len := r.len
  ex := r.ex.trans e
  dj := r.dj
  new := r.new
  ls := fun i a m => let ⟨xs, h⟩ := r.ls i a m; ⟨xs, e _ _ h⟩
  sl := fun i s h => by
    have q := r.sl i s h
    cases s with
    | dead => exact q
    | ad a => exact q
    | dc m => obtain ⟨a, q1, q2, q3⟩ := q; exact ⟨a, q1, q2, e _ _ q3⟩
    | sh x => obtain ⟨q0, v, q1, q2⟩ := q; exact ⟨q0, v, q1, q2.mono (hid_mono e)⟩
    | fz w x => obtain ⟨q0, q1, q2⟩ := q; exact ⟨q0, q1, q2.mono (hid_mono e)⟩
    | vw x => obtain ⟨q0, v, q1, q2⟩ := q; exact ⟨q0, v, q1, q2.mono e⟩
    | tr s => obtain ⟨v, q1, q2⟩ := q; exact ⟨v, q1, q2.mono e⟩
end

/-! ### results of expressions -/
inductive R where
  | sh (x : D)
  | vw (x : D)
  | tr (s : S)
def R.data : R → D
  | .sh x => x
  | .vw x => x
  | .tr s => s.data
def R.slot : R → Sl
  | .sh x => .sh x
  | .vw x => if imm x then .sh x else .vw x
  | .tr s => .tr s
def R.tree : R → Option S
  | .sh x => if imm x then some (.d x) else none
  | .vw x => if imm x then some (.d x) else none
  | .tr s => some s
def ROk (K : PySem.W.Frag) (H H' : Hp) (fp : Nat → List Addr) (v : V) (F : List Addr) : R → Prop
  | .sh x => F = [] ∧ Dt K (hid H' fp) v x
  | .vw x => F = [] ∧ Dt K H' v x
  | .tr s => Rep K H' s v F ∧ ∀ a ∈ F, H a = none
section
variable {K : PySem.W.Frag} {H H1 H2 : Hp} {fp : Nat → List Addr} {v : V} {F : List Addr} {r : R}
theorem ROk.data (h : ROk K H H1 fp v F r) : Dt K H1 v r.data := by
  cases r with
  | sh x => exact h.2.mono hid_ex
  | vw x => exact h.2
  | tr s => exact h.1.data
theorem ROk.mono (h : ROk K H H1 fp v F r) (e : Ex H1 H2) : ROk K H H2 fp v F r := by
  cases r with
  | sh x => exact ⟨h.1, h.2.mono (hid_mono e)⟩
  | vw x => exact ⟨h.1, h.2.mono e⟩
  | tr s => exact ⟨h.1.mono e, h.2⟩
theorem ROk.back (h : ROk K H1 H2 fp v F r) (e : Ex H H1) : ROk K H H2 fp v F r := by
  cases r with
  | sh x => exact h
  | vw x => exact h
  | tr s => exact ⟨h.1, fun a m => Evl.fresh_back e (h.2 a m)⟩
theorem ROk.fresh (h : ROk K H H1 fp v F r) : ∀ a ∈ F, H a = none := by
  cases r with
  | sh x => intro a m; rw [h.1] at m; cases m
  | vw x => intro a m; rw [h.1] at m; cases m
  | tr s => exact h.2
theorem ROk.ls (h : ROk K H H1 fp v F r) : ∀ a ∈ F, ∃ xs, H1 a = some (mo xs) := by
  cases r with
  | sh x => intro a m; rw [h.1] at m; cases m
  | vw x => intro a m; rw [h.1] at m; cases m
  | tr s => exact h.1.ls
theorem ROk.tree {s : S} (h : ROk K H H1 fp v F r) (e : r.tree = some s) : Rep K H1 s v F := by
  cases r with
  | sh x =>
    have e : (if imm x = true then some (S.d x) else none) = some s := e
    by_cases i : imm x = true
    · rw [if_pos i] at e; cases e; obtain ⟨rfl, h⟩ := h; exact .d ((h.mono hid_ex).stb i)
    · rw [if_neg i] at e; cases e
  | vw x =>
    have e : (if imm x = true then some (S.d x) else none) = some s := e
    by_cases i : imm x = true
    · rw [if_pos i] at e; cases e; obtain ⟨rfl, h⟩ := h; exact .d (h.stb i)
    · rw [if_neg i] at e; cases e
  | tr t => cases e; exact h.1
end
theorem R.tree_data {r : R} {s : S} (e : r.tree = some s) : s.data = r.data := by
  cases r with
  | sh x =>
    have e : (if imm x = true then some (S.d x) else none) = some s := e
    by_cases i : imm x = true
    · rw [if_pos i] at e; cases e; simp [S.data, R.data]
    · rw [if_neg i] at e; cases e
  | vw x =>
    have e : (if imm x = true then some (S.d x) else none) = some s := e
    by_cases i : imm x = true
    · rw [if_pos i] at e; cases e; simp [S.data, R.data]
    · rw [if_neg i] at e; cases e
  | tr t => cases e; rfl

/-- an argument list's results -/
inductive AOk (K : PySem.W.Frag) (H H' : Hp) (fp : Nat → List Addr) : List R → List V → List Addr → Prop
  | nil : AOk K H H' fp [] [] []
  | cons {r : R} {v : V} {rs : List R} {vs : List V} {F1 F2 : List Addr} : ROk K H H' fp v F1 r → AOk K H H' fp rs vs F2 → (∀ a, a ∈ F1 → a ∉ F2) → AOk K H H' fp (r :: rs) (v :: vs) (F1 ++ F2)
section
variable {K : PySem.W.Frag} {H H1 H2 : Hp} {fp : Nat → List Addr}
theorem AOk.data : ∀ {rs : List R} {vs : List V} {F : List Addr}, AOk K H H1 fp rs vs F → DtL K H1 vs (rs.map R.data)
  | _, _, _, .nil => .nil
  | _, _, _, .cons h t _ => .cons h.data t.data
theorem AOk.mono : ∀ {rs : List R} {vs : List V} {F : List Addr}, AOk K H H1 fp rs vs F → Ex H1 H2 → AOk K H H2 fp rs vs F
  | _, _, _, .nil, _ => .nil
  | _, _, _, .cons h t n, e => .cons (h.mono e) (t.mono e) n
theorem AOk.back : ∀ {rs : List R} {vs : List V} {F : List Addr}, AOk K H1 H2 fp rs vs F → Ex H H1 → AOk K H H2 fp rs vs F
  | _, _, _, .nil, _ => .nil
  | _, _, _, .cons h t n, e => .cons (h.back e) (t.back e) n
theorem AOk.fresh : ∀ {rs : List R} {vs : List V} {F : List Addr}, AOk K H H1 fp rs vs F → ∀ a ∈ F, H a = none
  | _, _, _, .nil, _, m => by cases m
  | _, _, _, .cons h t n, a, m => by
    rcases List.mem_append.mp m with m | m
    · exact h.fresh a m
    · exact t.fresh a m
theorem AOk.ls : ∀ {rs : List R} {vs : List V} {F : List Addr}, AOk K H H1 fp rs vs F → ∀ a ∈ F, ∃ xs, H1 a = some (mo xs)
  | _, _, _, .nil, _, m => by cases m
  | _, _, _, .cons h t n, a, m => by
    rcases List.mem_append.mp m with m | m
    · exact h.ls a m
    · exact t.ls a m
theorem AOk.len : ∀ {rs : List R} {vs : List V} {F : List Addr}, AOk K H H1 fp rs vs F → rs.length = vs.length
  | _, _, _, .nil => rfl
  | _, _, _, .cons _ t _ => congrArg (· + 1) t.len
end
def trees : List R → Option (List S)
  | [] => some []
  | r :: rs => match r.tree, trees rs with
    | some s, some ss => some (s :: ss)
    | _, _ => none
theorem AOk.trees {K : PySem.W.Frag} {H H1 : Hp} {fp : Nat → List Addr} : ∀ {rs : List R} {vs : List V} {F : List Addr} {ss : List S}, AOk K H H1 fp rs vs F → trees rs = some ss → RepL K H1 ss vs F
  | _, _, _, _, .nil, e => by cases e; exact .nil
  | _, _, _, _, .cons (r := r) (rs := rs) h t n, e => by
    unfold DL.trees at e
    split at e
    · rename_i s ss e1 e2; cases e; exact .cons (h.tree e1) (t.trees e2) n
    · cases e

/-! ### the fused judgements -/
abbrev ME := Env → Option R
abbrev MT := Env → Option Bool
abbrev MA := Env → Option (List R)
def SimE (K : PySem.W.Frag) (t : TE) (m : ME) : Prop := ∀ G H σ ρ fp r (Q : VK), RelF K G H σ ρ fp → m ρ = some r → (∀ v F H', Ex H H' → ROk K H H' fp v F r → Q v H') → t σ H Q
def SimT (K : PySem.W.Frag) (t : TT) (m : MT) : Prop := ∀ G H σ ρ fp b (Q : Bool → Hp → Prop), RelF K G H σ ρ fp → m ρ = some b → (∀ H', Ex H H' → Q b H') → t σ H Q
def SimA (K : PySem.W.Frag) (t : TA) (m : MA) : Prop := ∀ G H σ ρ fp rs (Q : List V → Hp → Prop), RelF K G H σ ρ fp → m ρ = some rs → (∀ vs F H', Ex H H' → AOk K H H' fp rs vs F → Q vs H') → t σ H Q
structure XE (X : Cx) (e : Expr) (m : ME) : Prop where
  sim : ∃ t, PE X e t ∧ SimE X.K t m
structure XT (X : Cx) (e : Expr) (m : MT) : Prop where
  sim : ∃ t, PT X e t ∧ SimT X.K t m
structure XW (X : Cx) (e : Expr) (m : MT) : Prop where
  sim : ∃ t, PW X e t ∧ SimT X.K t m
structure XA (X : Cx) (es : List Expr) (m : MA) : Prop where
  sim : ∃ t, PA X es t ∧ SimA X.K t m
end DL

set_option Elab.async false
set_option linter.all false
set_option maxRecDepth 100000
set_option maxHeartbeats 4000000
/-! Expressions. -/
namespace DL
open PySem PySem.Spec PyProof.Rows L2
open Evl (Ex)
section
variable {X : Cx} {e a b : Expr} {es : List Expr} {ma mb mc : ME} {pos : Pos}

/-! names, constants -/
def mVar (i : Nat) : ME := fun ρ => match ρ[i]? with
  | some (.sh x) => some (.sh x)
  | some (.vw x) => some (.vw x)
  | some (.tr s) => some (.vw s.data)
  | some (.fz _ ds) => some (.sh (.lst ds))
  | _ => none
theorem sim_var {K : PySem.W.Frag} (i : Nat) : SimE K (tVar i) (mVar i) := by
  intro G H σ ρ fp r Q R hm q
  unfold mVar at hm
  split at hm
  · rename_i x hx; cases hm
    obtain ⟨_, v, h1, h2⟩ := R.sl i _ hx
    exact ⟨v, h1, q v [] H (Evl.Ex.refl H) ⟨rfl, h2⟩⟩
  · rename_i x hx; cases hm
    obtain ⟨_, v, h1, h2⟩ := R.sl i _ hx
    exact ⟨v, h1, q v [] H (Evl.Ex.refl H) ⟨rfl, h2⟩⟩
  · rename_i s hx; cases hm
    obtain ⟨v, h1, h2⟩ := R.sl i _ hx
    exact ⟨v, h1, q v [] H (Evl.Ex.refl H) ⟨rfl, h2.data⟩⟩
  · rename_i w ds hx; cases hm
    obtain ⟨_, h1, h2⟩ := R.sl i _ hx
    exact ⟨w, h1, q w [] H (Evl.Ex.refl H) ⟨rfl, h2⟩⟩
  · cases hm
theorem xv (i : Nat) {x : Str} {pos : Pos} (hN : X.N[i]? = some x := by rfl) (hv : Vis X.env.scope x := by first | exact Or.inl rfl | exact Or.inr (Or.inl rfl) | exact Or.inr (Or.inr rfl)) (hd : (x == ("__debug__" : Str)) = false := by decide)
    (hcd : (x == ("__classdict__" : Str)) = false := by decide) : XE X (.Name x pos) (mVar i) := ⟨_, pe_var hN hv hd hcd, sim_var i⟩
def mC (d : D) : ME := fun _ => some (.sh d)
inductive Fl : V → D → Prop
  | non : Fl .non .non
  | bl (b : Bool) : Fl (.bl b) (.bl b)
  | int (i : Int) : Fl (.int i) (.int i)
  | str (x : Str) : Fl (.str x) (.str x)
theorem Fl.dt {K : PySem.W.Frag} {H : Hp} {v : V} {d : D} (h : Fl v d) : Dt K H v d := by
  cases h
  · exact .non
  · exact .bl _
  · exact .int _
  · exact .str _
theorem Fl.rok {K : PySem.W.Frag} {H H1 : Hp} {fp : Nat → List Addr} {v : V} {d : D} (h : Fl v d) : ROk K H H1 fp v [] (.sh d) := ⟨rfl, h.dt⟩
theorem sim_c {K : PySem.W.Frag} {v : V} {d : D} (h : Fl v d) : SimE K (tC v) (mC d) := by
  intro G H σ ρ fp r Q R hm q
  cases hm
  exact q v [] H (Evl.Ex.refl H) h.rok
theorem xint {i j pos} : XE X (.Constant (.int i) j pos) (mC (.int i)) := ⟨_, pe_int, sim_c (.int i)⟩
theorem xbl {i j pos} : XE X (.Constant (.bool i) j pos) (mC (.bl i)) := ⟨_, pe_bl, sim_c (.bl i)⟩
theorem xnon {j pos} : XE X (.Constant .none j pos) (mC .non) := ⟨_, pe_non, sim_c .non⟩
theorem xstr {i j pos} : XE X (.Constant (.str i) j pos) (mC (.str i)) := ⟨_, pe_str, sim_c (.str i)⟩
/-- a module's constant: a tuple of ints of the written part -/
theorem xglobT {x : Str} {t : Addr} {ns : List Int} {pos : Pos} (hg : Gl X x) (hm : X.mg x = some (.ref t)) (hs : ∀ H, SqT X.K H t (ns.map V.int)) (hd : (x == ("__debug__" : Str)) = false := by decide) : XE X (.Name x pos) (mC (.ktp ns)) := by
  refine ⟨_, pe_glob (v := .ref t) hg hm rfl hd, ?_⟩
  intro G H σ ρ fp r Q R hm q
  cases hm
  exact q _ [] H (Evl.Ex.refl H) ⟨rfl, .ktp (hs _)⟩

/-! arguments -/
def mNil : MA := fun _ => some []
def mCons (m : ME) (ms : MA) : MA := fun ρ => match m ρ, ms ρ with
  | some r, some rs => some (r :: rs)
  | _, _ => none
theorem xa_nil : XA X [] mNil := ⟨_, pa_nil, fun G H σ ρ fp r Q R hm q => by cases hm; exact q [] [] H (Evl.Ex.refl H) .nil⟩
theorem sim_cons {K : PySem.W.Frag} {te : TE} {t : TA} {m : ME} {ms : MA} (h : SimE K te m) (hs : SimA K t ms) : SimA K (tCons te t) (mCons m ms) := by
  intro G H σ ρ fp rs Q R hm q
  unfold mCons at hm
  split at hm
  · rename_i r rs' e1 e2; cases hm
    refine h G H σ ρ fp r _ R e1 fun v F1 H1 x1 o1 => ?_
    refine hs G H1 σ ρ fp rs' _ (R.grow x1) e2 fun vs F2 H2 x2 o2 => ?_
    refine q (v :: vs) (F1 ++ F2) H2 (x1.trans x2) (.cons (o1.mono x2) (o2.back x1) fun a m1 m2 => ?_)
    obtain ⟨xs, z⟩ := o1.ls a m1
    rw [o2.fresh a m2] at z; cases z
  · cases hm
theorem xa {m : ME} {ms : MA} (h : XE X e m) (hs : XA X es ms) (hst : starEach (e :: es) X.env = (false, eval e X.env) :: starEach es X.env := by rfl) : XA X (e :: es) (mCons m ms) := by
  obtain ⟨te, p, s⟩ := h
  obtain ⟨t, p', s'⟩ := hs
  exact ⟨_, pa_cons p p' hst, sim_cons s s'⟩

/-! two-place operations -/
def mOp (f : R → R → Option R) (ma mb : ME) : ME := fun ρ => match ma ρ, mb ρ with
  | some x, some y => f x y
  | _, _ => none
def Op2 (K : PySem.W.Frag) (r : R2) (f : R → R → Option R) : Prop := ∀ H H1 fp x Fx rx y Fy ry z (Q : VK), ROk K H H1 fp x Fx rx → ROk K H H1 fp y Fy ry → (∀ a, a ∈ Fx → a ∉ Fy) → (∀ i a, a ∈ fp i → ∃ xs, H1 a = some (mo xs)) → Ex H H1 → f rx ry = some z →
  (∀ v F H', Ex H1 H' → ROk K H H' fp v F z → Q v H') → r x y H1 Q
theorem sim_op {K : PySem.W.Frag} {r : R2} {f : R → R → Option R} {ta tb : TE} (hr : Op2 K r f) (ha : SimE K ta ma) (hb : SimE K tb mb) : SimE K (tOp r ta tb) (mOp f ma mb) := by
  intro G H σ ρ fp z Q R hm q
  unfold mOp at hm
  split at hm
  · rename_i x y e1 e2
    refine ha G H σ ρ fp x _ R e1 fun v F1 H1 x1 o1 => ?_
    refine hb G H1 σ ρ fp y _ (R.grow x1) e2 fun w F2 H2 x2 o2 => ?_
    refine hr H H2 fp v F1 x w F2 y z Q (o1.mono x2) (o2.back x1) (fun a m1 m2 => ?_) ((R.grow x1).grow x2).ls (x1.trans x2) hm fun u F H' x3 o3 => q u F H' ((x1.trans x2).trans x3) o3
    obtain ⟨xs, z⟩ := o1.ls a m1
    rw [o2.fresh a m2] at z; cases z
  · cases hm
theorem xop {op : Operator} {r : R2} {f : R → R → Option R} (ho : OpR X (binaryOp op) r) (hr : Op2 X.K r f) (ha : XE X a ma) (hb : XE X b mb) : XE X (.BinOp a op b pos) (mOp f ma mb) := by
  obtain ⟨ta, p, s⟩ := ha
  obtain ⟨tb, p', s'⟩ := hb
  exact ⟨_, pe_op ho p p', sim_op hr s s'⟩
/-- a flat answer -/
def flat2 (g : D → D → Option D) : R → R → Option R := fun x y => (g x.data y.data).map .sh
theorem Op2.flat {K : PySem.W.Frag} {r : R2} {g : D → D → Option D} (h : ∀ H x dx y dy z (Q : VK), Dt K H x dx → Dt K H y dy → g dx dy = some z → (∀ v, Fl v z → Q v H) → r x y H Q) : Op2 K r (flat2 g) := by
  intro H H1 fp x Fx rx y Fy ry z Q ox oy _ _ _ hz q
  unfold flat2 at hz
  rw [Option.map_eq_some_iff] at hz
  obtain ⟨d, h1, rfl⟩ := hz
  exact h H1 x _ y _ d Q ox.data oy.data h1 fun v f => q v [] H1 (Evl.Ex.refl H1) f.rok
def gI (f : Int → Int → D) : D → D → Option D
  | .int i, .int j => some (f i j)
  | _, _ => none
def gIC (C : Int → Int → Prop) [∀ i j, Decidable (C i j)] (f : Int → Int → D) : D → D → Option D
  | .int i, .int j => if C i j then some (f i j) else none
  | _, _ => none
theorem op2_I0 {K : PySem.W.Frag} {f : Int → Int → V} {g : Int → Int → D} (h : ∀ i j, Fl (f i j) (g i j)) : Op2 K (rI0 f) (flat2 (gI g)) := .flat fun H x dx y dy z Q hx hy hz q => by
  unfold gI at hz
  split at hz
  · cases hz; cases hx; cases hy; exact ⟨_, _, rfl, rfl, q _ (h _ _)⟩
  · cases hz
theorem op2_I {K : PySem.W.Frag} {C : Int → Int → Prop} [∀ i j, Decidable (C i j)] {f : Int → Int → V} {g : Int → Int → D} (h : ∀ i j, Fl (f i j) (g i j)) : Op2 K (rI C f) (flat2 (gIC C g)) := .flat fun H x dx y dy z Q hx hy hz q => by
  unfold gIC at hz
  split at hz
  · split at hz
    · rename_i hc; cases hz; cases hx; cases hy; exact ⟨_, _, rfl, rfl, hc, q _ (h _ _)⟩
    · cases hz
  · cases hz
instance (i j : Int) : Decidable (CMul i j) := by unfold CMul; infer_instance
instance (i j : Int) : Decidable (CDiv i j) := by unfold CDiv; infer_instance
instance (i j : Int) : Decidable (CPow i j) := by unfold CPow; infer_instance
def fSub := flat2 (gI fun i j => .int (i - j))
def fDiv := flat2 (gIC CDiv fun i j => .int (i / j))
def fMod := flat2 (gIC (fun _ j => 0 < j) fun i j => .int (i % j))
def fPow := flat2 (gIC CPow fun i j => .int (i ^ j.toNat))
theorem xsub (ha : XE X a ma) (hb : XE X b mb) : XE X (.BinOp a .Sub b pos) (mOp fSub ma mb) := xop op_sub (op2_I0 fun _ _ => .int _) ha hb
theorem xdiv (ha : XE X a ma) (hb : XE X b mb) : XE X (.BinOp a .FloorDiv b pos) (mOp fDiv ma mb) := xop op_fdiv (op2_I fun _ _ => .int _) ha hb
theorem xmod (ha : XE X a ma) (hb : XE X b mb) : XE X (.BinOp a .Mod b pos) (mOp fMod ma mb) := xop op_mod (op2_I fun _ _ => .int _) ha hb
theorem xpow (ha : XE X a ma) (hb : XE X b mb) : XE X (.BinOp a .Pow b pos) (mOp fPow ma mb) := xop op_pow (op2_I fun _ _ => .int _) ha hb

/-- a new list of what is at hand -/
def newL (ds : List D) : R := if immL ds = true then .tr (.own (ds.map .d)) else .vw (.lst ds)
theorem dataL_d (ds : List D) : S.dataL (ds.map S.d) = ds := by
  induction ds with
  | nil => rfl
  | cons d ds ih => show S.data (S.d d) :: S.dataL (ds.map S.d) = d :: ds; rw [ih]; rfl
theorem newL_data (ds : List D) : (newL ds).data = .lst ds := by
  unfold newL; split
  · show D.lst (S.dataL (ds.map S.d)) = _; rw [dataL_d]
  · rfl
theorem newL_ok {K : PySem.W.Frag} {H H1 : Hp} {fp : Nat → List Addr} {p : Addr} {vs : List V} {ds : List D} (hp : H1 p = none) (e : Ex H H1) (h : DtL K H1 vs ds) : ∃ F, ROk K H (upd H1 p (.lst vs)) fp (.ref p) F (newL ds) := by
  have e2 : Ex H1 (upd H1 p (.lst vs)) := Evl.Ex.new hp
  unfold newL
  split
  · rename_i i
    refine ⟨[p], .own upd_same (RepL.leaves ?_) (fun z => by cases z), fun a m => ?_⟩
    · exact (h.mono e2).stb i
    · have : a = p := by simpa using m
      subst this; exact Evl.fresh_back e hp
  · exact ⟨[], rfl, .lst upd_same (h.mono e2)⟩
def fAdd : R → R → Option R := fun x y => match x.data, y.data with
  | .int i, .int j => some (.sh (.int (i + j)))
  | .str i, .str j => if i.length + j.length ≤ 100000 then some (.sh (.str (i ++ j))) else none
  | .lst xs, .lst ys => if xs.length + ys.length ≤ 100000 then some (newL (xs ++ ys)) else none
  | _, _ => none
theorem xadd (ha : XE X a ma) (hb : XE X b mb) : XE X (.BinOp a .Add b pos) (mOp fAdd ma mb) := by
  refine xop (op_add.or (op_add_str.or op_cat)) ?_ ha hb
  intro H H1 fp x Fx rx y Fy ry z Q ox oy _ _ ex hz q
  have hx := ox.data
  have hy := oy.data
  unfold fAdd at hz
  split at hz
  · rename_i i j e1 e2; rw [e1] at hx; rw [e2] at hy; cases hx; cases hy; cases hz
    exact .inl ⟨i, j, rfl, rfl, q _ [] H1 (Evl.Ex.refl H1) (Fl.int _).rok⟩
  · rename_i i j e1 e2; rw [e1] at hx; rw [e2] at hy; cases hx; cases hy
    split at hz
    · rename_i hl; cases hz
      exact .inr (.inl ⟨i, j, rfl, rfl, Evl.sz_of hl, q _ [] H1 (Evl.Ex.refl H1) (Fl.str _).rok⟩)
    · cases hz
  · rename_i xs ys e1 e2; rw [e1] at hx; rw [e2] at hy
    cases hx with
    | lst h1 t1 =>
      cases hy with
      | lst h2 t2 =>
        split at hz
        · rename_i hl; cases hz
          refine .inr (.inr ⟨_, _, _, _, rfl, rfl, h1, h2, ?_, fun p hp => ?_⟩)
          · rw [t1.len, t2.len]; exact Evl.sz_of hl
          · obtain ⟨F, o⟩ := newL_ok (fp := fp) hp ex (t1.append t2)
            exact q _ F _ (Evl.Ex.new hp) o
        · cases hz
  · cases hz
theorem op_mul_txt {X : Cx} : OpR X (binaryOp .Mult) (fun x y H Q => ∃ i k, x = .str i ∧ y = .int k ∧ MulOk i k ∧ Q (.str (Txt.mul i k)) H) := by
  intro pins s σ H x y v u Q I rx ry h
  obtain ⟨i, j, rfl, rfl, hz, q⟩ := h
  obtain ⟨t, rfl⟩ := rx
  obtain ⟨t', rfl⟩ := ry
  exact SB.mul hz fun t' k => ⟨.str (Txt.mul i j), H, I.tok _, ⟨_, rfl⟩, q⟩
def fMul : R → R → Option R := fun x y => match x.data, y.data with
  | .int i, .int j => if CMul i j then some (.sh (.int (i * j))) else none
  | .lst xs, .int k => if 0 ≤ k ∧ k ≤ 100000 ∧ xs.length * k.toNat ≤ 100000 then some (newL (List.replicate k.toNat xs).flatten) else none
  | .str x, .int k => if 0 ≤ k ∧ k ≤ 100000 ∧ x.length ≤ 100 then some (.sh (.str (Txt.mul x k))) else none
  | _, _ => none
theorem xmul (ha : XE X a ma) (hb : XE X b mb) : XE X (.BinOp a .Mult b pos) (mOp fMul ma mb) := by
  refine xop (op_mul.or (op_rep.or op_mul_txt)) ?_ ha hb
  intro H H1 fp x Fx rx y Fy ry z Q ox oy _ _ ex hz q
  have hx := ox.data
  have hy := oy.data
  unfold fMul at hz
  split at hz
  · rename_i i j e1 e2; rw [e1] at hx; rw [e2] at hy; cases hx; cases hy
    split at hz
    · rename_i hc; cases hz
      exact .inl ⟨i, j, rfl, rfl, hc, q _ [] H1 (Evl.Ex.refl H1) (Fl.int _).rok⟩
    · cases hz
  · rename_i xs k e1 e2; rw [e1] at hx; rw [e2] at hy
    cases hx with
    | lst h1 t1 =>
      cases hy
      split at hz
      · rename_i hl; cases hz
        refine .inr (.inl ⟨_, k, _, rfl, rfl, h1, by omega, by omega, ?_, fun p hp => ?_⟩)
        · rw [t1.len]; exact Evl.sz_of hl.2.2
        · obtain ⟨F, o⟩ := newL_ok (fp := fp) hp ex (t1.rep k.toNat)
          exact q _ F _ (Evl.Ex.new hp) o
      · cases hz
  · rename_i w k e1 e2; rw [e1] at hx; rw [e2] at hy; cases hx; cases hy
    split at hz
    · rename_i hl; cases hz
      exact .inr (.inr ⟨w, k, rfl, rfl, PyProof.Rows.mulOk_of 100 100000 hl.2.2 (by omega) (by omega) (by decide) (by decide), q _ [] H1 (Evl.Ex.refl H1) (Fl.str _).rok⟩)
    · cases hz
  · cases hz

/-! comparisons -/
theorem xcmp {op : CmpOp} {r : R2} {f : R → R → Option R} (ho : OpR X (compareOp op) r) (hr : Op2 X.K r f) (hm : behindInMarks op b = false) (ha : XE X a ma) (hb : XE X b mb) : XE X (.Compare a [op] [b] pos) (mOp f ma mb) := by
  obtain ⟨ta, p, s⟩ := ha
  obtain ⟨tb, p', s'⟩ := hb
  exact ⟨_, pe_cmpR ho p p' hm, sim_op hr s s'⟩
def mTst (m : ME) : MT := fun ρ => match m ρ with
  | some r => match r.data with
    | .bl b => some b
    | _ => none
  | none => none
theorem sim_tst {K : PySem.W.Frag} {te : TE} {m : ME} (h : SimE K te m) : SimT K (tTest te) (mTst m) := by
  intro G H σ ρ fp b Q R hm q
  unfold mTst at hm
  split at hm
  · rename_i r e1
    split at hm
    · rename_i c e2; cases hm
      refine h G H σ ρ fp r _ R e1 fun v F H1 x1 o1 => ?_
      have z := o1.data
      rw [e2] at z; cases z
      exact ⟨_, rfl, q H1 x1⟩
    · cases hm
  · cases hm
theorem xtcmp {op : CmpOp} {r : R2} {f : R → R → Option R} (ho : OpR X (compareOp op) r) (hr : Op2 X.K r f) (hm : behindInMarks op b = false) (ha : XE X a ma) (hb : XE X b mb) : XT X (.Compare a [op] [b] pos) (mTst (mOp f ma mb)) := by
  obtain ⟨ta, p, s⟩ := ha
  obtain ⟨tb, p', s'⟩ := hb
  exact ⟨_, pt_cmpR ho p p' hm, sim_tst (sim_op hr s s')⟩
def fLt := flat2 (gI fun i j => .bl (decide (i < j)))
def fLe := flat2 (gI fun i j => .bl (decide (i ≤ j)))
def fGt := flat2 (gI fun i j => .bl (decide (j < i)))
def fGe := flat2 (gI fun i j => .bl (decide (j ≤ i)))
theorem op2_lt {K : PySem.W.Frag} : Op2 K (rI0 fun i j => .bl (decide (i < j))) fLt := op2_I0 fun _ _ => .bl _
theorem op2_le {K : PySem.W.Frag} : Op2 K (rI0 fun i j => .bl (decide (i ≤ j))) fLe := op2_I0 fun _ _ => .bl _
theorem op2_gt {K : PySem.W.Frag} : Op2 K (rI0 fun i j => .bl (decide (j < i))) fGt := op2_I0 fun _ _ => .bl _
theorem op2_ge {K : PySem.W.Frag} : Op2 K (rI0 fun i j => .bl (decide (j ≤ i))) fGe := op2_I0 fun _ _ => .bl _
/-! data as the model has it -/
mutual
def D.py : D → PyData
  | .non => .none
  | .bl b => .bool b
  | .int i => .int i
  | .str x => .str x
  | .lst xs => .list (D.pyL xs)
  | .tup xs => .tuple (D.pyL xs)
  | .scr ns => .list (ns.map .int)
  | .ktp ns => .tuple (ns.map .int)
def D.pyL : List D → List PyData
  | [] => []
  | x :: xs => x.py :: D.pyL xs
end
theorem dp_ints {K : PySem.W.Frag} {H : Hp} : ∀ ns : List Int, DpAll K H (ns.map V.int) (ns.map PyData.int)
  | [] => .nil
  | n :: r => .cons (.int n) (dp_ints r)
mutual
theorem Dt.dp {K : PySem.W.Frag} {H : Hp} : ∀ {v : V} {d : D}, Dt K H v d → Dp K H v d.py
  | _, _, .non => .non
  | _, _, .bl b => .bl b
  | _, _, .int i => .int i
  | _, _, .str x => .str x
  | _, _, .lst h t => .lst (SqL.of h) (DtL.dp t)
  | _, _, .tup h t => .tup (.inl (.inl h)) (DtL.dp t)
  | _, _, .ktp h => .tup h (dp_ints _)
  | _, _, .scr h _ => .lst h (dp_ints _)
theorem DtL.dp {K : PySem.W.Frag} {H : Hp} : ∀ {vs : List V} {ds : List D}, DtL K H vs ds → DpAll K H vs (D.pyL ds)
  | _, _, .nil => .nil
  | _, _, .cons h t => .cons (Dt.dp h) (DtL.dp t)
end
def D.eqv (a b : D) : Bool := PyData.eqv a.py b.py
def D.ok (a : D) : Bool := SeqAt.shaped a.py
def gEq (neg : Bool) : D → D → Option D := fun a b => if a.ok && b.ok then some (.bl (if neg then !D.eqv a b else D.eqv a b)) else none
def fEq := flat2 (gEq false)
def fNe := flat2 (gEq true)
theorem op2_eq {K : PySem.W.Frag} : Op2 K (rEqD K) fEq := .flat fun H x dx y dy z Q hx hy hz q => by
  unfold gEq at hz
  split at hz
  · rename_i h; rw [Bool.and_eq_true] at h; cases hz
    exact ⟨_, _, hx.dp, hy.dp, h.1, h.2, q _ (.bl _)⟩
  · cases hz
theorem op2_ne {K : PySem.W.Frag} : Op2 K (rNeD K) fNe := .flat fun H x dx y dy z Q hx hy hz q => by
  unfold gEq at hz
  split at hz
  · rename_i h; rw [Bool.and_eq_true] at h; cases hz
    exact ⟨_, _, hx.dp, hy.dp, h.1, h.2, q _ (.bl _)⟩
  · cases hz
/-- is None -/
def isNon : D → Bool
  | .non => true
  | _ => false
theorem Dt.isNon {K : PySem.W.Frag} {H : Hp} {v : V} {d : D} (h : Dt K H v d) : decide (v = .non) = isNon d := by
  cases h <;> first | rfl | (apply decide_eq_false; intro z; cases z)
def fIs := flat2 (fun a b => if isNon b then some (.bl (isNon a)) else none)
def fIsNot := flat2 (fun a b => if isNon b then some (.bl (!isNon a)) else none)
theorem op2_is {K : PySem.W.Frag} : Op2 K (fun x y H Q => y = .non ∧ Q (.bl (decide (x = .non))) H) fIs := .flat fun H x dx y dy z Q hx hy hz q => by
  split at hz
  · rename_i h; cases hz
    have z := hy.isNon
    rw [h] at z
    rw [hx.isNon]
    exact ⟨of_decide_eq_true z, q _ (.bl _)⟩
  · cases hz
theorem op2_isnot {K : PySem.W.Frag} : Op2 K (fun x y H Q => y = .non ∧ Q (.bl (!decide (x = .non))) H) fIsNot := .flat fun H x dx y dy z Q hx hy hz q => by
  split at hz
  · rename_i h; cases hz
    have z := hy.isNon
    rw [h] at z
    rw [hx.isNon]
    exact ⟨of_decide_eq_true z, q _ (.bl _)⟩
  · cases hz

/-! tests -/
theorem sim_B {K : PySem.W.Frag} {te : TE} {m : ME} (h : SimE K te m) : SimT K (tB te) (mTst m) := sim_tst h
theorem xt_val (h : XE X e ma) (he : ∀ whole, isTrue e X.env whole = (do let v ← whole; standAt e.pos; holding [v] (truthy v)) := by intro _; rfl) : XT X e (mTst ma) := by
  obtain ⟨t, p, s⟩ := h
  exact ⟨_, pt_val p he, sim_B s⟩
def mAnd (a b : MT) : MT := fun ρ => match a ρ with
  | some true => b ρ
  | o => o
def mOr (a b : MT) : MT := fun ρ => match a ρ with
  | some false => b ρ
  | o => o
def mNot (a : MT) : MT := fun ρ => (a ρ).map (!·)
variable {t u : MT} {rest : List Expr} {c : Expr}
theorem xw_and1 (ha : XT X a t) : XW X (.BoolOp .And [a] pos) t := by
  obtain ⟨t, p, s⟩ := ha
  exact ⟨_, pw_and1 p, s⟩
theorem xw_or1 (ha : XT X a t) : XW X (.BoolOp .Or [a] pos) t := by
  obtain ⟨t, p, s⟩ := ha
  exact ⟨_, pw_or1 p, s⟩
theorem xw_and (ha : XT X a t) (hb : XW X (.BoolOp .And (b :: rest) pos) u) : XW X (.BoolOp .And (a :: b :: rest) pos) (mAnd t u) := by
  obtain ⟨ta, p, s⟩ := ha
  obtain ⟨tb, p', s'⟩ := hb
  refine ⟨_, pw_and p p', fun G H σ ρ fp k Q R hm q => ?_⟩
  unfold mAnd at hm
  split at hm
  · rename_i e1
    refine s G H σ ρ fp true _ R e1 fun H1 x1 => ?_
    rw [if_pos rfl]
    exact s' G H1 σ ρ fp k Q (R.grow x1) hm fun H2 x2 => q H2 (x1.trans x2)
  · rename_i hne
    refine s G H σ ρ fp k _ R hm fun H1 x1 => ?_
    cases k with
    | true => exact (hne hm).elim
    | false => rw [if_neg Bool.false_ne_true]; exact q H1 x1
theorem xw_or (ha : XT X a t) (hb : XW X (.BoolOp .Or (b :: rest) pos) u) : XW X (.BoolOp .Or (a :: b :: rest) pos) (mOr t u) := by
  obtain ⟨ta, p, s⟩ := ha
  obtain ⟨tb, p', s'⟩ := hb
  refine ⟨_, pw_or p p', fun G H σ ρ fp k Q R hm q => ?_⟩
  unfold mOr at hm
  split at hm
  · rename_i e1
    refine s G H σ ρ fp false _ R e1 fun H1 x1 => ?_
    rw [if_neg Bool.false_ne_true]
    exact s' G H1 σ ρ fp k Q (R.grow x1) hm fun H2 x2 => q H2 (x1.trans x2)
  · rename_i hne
    refine s G H σ ρ fp k _ R hm fun H1 x1 => ?_
    cases k with
    | false => exact (hne hm).elim
    | true => rw [if_pos rfl]; exact q H1 x1
theorem xw_pt (h : XW X e t) : XT X e t := by
  obtain ⟨t, p, s⟩ := h
  exact ⟨_, p.pt, s⟩
theorem xt_not (ha : XT X a t) : XT X (.UnaryOp .Not a pos) (mNot t) := by
  obtain ⟨ta, p, s⟩ := ha
  refine ⟨_, pt_not p, fun G H σ ρ fp k Q R hm q => ?_⟩
  unfold mNot at hm
  rw [Option.map_eq_some_iff] at hm
  obtain ⟨c, h1, rfl⟩ := hm
  exact s G H σ ρ fp c _ R h1 fun H1 x1 => q H1 x1
/-- as values -/
def mAndV (a b : ME) : ME := fun ρ => match mTst a ρ with
  | some true => b ρ
  | some false => some (.sh (.bl false))
  | none => none
def mOrV (a b : ME) : ME := fun ρ => match mTst a ρ with
  | some false => b ρ
  | some true => some (.sh (.bl true))
  | none => none
theorem mTst_inv {m : ME} {ρ : Env} {b : Bool} (h : mTst m ρ = some b) : ∃ r, m ρ = some r ∧ r.data = .bl b := by
  unfold mTst at h
  split at h
  · rename_i r e1
    split at h
    · rename_i c e2; cases h; exact ⟨r, e1, e2⟩
    · cases h
  · cases h
theorem x_one {op} (h : XE X a ma) : XE X (.BoolOp op [a] pos) ma := by
  obtain ⟨t, p, s⟩ := h
  exact ⟨_, pe_one p, s⟩
theorem x_and (ha : XE X a ma) (hb : XE X (.BoolOp .And (b :: rest) pos) mb) : XE X (.BoolOp .And (a :: b :: rest) pos) (mAndV ma mb) := by
  obtain ⟨ta, p, s⟩ := ha
  obtain ⟨tb, p', s'⟩ := hb
  refine ⟨_, pe_and p p', fun G H σ ρ fp k Q R hm q => ?_⟩
  unfold mAndV at hm
  split at hm
  · rename_i e1
    obtain ⟨r, e2, e3⟩ := mTst_inv e1
    refine s G H σ ρ fp r _ R e2 fun v F H1 x1 o1 => ?_
    have z := o1.data
    rw [e3] at z; cases z
    refine ⟨true, rfl, ?_⟩
    rw [if_pos rfl]
    exact s' G H1 σ ρ fp k Q (R.grow x1) hm fun v F H2 x2 o2 => q v F H2 (x1.trans x2) (o2.back x1)
  · rename_i e1
    obtain ⟨r, e2, e3⟩ := mTst_inv e1
    refine s G H σ ρ fp r _ R e2 fun v F H1 x1 o1 => ?_
    have z := o1.data
    rw [e3] at z; cases z
    refine ⟨false, rfl, ?_⟩
    rw [if_neg Bool.false_ne_true]
    cases hm
    exact q _ [] H1 x1 (Fl.bl _).rok
  · cases hm
theorem x_or (ha : XE X a ma) (hb : XE X (.BoolOp .Or (b :: rest) pos) mb) : XE X (.BoolOp .Or (a :: b :: rest) pos) (mOrV ma mb) := by
  obtain ⟨ta, p, s⟩ := ha
  obtain ⟨tb, p', s'⟩ := hb
  refine ⟨_, pe_or p p', fun G H σ ρ fp k Q R hm q => ?_⟩
  unfold mOrV at hm
  split at hm
  · rename_i e1
    obtain ⟨r, e2, e3⟩ := mTst_inv e1
    refine s G H σ ρ fp r _ R e2 fun v F H1 x1 o1 => ?_
    have z := o1.data
    rw [e3] at z; cases z
    refine ⟨false, rfl, ?_⟩
    rw [if_neg Bool.false_ne_true]
    exact s' G H1 σ ρ fp k Q (R.grow x1) hm fun v F H2 x2 o2 => q v F H2 (x1.trans x2) (o2.back x1)
  · rename_i e1
    obtain ⟨r, e2, e3⟩ := mTst_inv e1
    refine s G H σ ρ fp r _ R e2 fun v F H1 x1 o1 => ?_
    have z := o1.data
    rw [e3] at z; cases z
    refine ⟨true, rfl, ?_⟩
    rw [if_pos rfl]
    cases hm
    exact q _ [] H1 x1 (Fl.bl _).rok
  · cases hm
def mNotV (a : ME) : ME := fun ρ => (mTst a ρ).map fun b => .sh (.bl (!b))
theorem x_not (ha : XE X a ma) : XE X (.UnaryOp .Not a pos) (mNotV ma) := by
  obtain ⟨ta, p, s⟩ := ha
  refine ⟨_, pe_not p, fun G H σ ρ fp k Q R hm q => ?_⟩
  unfold mNotV at hm
  rw [Option.map_eq_some_iff] at hm
  obtain ⟨c, h1, rfl⟩ := hm
  obtain ⟨r, e2, e3⟩ := mTst_inv h1
  refine s G H σ ρ fp r _ R e2 fun v F H1 x1 o1 => ?_
  have z := o1.data
  rw [e3] at z; cases z
  exact ⟨c, rfl, q _ [] H1 x1 (Fl.bl _).rok⟩
def mIf (t : MT) (a b : ME) : ME := fun ρ => match t ρ with
  | some true => a ρ
  | some false => b ρ
  | none => none
theorem x_if (hc : XT X c t) (ha : XE X a ma) (hb : XE X b mb) : XE X (.IfExp c a b pos) (mIf t ma mb) := by
  obtain ⟨tc, p0, s0⟩ := hc
  obtain ⟨ta, p, s⟩ := ha
  obtain ⟨tb, p', s'⟩ := hb
  refine ⟨_, pe_ifExp p0 p p', fun G H σ ρ fp k Q R hm q => ?_⟩
  unfold mIf at hm
  split at hm
  · rename_i e1
    refine s0 G H σ ρ fp true _ R e1 fun H1 x1 => ?_
    rw [if_pos rfl]
    exact s G H1 σ ρ fp k Q (R.grow x1) hm fun v F H2 x2 o2 => q v F H2 (x1.trans x2) (o2.back x1)
  · rename_i e1
    refine s0 G H σ ρ fp false _ R e1 fun H1 x1 => ?_
    rw [if_neg Bool.false_ne_true]
    exact s' G H1 σ ρ fp k Q (R.grow x1) hm fun v F H2 x2 o2 => q v F H2 (x1.trans x2) (o2.back x1)
  · cases hm
/-- -a -/
def mNeg (a : ME) : ME := fun ρ => match a ρ with
  | some r => match r.data with
    | .int i => some (.sh (.int (-i)))
    | _ => none
  | none => none
theorem x_neg (ha : XE X a ma) : XE X (.UnaryOp .USub a pos) (mNeg ma) := by
  obtain ⟨ta, p, s⟩ := ha
  refine ⟨_, pe_un un_neg p, fun G H σ ρ fp k Q R hm q => ?_⟩
  unfold mNeg at hm
  split at hm
  · rename_i r e1
    split at hm
    · rename_i i e2; cases hm
      refine s G H σ ρ fp r _ R e1 fun v F H1 x1 o1 => ?_
      have z := o1.data
      rw [e2] at z; cases z
      exact ⟨i, rfl, q _ [] H1 x1 (Fl.int _).rok⟩
    · cases hm
  · cases hm
/-- a < b < c -/
def mChain (f g : R → R → Option R) (ma mb mc : ME) : ME := fun ρ => match ma ρ, mb ρ with
  | some x, some y => match f x y with
    | some z => match z.data with
      | .bl true => mOp g (fun _ => some y) mc ρ
      | .bl false => some (.sh (.bl false))
      | _ => none
    | none => none
  | _, _ => none

/-! subscripts -/
def fIx : R → R → Option R := fun x y => match x, y.data with
  | .sh (.lst ds), .int i => (atI ds i).map .sh
  | .sh (.tup ds), .int i => (atI ds i).map .sh
  | .vw (.lst ds), .int i => (atI ds i).map .vw
  | .vw (.tup ds), .int i => (atI ds i).map .vw
  | .tr s, .int i => match s.data with
    | .lst ds => (atI ds i).map .vw
    | .tup ds => (atI ds i).map .vw
    | _ => none
  | .sh (.scr ns), .int i => (atI ns i).map fun n => .sh (.int n)
  | .sh (.str z), .int i => if z.length ≤ 100000 then (atI z.cps.toList i).map fun c => .sh (.str ⟨#[c]⟩) else none
  | .vw (.str z), .int i => if z.length ≤ 100000 then (atI z.cps.toList i).map fun c => .sh (.str ⟨#[c]⟩) else none
  | _, _ => none
theorem atI_dt {K : PySem.W.Frag} {H : Hp} {vs : List V} {ds : List D} {i : Int} {d : D} (h : DtL K H vs ds) (e : atI ds i = some d) : ∃ v, atI vs i = some v ∧ Dt K H v d := by
  unfold atI at e ⊢
  rw [h.len]
  cases q : ixN ds.length i with
  | none => rw [q] at e; simp at e
  | some j => rw [q] at e; simpa using h.get (i := j) (by simpa using e)
theorem atI_int {ns : List Int} {i n : Int} (e : atI ns i = some n) : atI (ns.map V.int) i = some (V.int n) := by
  unfold atI at e ⊢
  rw [List.length_map]
  cases q : ixN ns.length i with
  | none => rw [q] at e; simp at e
  | some j => rw [q] at e; simp at e; simp [e]
theorem op2_ix {K : PySem.W.Frag} : Op2 K (rIx K) fIx := by
  intro H H1 fp x Fx rx y Fy ry z Q ox oy _ _ ex hz q
  have hy := oy.data
  unfold fIx at hz
  split at hz
  · rename_i ds i e2; rw [e2] at hy; cases hy
    rw [Option.map_eq_some_iff] at hz; obtain ⟨d, h1, rfl⟩ := hz
    obtain ⟨_, hx⟩ := ox
    cases hx with
    | lst h t =>
      obtain ⟨v, h2, h3⟩ := atI_dt t h1
      exact .inl ⟨_, _, _, v, rfl, rfl, SqL.of (hid_ex _ _ h), h2, q v [] H1 (Evl.Ex.refl H1) ⟨rfl, h3⟩⟩
  · rename_i ds i e2; rw [e2] at hy; cases hy
    rw [Option.map_eq_some_iff] at hz; obtain ⟨d, h1, rfl⟩ := hz
    obtain ⟨_, hx⟩ := ox
    cases hx with
    | tup h t =>
      obtain ⟨v, h2, h3⟩ := atI_dt t h1
      exact .inr (.inl ⟨_, _, _, v, rfl, rfl, Evl.ex_t hid_ex (.inl (.inl h)), h2, q v [] H1 (Evl.Ex.refl H1) ⟨rfl, h3⟩⟩)
  · rename_i ds i e2; rw [e2] at hy; cases hy
    rw [Option.map_eq_some_iff] at hz; obtain ⟨d, h1, rfl⟩ := hz
    obtain ⟨_, hx⟩ := ox
    cases hx with
    | lst h t =>
      obtain ⟨v, h2, h3⟩ := atI_dt t h1
      exact .inl ⟨_, _, _, v, rfl, rfl, SqL.of h, h2, q v [] H1 (Evl.Ex.refl H1) ⟨rfl, h3⟩⟩
  · rename_i ds i e2; rw [e2] at hy; cases hy
    rw [Option.map_eq_some_iff] at hz; obtain ⟨d, h1, rfl⟩ := hz
    obtain ⟨_, hx⟩ := ox
    cases hx with
    | tup h t =>
      obtain ⟨v, h2, h3⟩ := atI_dt t h1
      exact .inr (.inl ⟨_, _, _, v, rfl, rfl, .inl (.inl h), h2, q v [] H1 (Evl.Ex.refl H1) ⟨rfl, h3⟩⟩)
  · rename_i s i e2; rw [e2] at hy; cases hy
    have hx : Dt K H1 x s.data := ROk.data (r := .tr s) ox
    split at hz
    · rename_i ds e3; rw [e3] at hx
      rw [Option.map_eq_some_iff] at hz; obtain ⟨d, h1, rfl⟩ := hz
      cases hx with
      | lst h t =>
        obtain ⟨v, h2, h3⟩ := atI_dt t h1
        exact .inl ⟨_, _, _, v, rfl, rfl, SqL.of h, h2, q v [] H1 (Evl.Ex.refl H1) ⟨rfl, h3⟩⟩
    · rename_i ds e3; rw [e3] at hx
      rw [Option.map_eq_some_iff] at hz; obtain ⟨d, h1, rfl⟩ := hz
      cases hx with
      | tup h t =>
        obtain ⟨v, h2, h3⟩ := atI_dt t h1
        exact .inr (.inl ⟨_, _, _, v, rfl, rfl, .inl (.inl h), h2, q v [] H1 (Evl.Ex.refl H1) ⟨rfl, h3⟩⟩)
    · cases hz
  · rename_i ns i e2; rw [e2] at hy; cases hy
    rw [Option.map_eq_some_iff] at hz; obtain ⟨n, h1, rfl⟩ := hz
    obtain ⟨_, hx⟩ := ox
    cases hx with
    | scr h _ => exact .inl ⟨_, _, _, _, rfl, rfl, Evl.ex_l hid_ex h, atI_int h1, q _ [] H1 (Evl.Ex.refl H1) (Fl.int _).rok⟩
  · rename_i w i e2; rw [e2] at hy; cases hy
    obtain ⟨_, hx⟩ := ox
    cases hx
    split at hz
    · rename_i hl
      rw [Option.map_eq_some_iff] at hz; obtain ⟨c, h1, rfl⟩ := hz
      exact .inr (.inr ⟨w, i, c, rfl, rfl, Evl.sz_of hl, h1, q _ [] H1 (Evl.Ex.refl H1) (Fl.str _).rok⟩)
    · cases hz
  · rename_i w i e2; rw [e2] at hy; cases hy
    obtain ⟨_, hx⟩ := ox
    cases hx
    split at hz
    · rename_i hl
      rw [Option.map_eq_some_iff] at hz; obtain ⟨c, h1, rfl⟩ := hz
      exact .inr (.inr ⟨w, i, c, rfl, rfl, Evl.sz_of hl, h1, q _ [] H1 (Evl.Ex.refl H1) (Fl.str _).rok⟩)
    · cases hz
  · cases hz
theorem xix (ha : XE X a ma) (hb : XE X b mb) (hs : PlainIx b := by exact fun _ _ => rfl) : XE X (.Subscript a b pos) (mOp fIx ma mb) := by
  obtain ⟨ta, p, s⟩ := ha
  obtain ⟨tb, p', s'⟩ := hb
  exact ⟨_, pe_ix ix_seq p p' hs, sim_op op2_ix s s'⟩
end
end DL

set_option Elab.async false
set_option linter.all false
set_option maxRecDepth 100000
set_option maxHeartbeats 4000000
/-! Displays, calls, comprehensions. -/
namespace DL
open PySem PySem.Spec PyProof.Rows L2
open Evl (Ex)

theorem ls_mono {H H' : Hp} {fp : Nat → List Addr} (ls : ∀ i a, a ∈ fp i → ∃ xs, H a = some (mo xs)) (e : Ex H H') : ∀ i a, a ∈ fp i → ∃ xs, H' a = some (mo xs) := fun i a m => let ⟨xs, h⟩ := ls i a m; ⟨xs, e _ _ h⟩
/-- an address that holds no list yet is in no footprint -/
theorem not_fp {H : Hp} {fp : Nat → List Addr} (ls : ∀ i a, a ∈ fp i → ∃ xs, H a = some (mo xs)) {p : Addr} (hp : H p = none) : ∀ i, p ∉ fp i := fun i m => by
  obtain ⟨xs, e⟩ := ls i p m; rw [hp] at e; cases e
theorem imm_hid {K : PySem.W.Frag} {H : Hp} {fp : Nat → List Addr} (ls : ∀ i a, a ∈ fp i → ∃ xs, H a = some (mo xs)) {v : V} {d : D} (h : Dt K H v d) (i : imm d = true) : Dt K (hid H fp) v d := (h.stb i).mono (stb_hid ls)
theorem stb_stb {H : Hp} : stb (stb H) = stb H := by
  funext a
  simp only [stb]
  cases H a with
  | none => rfl
  | some o => cases o <;> rfl
/-- what is fresh is hidden nowhere -/
theorem Rep.hid {K : PySem.W.Frag} {H H1 : Hp} {fp : Nat → List Addr} (ls : ∀ i a, a ∈ fp i → ∃ xs, H a = some (mo xs)) (ls1 : ∀ i a, a ∈ fp i → ∃ xs, H1 a = some (mo xs)) : ∀ {s : S} {v : V} {F : List Addr}, Rep K H1 s v F → (∀ a ∈ F, H a = none) → Dt K (hid H1 fp) v s.data := by
  intro s v F h f
  have := (h.keep (H' := DL.hid H1 fp) ⟨?_, fun a m o e => by rw [hid_at (not_fp ls (f a m))]; exact e⟩).data
  · exact this
  · have h1 := stb_mono (stb_hid ls1)
    rw [stb_stb] at h1
    exact h1
section
variable {X : Cx} {e a b c : Expr} {es : List Expr} {ma mb mc : ME} {ms : MA} {pos : Pos}

/-! displays -/
def mLst (ms : MA) : ME := fun ρ => match ms ρ with
  | some rs => if rs.length ≤ 100000 then (match trees rs with
    | some ss => some (.tr (.own ss))
    | none => some (.vw (.lst (rs.map DL.R.data)))) else none
  | none => none
theorem x_lst (h : XA X es ms) : XE X (.List es pos) (mLst ms) := by
  obtain ⟨t, p, s⟩ := h
  refine ⟨_, pe_lst p, fun G H σ ρ fp r Q R hm q => ?_⟩
  unfold mLst at hm
  split at hm
  · rename_i rs e1
    split at hm
    · rename_i hl
      refine s G H σ ρ fp rs _ R e1 fun vs F H1 x1 o1 => ⟨?_, fun p hp => ?_⟩
      · rw [← o1.len]; exact Evl.sz_of hl
      · have x2 : Ex H1 (upd H1 p (.lst vs)) := Evl.Ex.new hp
        split at hm
        · rename_i ss e2; cases hm
          refine q _ (p :: F) _ (x1.trans x2) ⟨.own upd_same ((o1.trees e2).mono x2) fun m => ?_, fun a m => ?_⟩
          · obtain ⟨xs, z⟩ := o1.ls p m; rw [hp] at z; cases z
          · rcases List.mem_cons.mp m with e | m
            · subst e; exact Evl.fresh_back x1 hp
            · exact o1.fresh a m
        · cases hm
          exact q _ [] _ (x1.trans x2) ⟨rfl, .lst upd_same ((o1.mono x2).data)⟩
    · cases hm
  · cases hm
def mTup (ms : MA) : ME := fun ρ => match ms ρ with
  | some rs => if rs.length ≤ 100000 then (if immL (rs.map DL.R.data) = true then some (.sh (.tup (rs.map DL.R.data))) else (match trees rs with
    | some ss => some (.tr (.tp ss))
    | none => some (.vw (.tup (rs.map DL.R.data))))) else none
  | none => none
theorem x_tup {x1} (h : XA X es ms) : XE X (.Tuple es x1 pos) (mTup ms) := by
  obtain ⟨t, p, s⟩ := h
  refine ⟨_, pe_tup p, fun G H σ ρ fp r Q R hm q => ?_⟩
  unfold mTup at hm
  split at hm
  · rename_i rs e1
    split at hm
    · rename_i hl
      refine s G H σ ρ fp rs _ R e1 fun vs F H1 x1 o1 => ⟨?_, fun p hp => ?_⟩
      · rw [← o1.len]; exact Evl.sz_of hl
      · have x2 : Ex H1 (upd H1 p (.tup vs)) := Evl.Ex.new hp
        have d2 : Dt X.K (upd H1 p (.tup vs)) (.ref p) (.tup (rs.map DL.R.data)) := .tup upd_same ((o1.mono x2).data)
        split at hm
        · rename_i im; cases hm
          exact q _ [] _ (x1.trans x2) ⟨rfl, imm_hid (ls_mono R.ls (x1.trans x2)) d2 (by simpa [imm] using im)⟩
        · split at hm
          · rename_i ss e2; cases hm
            exact q _ F _ (x1.trans x2) ⟨.tp upd_same ((o1.trees e2).mono x2), fun a m => o1.fresh a m⟩
          · cases hm
            exact q _ [] _ (x1.trans x2) ⟨rfl, d2⟩
    · cases hm
  · cases hm

/-! built-ins by values -/
def CallOk (K : PySem.W.Frag) (r : List V → Hp → VK → Prop) (f : List D → Option R) : Prop := ∀ H H1 fp vs ds z (Q : VK), DtL K H1 vs ds → (∀ i a, a ∈ fp i → ∃ xs, H1 a = some (mo xs)) → Ex H H1 → f ds = some z →
  (∀ v F H', Ex H1 H' → ROk K H H' fp v F z → Q v H') → r vs H1 Q
def mCB (f : List D → Option R) (ms : MA) : ME := fun ρ => match ms ρ with
  | some rs => f (rs.map DL.R.data)
  | none => none
theorem sim_CB {K : PySem.W.Frag} {r : List V → Hp → VK → Prop} {f : List D → Option R} {t : TA} (hr : CallOk K r f) (hs : SimA K t ms) : SimE K (tCB r t) (mCB f ms) := by
  intro G H σ ρ fp z Q R hm q
  unfold mCB at hm
  split at hm
  · rename_i rs e1
    refine hs G H σ ρ fp rs _ R e1 fun vs F H1 x1 o1 => ?_
    exact hr H H1 fp vs _ z Q o1.data (ls_mono R.ls x1) x1 hm fun v F H' x2 o2 => q v F H' (x1.trans x2) o2
  · cases hm
theorem xcallB {id : String} {r : List V → Hp → VK → Prop} {f : List D → Option R} {x : Str} {p : Pos} (hc : CallR X (.builtin id) r) (hr : CallOk X.K r f) (hg : Gl X x) (hm : X.mg x = none) (hv : bootBuiltins x = some (.builtin id)) (ha : XA X (e :: es) ms) (hn : x ≠ "__name__" := by decide) (hdb : (x == ("__debug__" : Str)) = false := by decide)
    (he : starEach (e :: es) X.env = (false, eval e X.env) :: starEach es X.env := by rfl) (hpl : (backTo pos (starEach es X.env)).any (·.1) = false := by rfl) : XE X (.Call (.Name x p) (e :: es) [] pos) (mCB f ms) := by
  obtain ⟨t, p, s⟩ := ha
  exact ⟨_, pe_callB hc hg hm hv p hn hdb he hpl, sim_CB hr s⟩
theorem xcallTy {T : String} {r : List V → Hp → VK → Prop} {f : List D → Option R} {x : Str} {p : Pos} (hc : CallR X (.type T) r) (hr : CallOk X.K r f) (hg : Gl X x) (hm : X.mg x = none) (hv : bootBuiltins x = some (.type T)) (ha : XA X (e :: es) ms) (hn : x ≠ "__name__" := by decide) (hdb : (x == ("__debug__" : Str)) = false := by decide)
    (he : starEach (e :: es) X.env = (false, eval e X.env) :: starEach es X.env := by rfl) (hpl : (backTo pos (starEach es X.env)).any (·.1) = false := by rfl) : XE X (.Call (.Name x p) (e :: es) [] pos) (mCB f ms) := by
  obtain ⟨t, p, s⟩ := ha
  exact ⟨_, pe_callTy hc hg hm hv p hn hdb he hpl, sim_CB hr s⟩
def gLen : List D → Option R
  | [.lst xs] => some (.sh (.int xs.length))
  | [.tup xs] => some (.sh (.int xs.length))
  | [.ktp xs] => some (.sh (.int xs.length))
  | [.scr xs] => some (.sh (.int xs.length))
  | [.str z] => if z.length ≤ 100000 then some (.sh (.int z.length)) else none
  | _ => none
theorem ok_len {K : PySem.W.Frag} : CallOk K (fun xs H Q => ∃ x n, xs = [x] ∧ LenV K x H n ∧ Q (.int n) H) gLen := by
  intro H H1 fp vs ds z Q h ls ex hz q
  unfold gLen at hz
  split at hz
  · rename_i xs; cases hz
    cases h with
    | cons h1 t =>
      cases t
      cases h1 with
      | lst h2 t2 => exact ⟨_, xs.length, rfl, .inl ⟨_, SqL.of h2, t2.len.symm⟩, q _ [] H1 (Evl.Ex.refl H1) (Fl.int _).rok⟩
  · rename_i xs; cases hz
    cases h with
    | cons h1 t =>
      cases t
      cases h1 with
      | tup h2 t2 => exact ⟨_, xs.length, rfl, .inr ⟨_, .inl (.inl h2), t2.len.symm⟩, q _ [] H1 (Evl.Ex.refl H1) (Fl.int _).rok⟩
  · rename_i xs; cases hz
    cases h with
    | cons h1 t =>
      cases t
      cases h1 with
      | ktp h2 => exact ⟨_, xs.length, rfl, .inr ⟨_, h2, (List.length_map _).symm⟩, q _ [] H1 (Evl.Ex.refl H1) (Fl.int _).rok⟩
  · rename_i xs; cases hz
    cases h with
    | cons h1 t =>
      cases t
      cases h1 with
      | scr h2 _ => exact ⟨_, xs.length, rfl, .inl ⟨_, h2, (List.length_map _).symm⟩, q _ [] H1 (Evl.Ex.refl H1) (Fl.int _).rok⟩
  · rename_i w
    split at hz
    · rename_i hl; cases hz
      cases h with
      | cons h1 t =>
        cases t
        cases h1
        exact ⟨_, w.length, rfl, ⟨Evl.sz_of hl, rfl⟩, q _ [] H1 (Evl.Ex.refl H1) (Fl.int _).rok⟩
    · cases hz
  · cases hz
def gMin : List D → Option R
  | [.int i, .int j] => some (.sh (.int (if j < i then j else i)))
  | _ => none
def gMax : List D → Option R
  | [.int i, .int j] => some (.sh (.int (if j > i then j else i)))
  | _ => none
theorem dt_int {K : PySem.W.Frag} {H : Hp} {v : V} {i : Int} (h : Dt K H v (.int i)) : v = .int i := by cases h; rfl
theorem ok_min {K : PySem.W.Frag} : CallOk K (fun xs H Q => ∃ i j, xs = [.int i, .int j] ∧ Q (.int (if j < i then j else i)) H) gMin := by
  intro H H1 fp vs ds z Q h ls ex hz q
  unfold gMin at hz
  split at hz
  · rename_i i j; cases hz
    cases h with
    | cons h1 t =>
      cases t with
      | cons h2 t =>
        cases t
        cases dt_int h1; cases dt_int h2
        exact ⟨i, j, rfl, q _ [] H1 (Evl.Ex.refl H1) (Fl.int _).rok⟩
  · cases hz
theorem ok_max {K : PySem.W.Frag} : CallOk K (fun xs H Q => ∃ i j, xs = [.int i, .int j] ∧ Q (.int (if j > i then j else i)) H) gMax := by
  intro H H1 fp vs ds z Q h ls ex hz q
  unfold gMax at hz
  split at hz
  · rename_i i j; cases hz
    cases h with
    | cons h1 t =>
      cases t with
      | cons h2 t =>
        cases t
        cases dt_int h1; cases dt_int h2
        exact ⟨i, j, rfl, q _ [] H1 (Evl.Ex.refl H1) (Fl.int _).rok⟩
  · cases hz
def gList : List D → Option R
  | [.lst xs] => some (newL xs)
  | [.tup xs] => some (newL xs)
  | [.scr xs] => some (newL (xs.map .int))
  | _ => none
theorem ok_list {K : PySem.W.Frag} : CallOk K (fun xs H Q => ∃ p ys, xs = [.ref p] ∧ (SqL K H p ys ∨ SqT K H p ys) ∧ ∀ l, H l = none → Q (.ref l) (upd H l (.lst ys))) gList := by
  intro H H1 fp vs ds z Q h ls ex hz q
  unfold gList at hz
  split at hz
  · rename_i xs; cases hz
    cases h with
    | cons h1 t =>
      cases t
      cases h1 with
      | lst h2 t2 =>
        refine ⟨_, _, rfl, .inl (SqL.of h2), fun l hl => ?_⟩
        obtain ⟨F, o⟩ := newL_ok (fp := fp) hl ex t2
        exact q _ F _ (Evl.Ex.new hl) o
  · rename_i xs; cases hz
    cases h with
    | cons h1 t =>
      cases t
      cases h1 with
      | tup h2 t2 =>
        refine ⟨_, _, rfl, .inr (.inl (.inl h2)), fun l hl => ?_⟩
        obtain ⟨F, o⟩ := newL_ok (fp := fp) hl ex t2
        exact q _ F _ (Evl.Ex.new hl) o
  · rename_i xs; cases hz
    cases h with
    | cons h1 t =>
      cases t
      cases h1 with
      | scr h2 t2 =>
        refine ⟨_, _, rfl, .inl h2, fun l hl => ?_⟩
        obtain ⟨F, o⟩ := newL_ok (fp := fp) hl ex (DtL.ints xs)
        exact q _ F _ (Evl.Ex.new hl) o
  · cases hz
def ints? : List D → Option (List Int)
  | [] => some []
  | .int i :: r => (ints? r).map (i :: ·)
  | _ => none
theorem ints?_some : ∀ {ds : List D} {ns : List Int}, ints? ds = some ns → ds = ns.map D.int
  | [], _, h => by cases h; rfl
  | .int i :: r, ns, h => by
    unfold ints? at h
    rw [Option.map_eq_some_iff] at h
    obtain ⟨m, h1, rfl⟩ := h
    rw [ints?_some h1]; rfl
  | .non :: _, _, h => by simp [ints?] at h
  | .bl _ :: _, _, h => by simp [ints?] at h
  | .str _ :: _, _, h => by simp [ints?] at h
  | .lst _ :: _, _, h => by simp [ints?] at h
  | .tup _ :: _, _, h => by simp [ints?] at h
  | .scr _ :: _, _, h => by simp [ints?] at h
@[simp] theorem ints?_map (ns : List Int) : ints? (ns.map D.int) = some ns := by
  induction ns with
  | nil => rfl
  | cons n r ih => simp [ints?, ih]
def bls? : List D → Option (List Bool)
  | [] => some []
  | .bl i :: r => (bls? r).map (i :: ·)
  | _ => none
theorem bls?_some : ∀ {ds : List D} {ns : List Bool}, bls? ds = some ns → ds = ns.map D.bl
  | [], _, h => by cases h; rfl
  | .bl i :: r, ns, h => by
    unfold bls? at h
    rw [Option.map_eq_some_iff] at h
    obtain ⟨m, h1, rfl⟩ := h
    rw [bls?_some h1]; rfl
  | .non :: _, _, h => by simp [bls?] at h
  | .int _ :: _, _, h => by simp [bls?] at h
  | .str _ :: _, _, h => by simp [bls?] at h
  | .lst _ :: _, _, h => by simp [bls?] at h
  | .tup _ :: _, _, h => by simp [bls?] at h
  | .scr _ :: _, _, h => by simp [bls?] at h
@[simp] theorem bls?_map (ns : List Bool) : bls? (ns.map D.bl) = some ns := by
  induction ns with
  | nil => rfl
  | cons n r ih => simp [bls?, ih]
def gSum : List D → Option R
  | [.lst xs] => (ints? xs).map fun ns => .sh (.int ns.sum)
  | _ => none
theorem ok_sum {K : PySem.W.Frag} : CallOk K (rSum K) gSum := by
  intro H H1 fp vs ds z Q h ls ex hz q
  unfold gSum at hz
  split at hz
  · rename_i xs
    rw [Option.map_eq_some_iff] at hz
    obtain ⟨ns, h1, rfl⟩ := hz
    have := ints?_some h1; subst this
    cases h with
    | cons h1 t =>
      cases t
      cases h1 with
      | lst h2 t2 =>
        have := t2.ints_inv; subst this
        exact ⟨_, ns, rfl, SqL.of h2, q _ [] H1 (Evl.Ex.refl H1) (Fl.int _).rok⟩
  · cases hz
def gAll : List D → Option R
  | [.lst xs] => (bls? xs).map fun ns => .sh (.bl (ns.all id))
  | _ => none
def gAny : List D → Option R
  | [.lst xs] => (bls? xs).map fun ns => .sh (.bl (ns.any id))
  | _ => none
theorem ok_all {K : PySem.W.Frag} : CallOk K (rAll K) gAll := by
  intro H H1 fp vs ds z Q h ls ex hz q
  unfold gAll at hz
  split at hz
  · rename_i xs
    rw [Option.map_eq_some_iff] at hz
    obtain ⟨ns, h1, rfl⟩ := hz
    have := bls?_some h1; subst this
    cases h with
    | cons h1 t =>
      cases t
      cases h1 with
      | lst h2 t2 =>
        have := t2.bls_inv; subst this
        exact ⟨_, ns, rfl, SqL.of h2, q _ [] H1 (Evl.Ex.refl H1) (Fl.bl _).rok⟩
  · cases hz
theorem ok_any {K : PySem.W.Frag} : CallOk K (rAny K) gAny := by
  intro H H1 fp vs ds z Q h ls ex hz q
  unfold gAny at hz
  split at hz
  · rename_i xs
    rw [Option.map_eq_some_iff] at hz
    obtain ⟨ns, h1, rfl⟩ := hz
    have := bls?_some h1; subst this
    cases h with
    | cons h1 t =>
      cases t
      cases h1 with
      | lst h2 t2 =>
        have := t2.bls_inv; subst this
        exact ⟨_, ns, rfl, SqL.of h2, q _ [] H1 (Evl.Ex.refl H1) (Fl.bl _).rok⟩
  · cases hz
def gInt : List D → Option R
  | [.int i] => some (.sh (.int i))
  | [.bl b] => some (.sh (.int (if b then 1 else 0)))
  | _ => none
theorem ok_int {K : PySem.W.Frag} : CallOk K (fun xs H Q => (∃ i, xs = [.int i] ∧ Q (.int i) H) ∨ ∃ k, xs = [.bl k] ∧ Q (.int (if k then 1 else 0)) H) gInt := by
  intro H H1 fp vs ds z Q h ls ex hz q
  unfold gInt at hz
  split at hz
  · rename_i i; cases hz
    cases h with
    | cons h1 t => cases t; cases h1; exact .inl ⟨_, rfl, q _ [] H1 (Evl.Ex.refl H1) (Fl.int _).rok⟩
  · rename_i i; cases hz
    cases h with
    | cons h1 t => cases t; cases h1; exact .inr ⟨_, rfl, q _ [] H1 (Evl.Ex.refl H1) (Fl.int _).rok⟩
  · cases hz

/-! isinstance of built-in types -/
def D.ty : D → String
  | .non => "NoneType"
  | .bl _ => "bool"
  | .int _ => "int"
  | .str _ => "str"
  | .lst _ => "list"
  | .tup _ => "tuple"
  | .ktp _ => "tuple"
  | .scr _ => "list"
theorem Dt.tyX {K : PySem.W.Frag} {H : Hp} {v : V} {d : D} (h : Dt K H v d) : TyX K H v (.type d.ty) := by
  cases h with
  | non => exact .base .non
  | bl b => exact .base (.bl b)
  | int i => exact .base (.int i)
  | str x => exact .base (.str x)
  | lst h t => exact .base (.lst h)
  | tup h t => exact .base (.tup h)
  | ktp h =>
    rcases h with (h | ⟨o, h⟩) | ⟨o, its, n, h, hc, _⟩
    · exact .base (.tup h)
    · exact .fTuple h
    · exact .kTuple h hc
  | scr h _ =>
    rcases h with (h | ⟨o, h⟩) | ⟨o, its, n, h, hc, _⟩
    · exact .base (.lst h)
    · exact .base (.frz h)
    · exact .kList h hc
/-- is T among the classes of what is of the type t -/
def isTy (t T : String) : Bool := t == T || (t == "bool" && T == "int")
theorem kit_isTy {K : PySem.W.Frag} {d : D} {T : String} (hT : T ∈ ["int", "bool", "str", "list", "tuple"]) : PySem.W.kitOne K (.type d.ty) (.type T) = some (isTy d.ty T) := by
  simp only [List.mem_cons, List.not_mem_nil, or_false] at hT
  rcases hT with rfl | rfl | rfl | rfl | rfl <;> cases d <;> simp only [D.ty] <;> exact kit_ty (by decide +kernel)
def mIsi (T : String) (ma : ME) : ME := fun ρ => (ma ρ).map fun r => .sh (.bl (isTy r.data.ty T))
theorem x_isi {T : String} {Tx : Str} {p p2 pos : Pos} (hT : T ∈ ["int", "bool", "str", "list", "tuple"]) (hg : Gl X "isinstance") (hm : X.mg "isinstance" = none) (hg2 : Gl X Tx) (hm2 : X.mg Tx = none) (hv2 : bootBuiltins Tx = some (.type T)) (ha : XE X a ma)
    (hn2 : Tx ≠ "__name__" := by decide) (hdb2 : (Tx == ("__debug__" : Str)) = false := by decide)
    (he : starEach [a, .Name Tx p2] X.env = (false, eval a X.env) :: starEach [.Name Tx p2] X.env := by rfl) (he2 : starEach [.Name Tx p2] X.env = (false, eval (.Name Tx p2) X.env) :: starEach [] X.env := by rfl)
    (hpl : (backTo pos (starEach [.Name Tx p2] X.env)).any (·.1) = false := by rfl) : XE X (.Call (.Name "isinstance" p) [a, .Name Tx p2] [] pos) (mIsi T ma) := by
  obtain ⟨t, pa, s⟩ := ha
  refine ⟨_, pe_callB call_isi hg hm PyProof.Rows.boot_isinstance (pa_cons pa (pa_cons (pe_bltn (v := .ty T) hg2 hm2 hv2 rfl hn2 hdb2) pa_nil he2) he) (by decide) (by decide) he hpl, fun G H σ ρ fp r Q R hm q => ?_⟩
  unfold mIsi at hm
  rw [Option.map_eq_some_iff] at hm
  obtain ⟨c, h1, rfl⟩ := hm
  refine s G H σ ρ fp c _ R h1 fun v F H1 x1 o1 => ?_
  exact ⟨v, .ty T, _, _, _, rfl, .ty T, o1.data.tyX, kit_isTy hT, q _ [] H1 x1 (Fl.bl _).rok⟩

/-! slices -/
abbrev MO := Env → Option (Option Int)
def SimO (K : PySem.W.Frag) (t : TO) (m : MO) : Prop := ∀ G H σ ρ fp o (Q : Option Int → Hp → Prop), RelF K G H σ ρ fp → m ρ = some o → (∀ H', Ex H H' → Q o H') → t σ H Q
structure XO (X : Cx) (e : Option Expr) (m : MO) : Prop where
  sim : ∃ t, PO X e t ∧ SimO X.K t m
def mNoPart : MO := fun _ => some none
def mPart (m : ME) : MO := fun ρ => match m ρ with
  | some r => match r.data with
    | .int i => some (some i)
    | _ => none
  | none => none
theorem xo_none : XO X none mNoPart := ⟨_, po_none, fun G H σ ρ fp o Q R hm q => by cases hm; exact q H (Evl.Ex.refl H)⟩
theorem xo_some (h : XE X e ma) : XO X (some e) (mPart ma) := by
  obtain ⟨t, p, s⟩ := h
  refine ⟨_, po_some p, fun G H σ ρ fp o Q R hm q => ?_⟩
  unfold mPart at hm
  split at hm
  · rename_i r e1
    split at hm
    · rename_i i e2; cases hm
      refine s G H σ ρ fp r _ R e1 fun v F H1 x1 o1 => ?_
      have z := o1.data
      rw [e2] at z; cases z
      exact ⟨i, rfl, q H1 x1⟩
    · cases hm
  · cases hm
def cut {α : Type} (xs : List α) (lo hi : Option Int) : List α := (xs.drop (HT.sIx xs.length 0 lo)).take (HT.sIx xs.length xs.length hi - HT.sIx xs.length 0 lo)
theorem cut_dt {K : PySem.W.Frag} {H : Hp} {vs : List V} {ds : List D} {lo hi : Option Int} (h : DtL K H vs ds) : DtL K H (cutV vs lo hi) (cut ds lo hi) := by
  unfold cutV cut
  rw [h.len]
  exact (h.drop _).take _
def fSl : D → Option Int → Option Int → Option R
  | .lst ds, lo, hi => some (newL (cut ds lo hi))
  | .scr ns, lo, hi => some (newL ((cut ns lo hi).map .int))
  | .tup ds, lo, hi => if HT.sIx ds.length 0 lo = 0 ∧ HT.sIx ds.length ds.length hi = ds.length then none else (if immL (cut ds lo hi) = true then some (.sh (.tup (cut ds lo hi))) else none)
  | .str z, lo, hi => if z.length ≤ 100000 then some (.sh (.str (cutS z lo hi))) else none
  | _, _, _ => none
def mSl (m : ME) (l h : MO) : ME := fun ρ => match m ρ, l ρ, h ρ with
  | some r, some lo, some hi => fSl r.data lo hi
  | _, _, _ => none
theorem fSl_ok {K : PySem.W.Frag} {H H1 : Hp} {fp : Nat → List Addr} {v : V} {d : D} {lo hi : Option Int} {z : R} {Q : VK} (hd : Dt K H1 v d) (ls : ∀ i a, a ∈ fp i → ∃ xs, H1 a = some (mo xs)) (ex : Ex H H1) (hz : fSl d lo hi = some z)
    (q : ∀ v F H', Ex H1 H' → ROk K H H' fp v F z → Q v H') : rSlL K v lo hi H1 Q ∨ rSlT K v lo hi H1 Q ∨ rSlS v lo hi H1 Q := by
  cases hd with
  | non => cases hz
  | bl => cases hz
  | int => cases hz
  | lst h t =>
    rename_i a xs ds
    have hz : some (newL (cut ds lo hi)) = some z := hz
    cases hz
    refine .inl ⟨_, _, rfl, SqL.of h, fun l hl => ?_⟩
    obtain ⟨F', o⟩ := newL_ok (fp := fp) hl ex (cut_dt (lo := lo) (hi := hi) t)
    exact q _ F' _ (Evl.Ex.new hl) o
  | scr h t =>
    rename_i a ns
    have hz : some (newL ((cut ns lo hi).map .int)) = some z := hz
    cases hz
    refine .inl ⟨_, _, rfl, h, fun l hl => ?_⟩
    have e5 : cutV (ns.map V.int) lo hi = (cut ns lo hi).map V.int := by
      unfold cutV cut; rw [List.length_map, List.map_take, List.map_drop]
    rw [e5]
    obtain ⟨F', o⟩ := newL_ok (fp := fp) hl ex (DtL.ints (cut ns lo hi))
    exact q _ F' _ (Evl.Ex.new hl) o
  | ktp h => cases hz
  | tup h t =>
    rename_i a xs ds
    have hz : (if HT.sIx ds.length 0 lo = 0 ∧ HT.sIx ds.length ds.length hi = ds.length then none else (if immL (cut ds lo hi) = true then some (R.sh (.tup (cut ds lo hi))) else none)) = some z := hz
    by_cases hw : HT.sIx ds.length 0 lo = 0 ∧ HT.sIx ds.length ds.length hi = ds.length
    · rw [if_pos hw] at hz; cases hz
    · rw [if_neg hw] at hz
      by_cases im : immL (cut ds lo hi) = true
      · rw [if_pos im] at hz; cases hz
        refine .inr (.inl ⟨_, _, rfl, .inl (.inl h), ?_, fun l hl => ?_⟩)
        · rw [t.len]; exact hw
        · have d2 : Dt K (upd H1 l (.tup (cutV xs lo hi))) (.ref l) (.tup (cut ds lo hi)) := .tup upd_same ((cut_dt t).mono (Evl.Ex.new hl))
          exact q _ [] _ (Evl.Ex.new hl) ⟨rfl, imm_hid (ls_mono ls (Evl.Ex.new hl)) d2 (by simpa [imm] using im)⟩
      · rw [if_neg im] at hz; cases hz
  | str x =>
    have hz : (if x.length ≤ 100000 then some (R.sh (.str (cutS x lo hi))) else none) = some z := hz
    by_cases hl : x.length ≤ 100000
    · rw [if_pos hl] at hz; cases hz
      exact .inr (.inr ⟨_, rfl, Evl.sz_of hl, q _ [] _ (Evl.Ex.refl H1) (Fl.str _).rok⟩)
    · rw [if_neg hl] at hz; cases hz
variable {ml mh : MO} {loE hiE : Option Expr} {p2 : Pos}
theorem x_sl (he : XE X e ma) (hl : XO X loE ml) (hu : XO X hiE mh) : XE X (.Subscript e (.Slice loE hiE none p2) pos) (mSl ma ml mh) := by
  obtain ⟨t, p, s⟩ := he
  obtain ⟨tl, pl, sl⟩ := hl
  obtain ⟨th, ph, sh⟩ := hu
  refine ⟨_, pe_slice (sl_list.or (sl_tup.or sl_str)) p pl ph, fun G H σ ρ fp r Q R hm q => ?_⟩
  unfold mSl at hm
  split at hm
  · rename_i c o1 o2 e1 e2 e3
    refine s G H σ ρ fp c _ R e1 fun v F H1 x1 o1 => ?_
    refine sl G H1 σ ρ fp _ _ (R.grow x1) e2 fun H2 x2 => ?_
    refine sh G H2 σ ρ fp _ _ ((R.grow x1).grow x2) e3 fun H3 x3 => ?_
    have x4 := (x1.trans x2).trans x3
    exact fSl_ok ((o1.data.mono x2).mono x3) (ls_mono R.ls x4) x4 hm fun v F H' x5 o => q v F H' (x4.trans x5) o
  · cases hm

/-! calls of the program's own defs -/
inductive FO where
  | ret (s : S)
  | exc (C : Addr)
def FOk (K : PySem.W.Frag) (H : Hp) (Q : VK) (E : XK) : FO → Prop
  | .ret s => ∀ v F H', Ex H H' → Rep K H' s v F → (∀ a ∈ F, H a = none) → Q v H'
  | .exc C => ∀ H', Ex H H' → E (.ref C) none H'
def spD (K : PySem.W.Frag) (n : Nat) (g : List D → Option FO) : Sp := fun vs H Q E => vs.length = n ∧ ∃ ds o, DtL K H vs ds ∧ g ds = some o ∧ FOk K H Q E o
def retR : S → R
  | .d x => .sh x
  | .own ss => .tr (.own ss)
  | .tp ss => .tr (.tp ss)
theorem retR_ok {K : PySem.W.Frag} {H H1 : Hp} {fp : Nat → List Addr} {v : V} {F : List Addr} {s : S} (ls : ∀ i a, a ∈ fp i → ∃ xs, H1 a = some (mo xs)) (h : Rep K H1 s v F) (f : ∀ a ∈ F, H a = none) : ROk K H H1 fp v F (retR s) := by
  cases s with
  | d x => cases h with
    | d h => exact ⟨rfl, h.mono (stb_hid ls)⟩
  | own ss => exact ⟨h, f⟩
  | tp ss => exact ⟨h, f⟩
def mCall (n : Nat) (g : List D → Option FO) (ms : MA) : ME := fun ρ => match ms ρ with
  | some rs => if rs.length = n then (match g (rs.map DL.R.data) with
    | some (.ret s) => some (retR s)
    | _ => none) else none
  | none => none
theorem xcall {CX : CXT} {k n : Nat} {f : Addr} {fd : FuncData} {ps : List Str} {g : List D → Option FO} {x : Str} {p : Pos} (F : FnOk X.prog X.w X.K X.mg X.base CX k f fd ps (spD X.K n g)) (hr : Room k X.A) (hg : Gl X x) (hm : X.mg x = some (.ref f)) (hk : PySem.W.keepIn X.K (.ref f) = true) (hb : Binds X.K fd ps []) (hx : Passes CX X E0)
    (ha : XA X (e :: es) ms) (hdb : (x == ("__debug__" : Str)) = false := by decide) (he : starEach (e :: es) X.env = (false, eval e X.env) :: starEach es X.env := by rfl) (hpl : (backTo pos (starEach es X.env)).any (·.1) = false := by rfl) :
    XE X (.Call (.Name x p) (e :: es) [] pos) (mCall n g ms) := by
  obtain ⟨t, pa, s⟩ := ha
  refine ⟨_, pe_call F hr hg hm hk hb .nil hx pa hdb he hpl, fun G H σ ρ fp r Q R hm q => ?_⟩
  unfold mCall at hm
  split at hm
  · rename_i rs e1
    split at hm
    · rename_i hn
      split at hm
      · rename_i s' e2; cases hm
        refine s G H σ ρ fp rs _ R e1 fun vs F H1 x1 o1 => ?_
        rw [List.append_nil]
        refine ⟨o1.len.symm.trans hn, _, _, o1.data, e2, fun v F' H' x2 o2 f2 => ?_⟩
        have x3 := x1.trans x2
        exact q v F' H' x3 (ROk.back (retR_ok (ls_mono R.ls x3) o2 f2) x1)
      · cases hm
    · cases hm
  · cases hm
end
end DL

set_option Elab.async false
set_option linter.all false
set_option maxRecDepth 100000
set_option maxHeartbeats 4000000
/-! What is walked; comprehensions; statements. -/
namespace DL
open PySem PySem.Spec PyProof.Rows L2
open Evl (Ex)
open RZ (ItzT turn_zipT iZipA pi_zipA)

/-! ### changes of the environment -/
def fset (fp : Nat → List Addr) (i : Nat) (F : List Addr) : Nat → List Addr := fun j => if j = i then F else fp j
theorem fset_self {fp : Nat → List Addr} {i : Nat} {F : List Addr} : fset fp i F i = F := by unfold fset; rw [if_pos rfl]
theorem fset_ne {fp : Nat → List Addr} {i j : Nat} {F : List Addr} (h : j ≠ i) : fset fp i F j = fp j := by unfold fset; rw [if_neg h]
section
variable {K : PySem.W.Frag} {G H H1 : Hp} {σ : L2.St} {ρ : Env} {fp : Nat → List Addr} {v : V} {F : List Addr} {r : R}
theorem hid_fset (f : ∀ a ∈ F, H a = none) (e : Ex H H1) (i : Nat) : Ex (hid H fp) (hid H1 (fset fp i F)) := fun a o h => by
  obtain ⟨n, h⟩ := hid_some h
  rw [hid_at]
  · exact e a o h
  · intro j m
    by_cases hj : j = i
    · subst hj; rw [fset_self] at m; rw [f a m] at h; cases h
    · rw [fset_ne hj] at m; exact n j m
theorem hid_less (i : Nat) : Ex (hid H fp) (hid H (fset fp i [])) := hid_fset (H1 := H) (fun a m => by cases m) (Evl.Ex.refl H) i
theorem SlOk.set (e : Ex (hid H fp) (hid H1 (fset fp i F))) (e1 : Ex H H1) {x : Option (Option V)} {G' : List Addr} {s : Sl} (h : SlOk K (hid H fp) H x G' s) : SlOk K (hid H1 (fset fp i F)) H1 x G' s := by
  cases s with
  | dead => exact h
  | ad a => exact h
  | dc m => obtain ⟨a, q1, q2, q3⟩ := h; exact ⟨a, q1, q2, e1 _ _ q3⟩
  | sh x => obtain ⟨q0, v, q1, q2⟩ := h; exact ⟨q0, v, q1, q2.mono e⟩
  | fz w x => obtain ⟨q0, q1, q2⟩ := h; exact ⟨q0, q1, q2.mono e⟩
  | vw x => obtain ⟨q0, v, q1, q2⟩ := h; exact ⟨q0, v, q1, q2.mono e1⟩
  | tr s => obtain ⟨v, q1, q2⟩ := h; exact ⟨v, q1, q2.mono e1⟩
theorem RelF.set {i : Nat} (R : RelF K G H σ ρ fp) (e : Ex H H1) (o : ROk K H H1 fp v F r) : RelF K G H1 (σ.set i (some v)) (ρ.set i r.slot) (fset fp i F) where
  len := by simpa using R.len
  ex := R.ex.trans e
  dj := fun j k a m1 m2 => by
    by_cases hj : j = i
    · by_cases hk : k = i
      · rw [hj, hk]
      · subst hj; rw [fset_self] at m1; rw [fset_ne hk] at m2
        obtain ⟨xs, z⟩ := R.ls k a m2
        rw [o.fresh a m1] at z; cases z
    · rw [fset_ne hj] at m1
      by_cases hk : k = i
      · subst hk; rw [fset_self] at m2
        obtain ⟨xs, z⟩ := R.ls j a m1
        rw [o.fresh a m2] at z; cases z
      · rw [fset_ne hk] at m2; exact R.dj j k a m1 m2
  new := fun j a m => by
    by_cases hj : j = i
    · subst hj; rw [fset_self] at m; exact Evl.fresh_back R.ex (o.fresh a m)
    · rw [fset_ne hj] at m; exact R.new j a m
  ls := fun j a m => by
    by_cases hj : j = i
    · subst hj; rw [fset_self] at m; exact o.ls a m
    · rw [fset_ne hj] at m; exact (R.grow e).ls j a m
  sl := fun j s h => by
    have hx : Ex (hid H fp) (hid H1 (fset fp i F)) := hid_fset o.fresh e i
    by_cases hj : j = i
    · subst hj
      have hl : j < ρ.length := by
        have := (List.getElem?_eq_some_iff.mp h).1
        simpa using this
      have hl2 : j < σ.length := by rw [R.len]; exact hl
      rw [List.getElem?_set_self hl] at h
      cases h
      rw [fset_self, List.getElem?_set_self hl2]
      cases r with
      | sh x =>
        obtain ⟨rfl, h⟩ := o
        exact ⟨rfl, v, rfl, h.mono (hid_less j)⟩
      | vw x =>
        obtain ⟨rfl, h⟩ := o
        show SlOk _ _ _ _ _ (if imm x = true then .sh x else .vw x)
        by_cases im : imm x = true
        · rw [if_pos im]
          refine ⟨rfl, v, rfl, (imm_hid (fp := fp) (ls_mono R.ls e) h im).mono (hid_less j)⟩
        · rw [if_neg im]; exact ⟨rfl, v, rfl, h⟩
      | tr s => exact ⟨v, rfl, o.1⟩
    · rw [List.getElem?_set_ne (Ne.symm hj)] at h
      rw [fset_ne hj, List.getElem?_set_ne (Ne.symm hj)]
      exact SlOk.set hx e (R.sl j s h)
theorem RelF.kill1 (R : RelF K G H σ ρ fp) (i : Nat) : RelF K G H σ (ρ.set i .dead) (fset fp i []) where
  len := by simpa using R.len
  ex := R.ex
  dj := fun j k a m1 m2 => by
    by_cases hj : j = i
    · subst hj; rw [fset_self] at m1; cases m1
    · rw [fset_ne hj] at m1
      by_cases hk : k = i
      · subst hk; rw [fset_self] at m2; cases m2
      · rw [fset_ne hk] at m2; exact R.dj j k a m1 m2
  new := fun j a m => by
    by_cases hj : j = i
    · subst hj; rw [fset_self] at m; cases m
    · rw [fset_ne hj] at m; exact R.new j a m
  ls := fun j a m => by
    by_cases hj : j = i
    · subst hj; rw [fset_self] at m; cases m
    · rw [fset_ne hj] at m; exact R.ls j a m
  sl := fun j s h => by
    by_cases hj : j = i
    · subst hj
      have hl : j < ρ.length := by
        have := (List.getElem?_eq_some_iff.mp h).1
        simpa using this
      rw [List.getElem?_set_self hl] at h
      cases h
      rw [fset_self]; rfl
    · rw [List.getElem?_set_ne (Ne.symm hj)] at h
      rw [fset_ne hj]
      exact SlOk.set (hid_less i) (Evl.Ex.refl H) (R.sl j s h)
/-- the values of dead slots may be forgotten -/
theorem RelF.wipe1 (R : RelF K G H σ ρ fp) (i : Nat) : RelF K G H (σ.set i none) (ρ.set i .dead) (fset fp i []) where
  len := by simpa using R.len
  ex := R.ex
  dj := (R.kill1 i).dj
  new := (R.kill1 i).new
  ls := (R.kill1 i).ls
  sl := fun j s h => by
    have q := (R.kill1 i).sl j s h
    by_cases hj : j = i
    · subst hj
      have hl : j < ρ.length := by
        have := (List.getElem?_eq_some_iff.mp h).1
        simpa using this
      rw [List.getElem?_set_self hl] at h
      cases h
      exact q
    · rw [List.getElem?_set_ne (Ne.symm hj)]; exact q
end
def killE : List Nat → Env → Env
  | [], ρ => ρ
  | k :: ks, ρ => (killE ks ρ).set k .dead
theorem RelF.kill {K : PySem.W.Frag} {G H : Hp} {σ : L2.St} {ρ : Env} {fp : Nat → List Addr} (R : RelF K G H σ ρ fp) : ∀ ks : List Nat, ∃ fp', RelF K G H σ (killE ks ρ) fp'
  | [] => ⟨fp, R⟩
  | k :: ks => let ⟨_, R'⟩ := R.kill ks; ⟨_, R'.kill1 k⟩
theorem RelF.wipe {K : PySem.W.Frag} {G H : Hp} {σ : L2.St} {ρ : Env} {fp : Nat → List Addr} (R : RelF K G H σ ρ fp) : ∀ ks : List Nat, ∃ fp', RelF K G H (L2.wipe σ ks) (killE ks ρ) fp' ∧ ∀ i a, a ∈ fp' i → a ∈ fp i
  | [] => ⟨fp, R, fun _ _ m => m⟩
  | k :: ks => by
    obtain ⟨fp', R', h⟩ := R.wipe ks
    refine ⟨_, R'.wipe1 k, fun i a m => ?_⟩
    by_cases hj : i = k
    · subst hj; rw [fset_self] at m; cases m
    · rw [fset_ne hj] at m; exact h i a m
theorem hid_sub {H : Hp} {fp fp' : Nat → List Addr} (h : ∀ i a, a ∈ fp' i → a ∈ fp i) : Ex (hid H fp) (hid H fp') := fun a o e => by
  obtain ⟨n, e⟩ := hid_some e
  rw [hid_at fun i m => n i (h i a m)]; exact e

/-! ### what is walked -/
def ItOk (K : PySem.W.Frag) (B : Hp) (J : It) (items : List D) : Prop := ∀ i H', Ex B H' → (∀ d, items[i]? = some d → J.go i H' ∧ ∀ x H'', J.yld i H' x H'' → Ex H' H'' ∧ ∀ B2, Ex B B2 → Ex (stb H'') B2 → Dt K B2 x d) ∧ (items.length ≤ i → J.stop i H')
open Classical in
noncomputable def wallOf (s : Bool) (H : Hp) (fp : Nat → List Addr) : Hp := if s = true then hid H fp else H
abbrev MI := Env → Option (Bool × List D)
def SimI (K : PySem.W.Frag) (wi : TI) (mi : MI) : Prop := ∀ G H σ ρ fp s items (Q : It → Hp → Prop), RelF K G H σ ρ fp → mi ρ = some (s, items) → (∀ J H1, Ex H H1 → ItOk K (wallOf s H1 fp) J items → Q J H1) → wi σ H Q
structure XI (X : Cx) (tg iter : Expr) (mi : MI) : Prop where
  sim : ∃ wi, PI X tg iter wi ∧ SimI X.K wi mi
section
variable {K : PySem.W.Frag} {B : Hp} {a b : Addr} {ds es : List D}
theorem itl_ok (h : Dt K B (.ref a) (.lst ds)) : ItOk K B (Itl K a) ds := by
  cases h with
  | lst h t =>
    rename_i xs
    refine fun i H' e => ⟨fun d hd => ?_, fun hl => ⟨xs, SqL.of (e _ _ h), by rw [t.len]; exact hl⟩⟩
    obtain ⟨v, h1, h2⟩ := t.get hd
    refine ⟨⟨xs, v, SqL.of (e _ _ h), h1⟩, fun x H'' y => ?_⟩
    obtain ⟨rfl, y⟩ := y
    have := y xs (SqL.of (e _ _ h))
    rw [h1] at this; cases this
    exact ⟨Evl.Ex.refl _, fun B2 e2 _ => h2.mono e2⟩
theorem itl_scr {ns : List Int} (h : SqL K B a (ns.map V.int)) : ItOk K B (Itl K a) (ns.map D.int) := by
  refine fun i H' e => ⟨fun d hd => ?_, fun hl => ⟨_, Evl.ex_l e h, by simpa using hl⟩⟩
  have h' := Evl.ex_l e h
  rw [List.getElem?_map, Option.map_eq_some_iff] at hd
  obtain ⟨n, hn, rfl⟩ := hd
  have h1 : (ns.map V.int)[i]? = some (.int n) := by rw [List.getElem?_map, hn]; rfl
  refine ⟨⟨_, _, h', h1⟩, fun x H'' y => ?_⟩
  obtain ⟨rfl, y⟩ := y
  have := y _ h'
  rw [h1] at this; cases this
  exact ⟨Evl.Ex.refl _, fun B2 e2 _ => .int n⟩
/-- a tuple, made here or of the written part -/
def TupD (K : PySem.W.Frag) (B : Hp) (a : Addr) (ds : List D) : Prop := ∃ xs, SqT K B a xs ∧ DtL K B xs ds
theorem tupD (h : Dt K B (.ref a) (.tup ds)) : TupD K B a ds := by
  cases h with
  | tup h t => exact ⟨_, .inl (.inl h), t⟩
theorem tupK {ns : List Int} (h : Dt K B (.ref a) (.ktp ns)) : TupD K B a (ns.map .int) := by
  cases h with
  | ktp h => exact ⟨_, h, .ints ns⟩
theorem itt_ok (h : TupD K B a ds) : ItOk K B (Itt K a) ds := by
  obtain ⟨xs, h, t⟩ := h
  · skip
    refine fun i H' e => ⟨fun d hd => ?_, fun hl => ⟨xs, Evl.ex_t e h, by rw [t.len]; exact hl⟩⟩
    obtain ⟨v, h1, h2⟩ := t.get hd
    refine ⟨⟨xs, v, Evl.ex_t e h, h1⟩, fun x H'' y => ?_⟩
    obtain ⟨rfl, y⟩ := y
    have := y xs (Evl.ex_t e h)
    rw [h1] at this; cases this
    exact ⟨Evl.Ex.refl _, fun B2 e2 _ => h2.mono e2⟩
theorem itr_ok (lo : Int) (n : Nat) : ItOk K B (Itr lo n) ((List.range n).map fun (k : Nat) => D.int (lo + (k : Int))) := by
  refine fun i H' e => ⟨fun d hd => ?_, fun hl => by simpa [Itr] using hl⟩
  have hi : i < n := by
    have := (List.getElem?_eq_some_iff.mp hd).1
    simpa using this
  refine ⟨hi, fun x H'' y => ?_⟩
  obtain ⟨rfl, rfl⟩ := y
  refine ⟨Evl.Ex.refl _, fun B2 _ _ => ?_⟩
  rw [List.getElem?_map, List.getElem?_range hi] at hd
  cases hd
  exact .int _
/-- pairs of two lists (tuples) of the same length -/
def pairs (ds es : List D) : List D := (ds.zip es).map fun p => .tup [p.1, p.2]
theorem pairs_at {i : Nat} {d : D} (h : (pairs ds es)[i]? = some d) : ∃ x y, ds[i]? = some x ∧ es[i]? = some y ∧ d = .tup [x, y] := by
  unfold pairs at h
  rw [List.getElem?_map, Option.map_eq_some_iff] at h
  obtain ⟨⟨x, y⟩, h1, rfl⟩ := h
  rw [List.getElem?_zip_eq_some] at h1
  exact ⟨x, y, h1.1, h1.2, rfl⟩
theorem pair_dt {H' B2 : Hp} {T : Addr} {x y : V} {dx dy : D} {B : Hp} (hx : Dt K B x dx) (hy : Dt K B y dy) (e : Ex B B2) (e2 : Ex (stb (upd H' T (.tup [x, y]))) B2) : Dt K B2 (.ref T) (.tup [dx, dy]) :=
  .tup (e2 _ _ (stb_tup upd_same)) (.cons (hx.mono e) (.cons (hy.mono e) .nil))
theorem itz_ok (h : Dt K B (.ref a) (.lst ds)) (h' : Dt K B (.ref b) (.lst es)) : ItOk K B (Itz K a b) (pairs ds es) := by
  cases h with
  | lst h t =>
    cases h' with
    | lst h' t' =>
      rename_i xs ys
      refine fun i H' e => ⟨fun d hd => ?_, fun hl => ⟨xs, ys, SqL.of (e _ _ h), SqL.of (e _ _ h'), ?_⟩⟩
      · obtain ⟨dx, dy, g1, g2, rfl⟩ := pairs_at hd
        obtain ⟨x, h1, h2⟩ := t.get g1
        obtain ⟨y, h3, h4⟩ := t'.get g2
        refine ⟨⟨xs, ys, x, y, SqL.of (e _ _ h), SqL.of (e _ _ h'), h1, h3⟩, fun z H'' q => ?_⟩
        obtain ⟨T, x', y', rfl, nT, rfl, f1, f2⟩ := q
        have q1 := f1 xs (SqL.of (e _ _ h)); rw [h1] at q1; cases q1
        have q2 := f2 ys (SqL.of (e _ _ h')); rw [h3] at q2; cases q2
        exact ⟨Evl.Ex.new nT, fun B2 e2 e3 => pair_dt h2 h4 e2 e3⟩
      · rw [t.len, t'.len]
        unfold pairs at hl
        rw [List.length_map, List.length_zip] at hl
        omega
theorem itzT_ok (h : TupD K B a ds) (h' : TupD K B b es) : ItOk K B (ItzT K a b) (pairs ds es) := by
  obtain ⟨xs, h, t⟩ := h
  · obtain ⟨ys, h', t'⟩ := h'
    · skip
      refine fun i H' e => ⟨fun d hd => ?_, fun hl => ⟨xs, ys, Evl.ex_t e h, Evl.ex_t e h', ?_⟩⟩
      · obtain ⟨dx, dy, g1, g2, rfl⟩ := pairs_at hd
        obtain ⟨x, h1, h2⟩ := t.get g1
        obtain ⟨y, h3, h4⟩ := t'.get g2
        refine ⟨⟨xs, ys, x, y, Evl.ex_t e h, Evl.ex_t e h', h1, h3⟩, fun z H'' q => ?_⟩
        obtain ⟨T, x', y', rfl, nT, rfl, f1, f2⟩ := q
        have q1 := f1 xs (Evl.ex_t e h); rw [h1] at q1; cases q1
        have q2 := f2 ys (Evl.ex_t e h'); rw [h3] at q2; cases q2
        exact ⟨Evl.Ex.new nT, fun B2 e2 e3 => pair_dt h2 h4 e2 e3⟩
      · rw [t.len, t'.len]
        unfold pairs at hl
        rw [List.length_map, List.length_zip] at hl
        omega
end
def R.fixed : R → Bool
  | .vw _ => false
  | _ => true
theorem wall_t {H : Hp} {fp : Nat → List Addr} : wallOf true H fp = hid H fp := if_pos rfl
theorem wall_f {H : Hp} {fp : Nat → List Addr} : wallOf false H fp = H := if_neg Bool.false_ne_true
theorem ROk.wall {K : PySem.W.Frag} {H H1 : Hp} {fp : Nat → List Addr} {v : V} {F : List Addr} {r : R} (ls : ∀ i a, a ∈ fp i → ∃ xs, H a = some (mo xs)) (e : Ex H H1) (o : ROk K H H1 fp v F r) :
    Dt K (wallOf r.fixed H1 fp) v r.data := by
  cases r with
  | sh x => show Dt K (wallOf true H1 fp) v x; rw [wall_t]; exact o.2
  | vw x => show Dt K (wallOf false H1 fp) v x; rw [wall_f]; exact o.2
  | tr s => show Dt K (wallOf true H1 fp) v s.data; rw [wall_t]; exact o.1.hid ls (ls_mono ls e) o.2
section
variable {X : Cx} {tg e e2 : Expr} {ma mb : ME} {ms : MA} {p pos : Pos}
/-- a list or a tuple -/
def mISeq (m : ME) : MI := fun ρ => match m ρ with
  | some r => match r.data with
    | .lst ds => some (r.fixed, ds)
    | .tup ds => some (r.fixed, ds)
    | .scr ns => some (r.fixed, ns.map .int)
    | _ => none
  | none => none
theorem PI.or {wi wi' : TI} (h : PI X tg e wi) (h' : PI X tg e wi') : PI X tg e (fun σ H R => wi σ H R ∨ wi' σ H R) := ⟨fun pins s σ H R I w => by
  rcases w with w | w
  · exact h.run pins s σ H R I w
  · exact h'.run pins s σ H R I w⟩
theorem xi_list (h : XE X e ma) (hd : ∀ ρ r, ma ρ = some r → ∀ ds, r.data ≠ .tup ds) : XI X tg e (mISeq ma) := by
  obtain ⟨t, p, s⟩ := h
  refine ⟨_, pi_list p, fun G H σ ρ fp fx items Q R hm q => ?_⟩
  unfold mISeq at hm
  split at hm
  · rename_i r e1
    refine s G H σ ρ fp r _ R e1 fun v F H1 x1 o1 => ?_
    have w := ROk.wall R.ls x1 o1
    split at hm
    · rename_i ds e2; cases hm; rw [e2] at w
      have w' := o1.data; rw [e2] at w'
      cases w' with
      | lst h t => exact ⟨_, rfl, ⟨_, SqL.of h⟩, q _ H1 x1 (itl_ok w)⟩
    · rename_i ds e2; exact (hd ρ r e1 ds e2).elim
    · rename_i ns e2; cases hm; rw [e2] at w
      have w' := o1.data; rw [e2] at w'
      cases w' with
      | scr h t =>
        cases w with
        | scr h2 _ => exact ⟨_, rfl, ⟨_, h⟩, q _ H1 x1 (itl_scr h2)⟩
    · cases hm
  · cases hm
/-- a list alone (other kinds: none) -/
def sgn (x : Str) : List D := x.cps.toList.map fun c => .str ⟨#[c]⟩
theorem its_ok {K : PySem.W.Frag} {B : Hp} (x : Str) : ItOk K B (Its x) (sgn x) := by
  have hz : x.cps.toList.length = x.cps.size := Array.length_toList
  refine fun i H' e => ⟨fun d hd => ?_, fun hl => ?_⟩
  · unfold sgn at hd
    rw [List.getElem?_map, Option.map_eq_some_iff] at hd
    obtain ⟨c, hc, rfl⟩ := hd
    have hi : i < x.cps.size := by
      have := (List.getElem?_eq_some_iff.mp hc).1
      omega
    refine ⟨hi, fun v H'' y => ?_⟩
    obtain ⟨rfl, c', hc', rfl⟩ := y
    rw [Array.getElem?_toList] at hc
    rw [hc] at hc'; cases hc'
    exact ⟨Evl.Ex.refl _, fun B2 e2 _ => .str _⟩
  · show x.cps.size ≤ i
    unfold sgn at hl
    rw [List.length_map] at hl; omega
def mIL (m : ME) : MI := fun ρ => match m ρ with
  | some r => match r.data with
    | .lst ds => some (r.fixed, ds)
    | .scr ns => some (r.fixed, ns.map .int)
    | .str x => some (true, sgn x)
    | _ => none
  | none => none
theorem xi_l (h : XE X e ma) : XI X tg e (mIL ma) := by
  obtain ⟨t, p, s⟩ := h
  refine ⟨_, DL.PI.or (pi_list p) (pi_str p), fun G H σ ρ fp fx items Q R hm q => ?_⟩
  unfold mIL at hm
  split at hm
  · rename_i r e1
    split at hm
    · rename_i ds e2; cases hm
      refine .inl (s G H σ ρ fp r _ R e1 fun v F H1 x1 o1 => ?_)
      have w := ROk.wall R.ls x1 o1
      rw [e2] at w
      have w' := o1.data; rw [e2] at w'
      cases w' with
      | lst h t => exact ⟨_, rfl, ⟨_, SqL.of h⟩, q _ H1 x1 (itl_ok w)⟩
    · rename_i ns e2; cases hm
      refine .inl (s G H σ ρ fp r _ R e1 fun v F H1 x1 o1 => ?_)
      have w := ROk.wall R.ls x1 o1
      rw [e2] at w
      have w' := o1.data; rw [e2] at w'
      cases w' with
      | scr h t =>
        cases w with
        | scr h2 _ => exact ⟨_, rfl, ⟨_, h⟩, q _ H1 x1 (itl_scr h2)⟩
    · rename_i x e2; cases hm
      refine .inr (s G H σ ρ fp r _ R e1 fun v F H1 x1 o1 => ?_)
      have w' := o1.data; rw [e2] at w'
      cases w'
      exact ⟨x, rfl, q _ H1 x1 (its_ok x)⟩
    · cases hm
  · cases hm
def mIT (m : ME) : MI := fun ρ => match m ρ with
  | some r => match r.data with
    | .tup ds => some (r.fixed, ds)
    | _ => none
  | none => none
theorem xi_t (h : XE X e ma) : XI X tg e (mIT ma) := by
  obtain ⟨t, p, s⟩ := h
  refine ⟨_, pi_tup p, fun G H σ ρ fp fx items Q R hm q => ?_⟩
  unfold mIT at hm
  split at hm
  · rename_i r e1
    refine s G H σ ρ fp r _ R e1 fun v F H1 x1 o1 => ?_
    have w := ROk.wall R.ls x1 o1
    split at hm
    · rename_i ds e2; cases hm; rw [e2] at w
      have w' := o1.data; rw [e2] at w'
      cases w' with
      | tup h t => exact ⟨_, rfl, ⟨_, .inl (.inl h)⟩, q _ H1 x1 (itt_ok (tupD w))⟩
    · cases hm
  · cases hm
/-- range -/
def rg (lo : Int) (n : Nat) : List D := (List.range n).map fun (k : Nat) => D.int (lo + (k : Int))
def mRg1 (ms : MA) : MI := fun ρ => match ms ρ with
  | some rs => match rs.map R.data with
    | [.int j] => if -1000000 ≤ j ∧ j ≤ 1000000 then some (true, rg 0 j.toNat) else none
    | _ => none
  | none => none
def mRg2 (ms : MA) : MI := fun ρ => match ms ρ with
  | some rs => match rs.map R.data with
    | [.int i, .int j] => if (-1000000 ≤ i ∧ i ≤ 1000000) ∧ -1000000 ≤ j ∧ j ≤ 1000000 then some (true, rg i (j - i).toNat) else none
    | _ => none
  | none => none
theorem itr_wall {K : PySem.W.Frag} {s : Bool} {H : Hp} {fp : Nat → List Addr} (lo : Int) (n : Nat) : ItOk K (wallOf s H fp) (Itr lo n) (rg lo n) := itr_ok lo n
theorem xi_rg1 (hg : Gl X "range") (hm : X.mg "range" = none) (ha : XA X [e] ms) (hs : starEach [e] X.env = [(false, eval e X.env)] := by rfl) : XI X tg (.Call (.Name "range" p) [e] [] pos) (mRg1 ms) := by
  obtain ⟨t, pa, s⟩ := ha
  refine ⟨_, pi_range1 hg hm pa hs, fun G H σ ρ fp fx items Q R hm q => ?_⟩
  unfold mRg1 at hm
  split at hm
  · rename_i rs e1
    refine s G H σ ρ fp rs _ R e1 fun vs F H1 x1 o1 => ?_
    have d := o1.data
    split at hm
    · rename_i j e2; rw [e2] at d
      split at hm
      · rename_i hj; cases hm
        cases d with
        | cons h t => cases t; cases dt_int h; exact ⟨j, rfl, by omega, by omega, q _ H1 x1 (itr_wall 0 j.toNat)⟩
      · cases hm
    · cases hm
  · cases hm
theorem xi_rg2 (hg : Gl X "range") (hm : X.mg "range" = none) (ha : XA X [e, e2] ms) (hs : starEach [e, e2] X.env = [(false, eval e X.env), (false, eval e2 X.env)] := by rfl) (hs2 : starEach [e2] X.env = [(false, eval e2 X.env)] := by rfl) : XI X tg (.Call (.Name "range" p) [e, e2] [] pos) (mRg2 ms) := by
  obtain ⟨t, pa, s⟩ := ha
  refine ⟨_, pi_range2 hg hm pa hs hs2, fun G H σ ρ fp fx items Q R hm q => ?_⟩
  unfold mRg2 at hm
  split at hm
  · rename_i rs e1
    refine s G H σ ρ fp rs _ R e1 fun vs F H1 x1 o1 => ?_
    have d := o1.data
    split at hm
    · rename_i i j e2; rw [e2] at d
      split at hm
      · rename_i hj; cases hm
        cases d with
        | cons h t =>
          cases t with
          | cons h2 t =>
            cases t; cases dt_int h; cases dt_int h2
            exact ⟨i, j, rfl, by omega, q _ H1 x1 (itr_wall i (j - i).toNat)⟩
      · cases hm
    · cases hm
  · cases hm
/-- zip of two lists, of two tuples -/
def mZip (ms : MA) : MI := fun ρ => match ms ρ with
  | some rs => match rs.map R.data with
    | [.lst ds, .lst es] => some (rs.all R.fixed, pairs ds es)
    | [.tup ds, .tup es] => some (rs.all R.fixed, pairs ds es)
    | [.tup ds, .ktp ns] => some (rs.all R.fixed, pairs ds (ns.map .int))
    | _ => none
  | none => none
theorem AOk.wall {K : PySem.W.Frag} {H H1 : Hp} {fp : Nat → List Addr} (ls : ∀ i a, a ∈ fp i → ∃ xs, H a = some (mo xs)) (e : Ex H H1) : ∀ {rs : List R} {vs : List V} {F : List Addr}, AOk K H H1 fp rs vs F → DtL K (wallOf (rs.all R.fixed) H1 fp) vs (rs.map R.data)
  | _, _, _, .nil => .nil
  | _, _, _, .cons (r := r) (rs := rs) h t _ => by
    have h1 := ROk.wall ls e h
    have h2 := AOk.wall ls e t
    have d1 := h.data
    have d2 := t.data
    show DtL K (wallOf (r.fixed && rs.all R.fixed) H1 fp) _ _
    cases hf : r.fixed
    · rw [Bool.false_and, wall_f]; exact .cons d1 d2
    · cases hs : rs.all R.fixed
      · rw [Bool.and_false, wall_f]; exact .cons d1 d2
      · rw [hs] at h2
        rw [hf] at h1
        exact .cons h1 h2
theorem xi_zip {tpos : Pos} {elts : List Expr} {kk : Nat} (hg : Gl X "zip") (hm : X.mg "zip" = none) (ha : XA X [e, e2] ms)
    (hs : starEach [e, e2] X.env = (false, eval e X.env) :: starEach [e2] X.env := by rfl) (hpl : (backTo pos (starEach [e2] X.env)).any (·.1) = false := by rfl) : XI X (.Tuple elts kk tpos) (.Call (.Name "zip" p) [e, e2] [] pos) (mZip ms) := by
  obtain ⟨t, pa, s⟩ := ha
  refine ⟨_, pi_zipA hg hm pa hs hpl, fun G H σ ρ fp fx items Q R hm q => ?_⟩
  unfold mZip at hm
  split at hm
  · rename_i rs e1
    refine s G H σ ρ fp rs _ R e1 fun vs F H1 x1 o1 => ?_
    have d := o1.data
    have w := o1.wall R.ls x1
    split at hm
    · rename_i ds es e2; cases hm; rw [e2] at d w
      cases d with
      | cons h t => cases t with
        | cons h2 t =>
          cases t
          cases w with
          | cons w1 t => cases t with
            | cons w2 t =>
              cases t
              cases h with
              | lst h0 _ => cases h2 with
                | lst h0' _ => exact ⟨_, _, _, _, rfl, .inl ⟨SqL.of h0, SqL.of h0', q _ H1 x1 (itz_ok w1 w2)⟩⟩
    · rename_i ds es e2; cases hm; rw [e2] at d w
      cases d with
      | cons h t => cases t with
        | cons h2 t =>
          cases t
          cases w with
          | cons w1 t => cases t with
            | cons w2 t =>
              cases t
              cases h with
              | tup h0 _ => cases h2 with
                | tup h0' _ => exact ⟨_, _, _, _, rfl, .inr ⟨.inl (.inl h0), .inl (.inl h0'), q _ H1 x1 (itzT_ok (tupD w1) (tupD w2))⟩⟩
    · rename_i ds es e2; cases hm; rw [e2] at d w
      cases d with
      | cons h t => cases t with
        | cons h2 t =>
          cases t
          cases w with
          | cons w1 t => cases t with
            | cons w2 t =>
              cases t
              cases h with
              | tup h0 _ => cases h2 with
                | ktp h0' => exact ⟨_, _, _, _, rfl, .inr ⟨.inl (.inl h0), h0', q _ H1 x1 (itzT_ok (tupD w1) (tupK w2))⟩⟩
    · cases hm
  · cases hm
end

/-! ### targets: a name, a tuple of names -/
/-- how an item's data is kept: as it stands where the source is fixed -/
def itR (s : Bool) (d : D) : R := if s = true then .sh d else .vw d
theorem itR_ok {K : PySem.W.Frag} {H : Hp} {fp : Nat → List Addr} {s : Bool} {d : D} {v : V} (h : Dt K (wallOf s H fp) v d) : ROk K H H fp v [] (itR s d) := by
  cases s with
  | true => rw [wall_t] at h; exact ⟨rfl, h⟩
  | false => rw [wall_f] at h; exact ⟨rfl, h⟩
def setS (σ : L2.St) : List Nat → List V → L2.St
  | j :: js, v :: vs => setS (σ.set j (some v)) js vs
  | _, _ => σ
def setE (s : Bool) (ρ : Env) : List Nat → List D → Env
  | j :: js, d :: ds => setE s (ρ.set j (itR s d).slot) js ds
  | _, _ => ρ
theorem wall_sub {s : Bool} {H : Hp} {fp fp' : Nat → List Addr} (h : ∀ i a, a ∈ fp' i → a ∈ fp i) : Ex (wallOf s H fp) (wallOf s H fp') := by
  cases s with
  | true => rw [wall_t, wall_t]; exact hid_sub h
  | false => rw [wall_f, wall_f]; exact Evl.Ex.refl H
theorem RelF.setItem {K : PySem.W.Frag} {G H : Hp} {σ : L2.St} {ρ : Env} {fp : Nat → List Addr} {v : V} {d : D} {s : Bool} {i : Nat} (R : RelF K G H σ ρ fp) (h : Dt K (wallOf s H fp) v d) :
    RelF K G H (σ.set i (some v)) (ρ.set i (itR s d).slot) (fset fp i []) ∧ ∀ j a, a ∈ fset fp i [] j → a ∈ fp j := by
  refine ⟨R.set (Evl.Ex.refl H) (itR_ok h), fun j a m => ?_⟩
  by_cases hj : j = i
  · subst hj; rw [fset_self] at m; cases m
  · rw [fset_ne hj] at m; exact m
theorem RelF.setItems {K : PySem.W.Frag} {G H : Hp} {s : Bool} : ∀ {js : List Nat} {vs : List V} {ds : List D} {σ : L2.St} {ρ : Env} {fp : Nat → List Addr}, RelF K G H σ ρ fp → DtL K (wallOf s H fp) vs ds → ∃ fp', RelF K G H (setS σ js vs) (setE s ρ js ds) fp' ∧ (∀ j a, a ∈ fp' j → a ∈ fp j) ∧ ∀ j, j ∉ js → fp' j = fp j
  | [], _, _, σ, ρ, fp, R, h => by
    have e1 : setS σ [] ‹List V› = σ := by unfold setS; rfl
    have e2 : setE s ρ [] ‹List D› = ρ := by unfold setE; rfl
    rw [e1, e2]; exact ⟨fp, R, fun _ _ m => m, fun _ _ => rfl⟩
  | j :: js, _, _, σ, ρ, fp, R, .nil => ⟨fp, R, fun _ _ m => m, fun _ _ => rfl⟩
  | j :: js, _, _, σ, ρ, fp, R, .cons h t => by
    obtain ⟨R1, s1⟩ := R.setItem (i := j) h
    obtain ⟨fp', R2, s2, s3⟩ := R1.setItems (js := js) (t.mono (wall_sub s1))
    exact ⟨fp', R2, fun k a m => s1 k a (s2 k a m), fun k hk => (s3 k fun z => hk (by simp [z])).trans (fset_ne fun e => hk (by simp [e]))⟩
abbrev MG := Bool → D → Env → Option Env
/-- the target's names stand in own -/
def SimG (K : PySem.W.Frag) (own : List Nat) (g : TG) (mg : MG) : Prop := ∀ G H σ ρ fp s d v ρ' (Q : L2.St → Hp → Prop), RelF K G H σ ρ fp → Dt K (wallOf s H fp) v d → mg s d ρ = some ρ' → (∀ vs fp', RelF K G H (setS σ own vs) ρ' fp' → (∀ j, j ∉ own → fp' j = fp j) → Q (setS σ own vs) H) → g v σ H Q
structure XG (X : Cx) (tg : Expr) (own : List Nat) (mg : MG) : Prop where
  sim : ∃ g, PG X tg g ∧ SimG X.K own g mg
def mgName (i : Nat) : MG := fun s d ρ => some (ρ.set i (itR s d).slot)
theorem sim_gname {K : PySem.W.Frag} (i : Nat) : SimG K [i] (gName i) (mgName i) := by
  intro G H σ ρ fp s d v ρ' Q R h hm q
  cases hm
  exact q [v] _ (R.setItem h).1 fun j hj => fset_ne fun e => hj (by simp [e])
theorem xg_name {X : Cx} {i : Nat} {x : Str} {pos : Pos} (hN : X.N.Nodup) (hi : X.N[i]? = some x) (hx : Loc X.env.scope x) (hf : X.fn x = true ∨ X.env.scope.names.lookup x = some .local := by first | exact .inl rfl | exact .inr rfl | assumption) : XG X (.Name x pos) [i] (mgName i) := ⟨_, pg_name hN hi hx hf, sim_gname i⟩
def gNames : List Nat → TGs
  | [] => gNil
  | j :: js => gCons (gName j) (gNames js)
theorem gNames_of : ∀ {js : List Nat} {vs : List V} {σ : L2.St} {H : Hp} {Q : L2.St → Hp → Prop}, vs.length = js.length → Q (setS σ js vs) H → gNames js vs σ H Q
  | [], [], _, _, _, _, q => ⟨rfl, q⟩
  | j :: js, v :: vs, _, _, _, hl, q => ⟨v, vs, rfl, gNames_of (by simpa using hl) q⟩
  | [], _ :: _, _, _, _, hl, _ => by simp at hl
  | _ :: _, [], _, _, _, hl, _ => by simp at hl
structure XNs (X : Cx) (es : List Expr) (js : List Nat) : Prop where
  p : PGs X es (gNames js)
theorem xns_nil {X : Cx} : XNs X [] [] := ⟨pgs_nil⟩
theorem xns_cons {X : Cx} {i : Nat} {x : Str} {pos : Pos} {es : List Expr} {js : List Nat} (hN : X.N.Nodup) (hi : X.N[i]? = some x) (hx : Loc X.env.scope x) (h : XNs X es js) (hf : X.fn x = true ∨ X.env.scope.names.lookup x = some .local := by first | exact .inl rfl | exact .inr rfl | assumption)
    (hs : (assignEach (.Name x pos :: es) X.env).map (·.2) = assign (.Name x pos) X.env :: (assignEach es X.env).map (·.2) := by rfl) : XNs X (.Name x pos :: es) (i :: js) := ⟨pgs_cons (pg_name hN hi hx hf) h.p hs⟩
def mgTup (js : List Nat) : MG := fun s d ρ => match d with
  | .tup ds => if ds.length = js.length then some (setE s ρ js ds) else none
  | _ => none
theorem xg_tup {X : Cx} {es : List Expr} {js : List Nat} {k : Nat} {pos : Pos} (hc : X.calm = true) (h : XNs X es js)
    (hn : (assignEach es X.env).length = js.length := by rfl) (hst : (assignEach es X.env).findIdx? (·.1) = none := by rfl) : XG X (.Tuple es k pos) js (mgTup js) := by
  refine ⟨_, pg_tup (n := js.length) hc h.p hn hst, fun G H σ ρ fp s d v ρ' Q R h hm q => ?_⟩
  unfold mgTup at hm
  split at hm
  · rename_i ds
    split at hm
    · rename_i hl; cases hm
      have ex : Ex (wallOf s H fp) H := by
        cases s with
        | true => rw [wall_t]; exact hid_ex
        | false => rw [wall_f]; exact Evl.Ex.refl H
      cases h with
      | tup h t =>
        rename_i a xs
        refine ⟨a, xs, rfl, .inl (.inl (ex _ _ h)), t.len.trans hl, gNames_of (t.len.trans hl) ?_⟩
        obtain ⟨fp', R', _, e3⟩ := R.setItems (js := js) t
        exact q xs fp' R' e3
    · cases hm
  · cases hm

/-! ### comprehensions -/
theorem wipe_in {σ : L2.St} {i : Nat} : ∀ {vs : List Nat}, i ∈ vs → (L2.wipe σ vs)[i]? = if i < σ.length then some none else none
  | [], h => by cases h
  | w :: ws, h => by
    show ((L2.wipe σ ws).set w none)[i]? = _
    by_cases hw : w = i
    · subst hw
      by_cases hl : w < σ.length
      · rw [if_pos hl, List.getElem?_set_self (by rw [wipe_length]; exact hl)]
      · rw [if_neg hl, List.getElem?_eq_none (by rw [List.length_set, wipe_length]; omega)]
    · rw [List.getElem?_set_ne hw]
      rcases List.mem_cons.mp h with h | h
      · exact (hw h.symm).elim
      · exact wipe_in h
theorem setS_out {j : Nat} : ∀ {js : List Nat} {vs : List V} {σ : L2.St}, j ∉ js → (setS σ js vs)[j]? = σ[j]?
  | [], _, _, _ => by unfold setS; rfl
  | _ :: _, [], _, _ => rfl
  | k :: js, v :: vs, σ, h => by
    have h1 : j ≠ k := fun e => h (by simp [e])
    have h2 : j ∉ js := fun e => h (by simp [e])
    show (setS (σ.set k (some v)) js vs)[j]? = _
    rw [setS_out h2, List.getElem?_set_ne (Ne.symm h1)]
theorem setS_len : ∀ {js : List Nat} {vs : List V} {σ : L2.St}, (setS σ js vs).length = σ.length
  | [], _, _ => by unfold setS; rfl
  | _ :: _, [], _ => rfl
  | k :: js, v :: vs, σ => by
    show (setS (σ.set k (some v)) js vs).length = _
    rw [setS_len, List.length_set]
theorem wipe_setS {σ : L2.St} {js ws : List Nat} {vs : List V} (h : ∀ j ∈ js, j ∈ ws) : L2.wipe (setS (L2.wipe σ ws) js vs) ws = L2.wipe σ ws := by
  apply List.ext_getElem?
  intro i
  by_cases hi : i ∈ ws
  · rw [wipe_in hi, wipe_in hi, setS_len, wipe_length]
  · rw [wipe_out hi, setS_out (fun z => hi (h i z)), wipe_out hi]
def gather {α β : Type} (f : α → Option (List β)) : List α → Option (List β)
  | [] => some []
  | x :: xs => match f x, gather f xs with
    | some a, some b => some (a ++ b)
    | _, _ => none
theorem gather_cons {α β : Type} {f : α → Option (List β)} {x : α} {xs : List α} {rs : List β} (h : gather f (x :: xs) = some rs) : ∃ a b, f x = some a ∧ gather f xs = some b ∧ rs = a ++ b := by
  unfold gather at h
  split at h
  · rename_i a b e1 e2; cases h; exact ⟨a, b, e1, e2, rfl⟩
  · cases h
def nrm : R → R
  | .vw x => if imm x = true then .sh x else .vw x
  | r => r
def noVw : R → Bool
  | .vw _ => false
  | _ => true
/-- one turn: nothing, or one result -/
def lcTurn (s : Bool) (g : MG) (mt : MT) (me : ME) (ρ : Env) : D → Option (List R) := fun d => match g s d ρ with
  | some ρ' => match mt ρ' with
    | some true => (me ρ').map fun r => [nrm r]
    | some false => some []
    | none => none
  | none => none
def isSh : R → Bool
  | .sh _ => true
  | _ => false
/-- a list of results as one new list: of trees, or of what stays -/
def lcRes (rs : List R) : Option R := if rs.all noVw = true then (match trees rs with
  | some ss => some (.tr (.own ss))
  | none => if rs.all isSh = true then some (.sh (.lst (rs.map R.data))) else none) else none
def isDead : Option Sl → Bool
  | some .dead => true
  | _ => false
def mLc (mi : MI) (g : MG) (mt : MT) (me : ME) (vs : List Nat) : ME := fun ρ => match mi ρ with
  | some (s, items) => if items.length ≤ 100000 ∧ vs.all (fun i => isDead ρ[i]?) = true then (match gather (lcTurn s g mt me ρ) items with
    | some rs => lcRes rs
    | none => none) else none
  | none => none
def mYes : MT := fun _ => some true
structure XTs (X : Cx) (ifs : List Expr) (m : MT) : Prop where
  sim : ∃ t, PTs X ifs t ∧ SimT X.K t m
theorem xts_nil {X : Cx} : XTs X [] mYes := ⟨_, pts_nil, fun G H σ ρ fp b Q R hm q => by cases hm; exact q H (Evl.Ex.refl H)⟩
theorem xts_one {X : Cx} {c : Expr} {t : MT} (h : XT X c t) : XTs X [c] t := let ⟨_, p, s⟩ := h.sim; ⟨_, pts_one p, s⟩
theorem isDead_of {o : Option Sl} (h : isDead o = true) : o = some .dead := by
  cases o with
  | none => cases h
  | some s => cases s <;> first | rfl | cases h
theorem RelF.wipeD {K : PySem.W.Frag} {G H : Hp} {σ : L2.St} {ρ : Env} {fp : Nat → List Addr} {vs : List Nat} (R : RelF K G H σ ρ fp) (h : ∀ i ∈ vs, ρ[i]? = some .dead) : RelF K G H (L2.wipe σ vs) ρ fp where
  len := by rw [wipe_length]; exact R.len
  ex := R.ex
  dj := R.dj
  new := R.new
  ls := R.ls
  sl := fun i s e => by
    by_cases hi : i ∈ vs
    · have z := h i hi
      rw [e] at z; cases z
      exact R.sl i _ e
    · rw [wipe_out hi]; exact R.sl i s e
theorem AOk.append {K : PySem.W.Frag} {H H1 : Hp} {fp : Nat → List Addr} : ∀ {rs ts : List R} {vs ws : List V} {F G : List Addr}, AOk K H H1 fp rs vs F → AOk K H H1 fp ts ws G → (∀ a, a ∈ F → a ∉ G) → AOk K H H1 fp (rs ++ ts) (vs ++ ws) (F ++ G)
  | _, _, _, _, _, _, .nil, h, _ => h
  | _, _, _, _, _, G, .cons (F1 := F1) (F2 := F2) h t n, h2, dj => by
    have e : F1 ++ F2 ++ G = F1 ++ (F2 ++ G) := List.append_assoc _ _ _
    rw [e]
    refine .cons h (AOk.append t h2 fun a m => dj a (List.mem_append_right _ m)) fun a m z => ?_
    rcases List.mem_append.mp z with z | z
    · exact n a m z
    · exact dj a (List.mem_append_left _ m) z
theorem stb_upd {H : Hp} {D : Addr} {xs ys : List V} (h : H D = some (.lst xs)) : Ex (stb H) (stb (upd H D (.lst ys))) := fun a o e => by
  have n : a ≠ D := fun z => by
    subst z
    unfold stb at e; rw [h] at e; cases e
  unfold stb at e ⊢
  rw [upd_ne n]; exact e
theorem ROk.updD {K : PySem.W.Frag} {H0 H : Hp} {fp : Nat → List Addr} {v : V} {F : List Addr} {r : R} {D : Addr} {xs ys : List V} {n : Nat} (hn : D ∈ fp n) (h : H D = some (.lst xs)) (o : ROk K H0 H fp v F r) (nv : noVw r = true) (f : D ∉ F) : ROk K H0 (upd H D (.lst ys)) fp v F r := by
  cases r with
  | vw x => cases nv
  | sh x =>
    refine ⟨o.1, o.2.mono fun a u e => ?_⟩
    obtain ⟨n1, e⟩ := hid_some e
    rw [hid_at n1, upd_ne (by rintro rfl; exact n1 n hn)]; exact e
  | tr s => exact ⟨o.1.keep ⟨stb_upd h, fun a m u e => by rw [upd_ne (by rintro rfl; exact f m)]; exact e⟩, o.2⟩
theorem AOk.updD {K : PySem.W.Frag} {H0 H : Hp} {fp : Nat → List Addr} {D : Addr} {xs ys : List V} {n : Nat} (hn : D ∈ fp n) (h : H D = some (.lst xs)) : ∀ {rs : List R} {vs : List V} {F : List Addr}, AOk K H0 H fp rs vs F → rs.all noVw = true → D ∉ F → AOk K H0 (upd H D (.lst ys)) fp rs vs F
  | _, _, _, .nil, _, _ => .nil
  | _, _, _, .cons o t d, nv, f => by
    rw [List.all_cons, Bool.and_eq_true] at nv
    exact .cons (o.updD hn h nv.1 fun m => f (List.mem_append_left _ m)) (t.updD hn h nv.2 fun m => f (List.mem_append_right _ m)) d
theorem ROk.nrm {K : PySem.W.Frag} {H0 H : Hp} {fp : Nat → List Addr} {v : V} {F : List Addr} {r : R} (ls : ∀ i a, a ∈ fp i → ∃ xs, H a = some (mo xs)) (o : ROk K H0 H fp v F r) : ROk K H0 H fp v F (nrm r) := by
  cases r with
  | sh x => exact o
  | tr s => exact o
  | vw x =>
    show ROk K H0 H fp v F (if imm x = true then .sh x else .vw x)
    by_cases i : imm x = true
    · rw [if_pos i]; exact ⟨o.1, imm_hid ls o.2 i⟩
    · rw [if_neg i]; exact o
theorem big_ix (n : Nat) (own : List Nat) : ∃ k, n ≤ k ∧ k ∉ own := by
  refine ⟨n + own.sum + 1, by omega, fun m => ?_⟩
  have : ∀ l : List Nat, n + own.sum + 1 ∈ l → n + own.sum + 1 ≤ l.sum := by
    intro l
    induction l with
    | nil => intro h; cases h
    | cons x xs ih =>
      intro h
      rw [List.sum_cons]
      rcases List.mem_cons.mp h with h | h
      · omega
      · have := ih h; omega
  have := this own m
  omega
theorem gather_take {α β : Type} {f : α → Option (List β)} {xs : List α} {rs : List β} (h : gather f xs = some rs) : ∀ i, ∃ a, gather f (xs.take i) = some a ∧ (∃ b, rs = a ++ b) ∧ ∀ x, xs[i]? = some x → ∃ c, f x = some c ∧ gather f (xs.take (i + 1)) = some (a ++ c) := by
  induction xs generalizing rs with
  | nil => intro i; exact ⟨[], by simp [gather], ⟨rs, rfl⟩, fun x hx => by simp at hx⟩
  | cons y ys ih =>
    obtain ⟨a, b, h1, h2, rfl⟩ := gather_cons h
    intro i
    cases i with
    | zero =>
      refine ⟨[], rfl, ⟨a ++ b, rfl⟩, fun x hx => ?_⟩
      have hx : y = x := by simpa using hx
      subst hx
      exact ⟨a, h1, by simp [gather, h1]⟩
    | succ i =>
      obtain ⟨c, h3, ⟨d, hd⟩, h4⟩ := ih h2 i
      refine ⟨a ++ c, by simp [gather, h1, h3], ⟨d, by rw [hd, List.append_assoc]⟩, fun x hx => ?_⟩
      obtain ⟨e, h5, h6⟩ := h4 x (by simpa using hx)
      exact ⟨e, h5, by rw [List.take_succ_cons]; simp [gather, h1, h6]⟩
theorem gather_len {α β : Type} {f : α → Option (List β)} (hf : ∀ x a, f x = some a → a.length ≤ 1) : ∀ {xs : List α} {rs : List β}, gather f xs = some rs → rs.length ≤ xs.length
  | [], _, h => by cases h; exact Nat.le_refl _
  | x :: xs, _, h => by
    obtain ⟨a, b, h1, h2, rfl⟩ := gather_cons h
    have := hf x a h1
    have := gather_len hf h2
    rw [List.length_append, List.length_cons]
    omega
theorem lcTurn_len {s : Bool} {g : MG} {mt : MT} {me : ME} {ρ : Env} : ∀ d a, lcTurn s g mt me ρ d = some a → a.length ≤ 1 := by
  intro d a h
  unfold lcTurn at h
  split at h
  · split at h
    · rw [Option.map_eq_some_iff] at h
      obtain ⟨r, _, rfl⟩ := h
      simp
    · cases h; simp
    · cases h
  · cases h
theorem AOk.allSh {K : PySem.W.Frag} {H H1 B : Hp} {fp : Nat → List Addr} : ∀ {rs : List R} {vs : List V} {F : List Addr}, AOk K H H1 fp rs vs F → rs.all isSh = true → Ex (hid H1 fp) B → DtL K B vs (rs.map R.data)
  | _, _, _, .nil, _, _ => .nil
  | .sh x :: rs, _, _, .cons h t _, hs, e => .cons (h.2.mono e) (t.allSh (by simpa [isSh] using hs) e)
  | .vw x :: rs, _, _, .cons h t _, hs, e => by simp [isSh] at hs
  | .tr x :: rs, _, _, .cons h t _, hs, e => by simp [isSh] at hs
theorem sim_lc {K : PySem.W.Frag} {wi : TI} {mi : MI} {g : TG} {mg : MG} {tt : TT} {mt : MT} {te : TE} {me : ME} {own vs : List Nat} (hi : SimI K wi mi) (hg : SimG K own g mg) (ht : SimT K tt mt) (he : SimE K te me) (ho : ∀ j ∈ own, j ∈ vs) : SimE K (tLc wi g tt te vs) (mLc mi mg mt me vs) := by
  intro G H σ ρ fp r Q R hm q
  unfold mLc at hm
  split at hm
  rotate_left
  · cases hm
  rename_i s items e1
  split at hm
  rotate_left
  · cases hm
  rename_i hl
  obtain ⟨hlen, hdead⟩ := hl
  split at hm
  rotate_left
  · cases hm
  rename_i rs0 e2
  have hdead : ∀ i ∈ vs, ρ[i]? = some .dead := fun i m => isDead_of (List.all_eq_true.mp hdead i m)
  have nv0 : rs0.all noVw = true := by
    unfold lcRes at hm
    split at hm
    · rename_i h; exact h
    · cases hm
  refine hi G H σ ρ fp s items _ R e1 fun J H1 x1 it => fun D hD => ?_
  have R1 : RelF K G H1 (L2.wipe σ vs) ρ fp := (R.grow x1).wipeD hdead
  obtain ⟨n, hn1, hn2⟩ := big_ix ρ.length own
  have hDf : ∀ i, D ∉ fp i := not_fp R1.ls hD
  have fpD : ∀ i a, a ∈ fp i → a ∈ fset fp n [D] i ∨ i = n := fun i a m => by
    by_cases hj : i = n
    · exact .inr hj
    · rw [fset_ne hj]; exact .inl m
  -- slots beyond the environment hold nothing of their own
  let fp0 : Nat → List Addr := fun i => if i < ρ.length then fp i else []
  have hfp0 : ∀ i a, a ∈ fp0 i → a ∈ fp i := fun i a m => by
    by_cases h : i < ρ.length
    · simpa [fp0, h] using m
    · simp [fp0, h] at m
  have Dn : D ∈ fset fp n (D :: fp n) n := by rw [fset_self]; simp
  have RD : ∀ H', Ex H1 H' → (∃ acc, H' D = some (.lst acc)) → RelF K G H' (L2.wipe σ vs) ρ (fset fp n (D :: fp n)) := fun H' ex hacc => by
    have hx : Ex (hid H1 fp) (hid H' (fset fp n (D :: fp n))) := fun a o e => by
      obtain ⟨n1, e⟩ := hid_some e
      rw [hid_at]
      · exact ex a o e
      · intro j m
        by_cases hj : j = n
        · subst hj; rw [fset_self] at m
          rcases List.mem_cons.mp m with m | m
          · subst m; rw [hD] at e; cases e
          · exact n1 j m
        · rw [fset_ne hj] at m; exact n1 j m
    refine ⟨R1.len, R1.ex.trans ex, fun i j a m1 m2 => ?_, fun i a m => ?_, fun i a m => ?_, fun i s h => ?_⟩
    · by_cases hi : i = n
      · by_cases hj : j = n
        · rw [hi, hj]
        · subst hi; rw [fset_self] at m1; rw [fset_ne hj] at m2
          rcases List.mem_cons.mp m1 with m1 | m1
          · subst m1; exact (hDf j m2).elim
          · exact R1.dj _ _ a m1 m2
      · rw [fset_ne hi] at m1
        by_cases hj : j = n
        · subst hj; rw [fset_self] at m2
          rcases List.mem_cons.mp m2 with m2 | m2
          · subst m2; exact (hDf i m1).elim
          · exact R1.dj _ _ a m1 m2
        · rw [fset_ne hj] at m2; exact R1.dj _ _ a m1 m2
    · by_cases hi : i = n
      · subst hi; rw [fset_self] at m
        rcases List.mem_cons.mp m with m | m
        · subst m; exact Evl.fresh_back R1.ex hD
        · exact R1.new i a m
      · rw [fset_ne hi] at m; exact R1.new i a m
    · by_cases hi : i = n
      · subst hi; rw [fset_self] at m
        rcases List.mem_cons.mp m with m | m
        · subst m; obtain ⟨acc, hacc⟩ := hacc; exact mo_l hacc
        · obtain ⟨xs, e⟩ := R1.ls i a m; exact ⟨xs, ex _ _ e⟩
      · rw [fset_ne hi] at m; obtain ⟨xs, e⟩ := R1.ls i a m; exact ⟨xs, ex _ _ e⟩
    · have hne : i ≠ n := by
        have := (List.getElem?_eq_some_iff.mp h).1
        omega
      rw [fset_ne hne]
      have q := R1.sl i s h
      cases s with
      | dead => exact q
      | ad a => exact q
      | dc m => obtain ⟨a, q1, q2, q3⟩ := q; exact ⟨a, q1, q2, ex _ _ q3⟩
      | sh x => obtain ⟨q0, v, q1, q2⟩ := q; exact ⟨q0, v, q1, q2.mono hx⟩
      | fz w x => obtain ⟨q0, q1, q2⟩ := q; exact ⟨q0, q1, q2.mono hx⟩
      | vw x => obtain ⟨q0, v, q1, q2⟩ := q; exact ⟨q0, v, q1, q2.mono ex⟩
      | tr s => obtain ⟨v, q1, q2⟩ := q; exact ⟨v, q1, q2.mono ex⟩
  let Pv : Nat → Hp → Prop := fun i H' => ∃ acc rs F, gather (lcTurn s mg mt me ρ) (items.take i) = some rs ∧ H' D = some (.lst acc) ∧ Ex H1 H' ∧ AOk K H1 H' (fset fp n (D :: fp n)) rs acc F ∧ D ∉ F
  refine ⟨fun i m H' => m = items.length - i ∧ i ≤ items.length ∧ Pv i H', ⟨items.length, by simp, Nat.zero_le _, [], [], [], rfl, upd_same, Evl.Ex.new hD, .nil, fun m => by cases m⟩, ?_⟩
  rintro i m H' ⟨rfl, hile, acc, rs, F, hga, hacc, hex, hok, hDF⟩
  have hB : Ex (wallOf s H1 fp) H' := by
    cases s with
    | true => rw [wall_t]; exact hid_ex.trans hex
    | false => rw [wall_f]; exact hex
  obtain ⟨itgo, itstop⟩ := it i H' hB
  obtain ⟨ra, hra, ⟨rb, hrb⟩, hnext⟩ := gather_take e2 i
  rw [hga] at hra; cases hra
  by_cases hlt : i < items.length
  · right
    obtain ⟨d, hd⟩ : ∃ d, items[i]? = some d := ⟨items[i], by simp [hlt]⟩
    obtain ⟨c, hc, hnx⟩ := hnext d hd
    obtain ⟨hgo, hyld⟩ := itgo d hd
    refine ⟨hgo, fun H'' => Pv (i + 1) H'', fun H'' p => ⟨_, by omega, rfl, by omega, p⟩, fun x H2 hy => ?_⟩
    obtain ⟨x2, hdt⟩ := hyld x H2 hy
    have R2 : RelF K G H2 (L2.wipe σ vs) ρ (fset fp n (D :: fp n)) := (RD H' hex ⟨acc, hacc⟩).grow x2
    have hw : Dt K (wallOf s H2 (fset fp n (D :: fp n))) x d := by
      refine hdt _ ?_ ?_
      · cases s with
        | true =>
          rw [wall_t, wall_t]
          refine fun a o e => ?_
          obtain ⟨n1, e⟩ := hid_some e
          rw [hid_at]
          · exact x2 _ _ (hex _ _ e)
          · intro j m
            by_cases hj : j = n
            · subst hj; rw [fset_self] at m
              rcases List.mem_cons.mp m with m | m
              · subst m; rw [hD] at e; cases e
              · exact n1 j m
            · rw [fset_ne hj] at m; exact n1 j m
        | false => rw [wall_f, wall_f]; exact hex.trans x2
      · cases s with
        | true => rw [wall_t]; exact stb_hid R2.ls
        | false => rw [wall_f]; exact stb_ex
    unfold lcTurn at hc
    split at hc
    rotate_left
    · cases hc
    rename_i ρ2 e3
    refine hg G H2 (L2.wipe σ vs) ρ _ s d x ρ2 _ R2 hw e3 fun ws fp2 R3 hfp2 => ⟨wipe_setS ho, ?_⟩
    have hfpn : fp2 n = D :: fp n := (hfp2 n hn2).trans fset_self
    have hsub : ∀ i a, a ∈ fset fp n (D :: fp n) i → a ∈ fp2 i := fun i a m => by
      by_cases hi : i ∈ own
      · have hdd := hdead i (ho i hi)
        have hne : i ≠ n := fun z => hn2 (z ▸ hi)
        rw [fset_ne hne] at m
        have := R1.sl i _ hdd
        have : fp i = [] := this
        rw [this] at m; cases m
      · rw [hfp2 i hi]; exact m
    split at hc
    · rename_i e4
      rw [Option.map_eq_some_iff] at hc
      obtain ⟨rr, e5, rfl⟩ := hc
      refine ht G H2 _ ρ2 fp2 true _ R3 e4 fun H3 x3 => ?_
      rw [if_pos rfl]
      refine he G H3 _ ρ2 fp2 rr _ (R3.grow x3) e5 fun v F2 H4 x4 o4 => ?_
      have x5 : Ex H' H4 := (x2.trans x3).trans x4
      have hacc4 : H4 D = some (.lst acc) := x5 _ _ hacc
      have o5 : ROk K H1 H4 (fset fp n (D :: fp n)) v F2 (nrm rr) := by
        have o6 : ROk K H1 H4 fp2 v F2 (nrm rr) := ROk.back (ROk.nrm (ls_mono R3.ls (x3.trans x4)) o4) ((hex.trans x2).trans x3)
        cases hr : nrm rr with
        | sh x => rw [hr] at o6; exact ⟨o6.1, o6.2.mono (hid_sub hsub)⟩
        | vw x => rw [hr] at o6; exact o6
        | tr s => rw [hr] at o6; exact o6
      have hDF2 : D ∉ F2 := fun m => by
        have := o4.fresh D m
        rw [x3 _ _ (x2 _ _ hacc)] at this; cases this
      have hdj : ∀ a, a ∈ F → a ∉ F2 ++ [] := fun a m1 m2 => by
        obtain ⟨xs, z⟩ := hok.ls a m1
        have := o4.fresh a (by simpa using m2)
        rw [x3 _ _ (x2 _ _ z)] at this; cases this
      have nvall : (rs ++ [nrm rr]).all noVw = true := by
        obtain ⟨ra2, hra2, ⟨rb2, hrb2⟩, _⟩ := gather_take e2 (i + 1)
        rw [hnx] at hra2; cases hra2
        rw [hrb2, List.all_append, Bool.and_eq_true] at nv0
        exact nv0.1
      have o7 : AOk K H1 H4 (fset fp n (D :: fp n)) (rs ++ [nrm rr]) (acc ++ [v]) (F ++ (F2 ++ [])) := (hok.mono x5).append (.cons o5 .nil fun _ _ m => by cases m) hdj
      refine ⟨acc, hacc4, ?_, acc ++ [v], rs ++ [nrm rr], F ++ (F2 ++ []), hnx, upd_same, ?_, o7.updD Dn hacc4 nvall fun m => ?_, fun m => ?_⟩
      · have h1 := hok.len
        have h2 := gather_len lcTurn_len hga
        rw [List.length_take] at h2
        exact Evl.sz_lt (by omega)
      · exact fun a o e => by
          rw [upd_ne fun z => by subst z; rw [hD] at e; cases e]
          exact (hex.trans x5) a o e
      · rcases List.mem_append.mp m with m | m
        · exact hDF m
        · exact hDF2 (by simpa using m)
      · rcases List.mem_append.mp m with m | m
        · exact hDF m
        · exact hDF2 (by simpa using m)
    · rename_i e4
      cases hc
      refine ht G H2 _ ρ2 fp2 false _ R3 e4 fun H3 x3 => ?_
      rw [if_neg Bool.false_ne_true]
      rw [List.append_nil] at hnx
      exact ⟨acc, rs, F, hnx, x3 _ _ (x2 _ _ hacc), hex.trans (x2.trans x3), hok.mono (x2.trans x3), hDF⟩
    · cases hc
  · left
    have hie : i = items.length := by omega
    refine ⟨itstop (by omega), ?_⟩
    subst hie
    rw [List.take_length, e2] at hga
    cases hga
    unfold lcRes at hm
    rw [if_pos nv0] at hm
    split at hm
    · rename_i ss e6; cases hm
      refine q _ (D :: F) H' (x1.trans hex) ⟨.own hacc (hok.trees e6) hDF, fun a m => ?_⟩
      rcases List.mem_cons.mp m with e | m
      · subst e; exact Evl.fresh_back x1 hD
      · exact Evl.fresh_back x1 (hok.fresh a m)
    · split at hm
      · rename_i hsh; cases hm
        refine q _ [] H' (x1.trans hex) ⟨rfl, .lst ((hid_at hDf).trans hacc) ?_⟩
        exact hok.allSh hsh (hid_sub fun j a m => by
          by_cases hj : j = n
          · subst hj; rw [fset_self]; exact List.mem_cons_of_mem _ m
          · rw [fset_ne hj]; exact m)
      · cases hm
/-! one reading for all contexts -/
def canE (K : PySem.W.Frag) (m : ME) : TE := fun σ H Q => ∃ G ρ fp r, RelF K G H σ ρ fp ∧ m ρ = some r ∧ ∀ v F H', Ex H H' → ROk K H H' fp v F r → Q v H'
def canT (K : PySem.W.Frag) (m : MT) : TT := fun σ H Q => ∃ G ρ fp b, RelF K G H σ ρ fp ∧ m ρ = some b ∧ ∀ H', Ex H H' → Q b H'
def canG (K : PySem.W.Frag) (own : List Nat) (m : MG) : TG := fun v σ H Q => ∃ G ρ fp s d ρ', RelF K G H σ ρ fp ∧ Dt K (wallOf s H fp) v d ∧ m s d ρ = some ρ' ∧ ∀ vs fp', RelF K G H (setS σ own vs) ρ' fp' → (∀ j, j ∉ own → fp' j = fp j) → Q (setS σ own vs) H
theorem sim_canE {K : PySem.W.Frag} {m : ME} : SimE K (canE K m) m := fun G H σ ρ fp r Q R hm q => ⟨G, ρ, fp, r, R, hm, q⟩
theorem sim_canT {K : PySem.W.Frag} {m : MT} : SimT K (canT K m) m := fun G H σ ρ fp b Q R hm q => ⟨G, ρ, fp, b, R, hm, q⟩
theorem sim_canG {K : PySem.W.Frag} {own : List Nat} {m : MG} : SimG K own (canG K own m) m := fun G H σ ρ fp s d v ρ' Q R h hm q => ⟨G, ρ, fp, s, d, ρ', R, h, hm, q⟩
theorem XE.can {X : Cx} {e : Expr} {m : ME} (h : XE X e m) : PE X e (canE X.K m) := by
  obtain ⟨t, p, s⟩ := h
  exact ⟨fun pins s' σ H Q I ⟨G, ρ, fp, r, R, hm, q⟩ => p.run pins s' σ H Q I (s G H σ ρ fp r Q R hm q)⟩
theorem XT.can {X : Cx} {e : Expr} {m : MT} (h : XT X e m) : PT X e (canT X.K m) := by
  obtain ⟨t, p, s⟩ := h
  exact ⟨fun pins s' σ H Q I ⟨G, ρ, fp, r, R, hm, q⟩ => p.run pins s' σ H Q I (s G H σ ρ fp r Q R hm q)⟩
theorem XTs.can {X : Cx} {es : List Expr} {m : MT} (h : XTs X es m) : PTs X es (canT X.K m) := by
  obtain ⟨t, p, s⟩ := h
  exact ⟨fun pins s' σ H Q I ⟨G, ρ, fp, r, R, hm, q⟩ => p.run pins s' σ H Q I (s G H σ ρ fp r Q R hm q)⟩
theorem XG.can {X : Cx} {tg : Expr} {own : List Nat} {m : MG} (h : XG X tg own m) : PG X tg (canG X.K own m) := by
  obtain ⟨t, p, s⟩ := h
  exact ⟨fun pins s' σ H v u Q I rv ⟨G, ρ, fp, sh, d, ρ', R, hd, hm, q⟩ => p.run pins s' σ H v u Q I rv (s G H σ ρ fp sh d v ρ' Q R hd hm q)⟩
section
variable {X : Cx} {elt tg iter : Expr} {ifs : List Expr} {scope : Scope} {own : List (Str × Nat)} {pos : Pos} {mi : MI} {g : MG} {mt : MT} {me : ME} {ow : List Nat}
theorem x_lc (hc : X.calm = true) (hN : X.N.Nodup) (hi : XI X tg iter mi) (ok : BlkOk X.N X.env.scope scope own) (ho : ∀ j ∈ ow, j ∈ own.map (·.2))
    (hg : ∀ (s : Shared) (H : Hp) (C : Addr) (cl : List (Str × Addr)) (fp : List Addr), XG (X.blk s H scope (compEnvC scope cl C X.env) fp) tg ow g)
    (ht : ∀ (s : Shared) (H : Hp) (C : Addr) (cl : List (Str × Addr)) (fp : List Addr), XTs (X.blk s H scope (compEnvC scope cl C X.env) fp) ifs mt)
    (he : ∀ (s : Shared) (H : Hp) (C : Addr) (cl : List (Str × Addr)) (fp : List Addr), XE (X.blk s H scope (compEnvC scope cl C X.env) fp) elt me)
    (hs : ∀ x, foldedSetIterable iter X.env x = pure x := by intro _; rfl) : XE X (.ListComp elt [⟨tg, iter, ifs, 0⟩] scope pos) (mLc mi g mt me (own.map (·.2))) := by
  obtain ⟨wi, p, s⟩ := hi
  exact ⟨_, pe_lc hc hN p ok (fun s H C cl fp => (hg s H C cl fp).can) (fun s H C cl fp => (ht s H C cl fp).can) (fun s H C cl fp => (he s H C cl fp).can) hs, sim_lc s sim_canG sim_canT sim_canE ho⟩
end
end DL

set_option Elab.async false
set_option linter.all false
set_option maxRecDepth 100000
set_option maxHeartbeats 4000000
/-! Statements, defs. -/
namespace DL
open PySem PySem.Spec PyProof.Rows L2
open Evl (Ex)

inductive Out where
  | nx (ρ : Env)
  | rt (s : S)
  | bk (ρ : Env)
  | ct (ρ : Env)
  | ex (C : Addr)
abbrev MS := Env → Option Out
def OutOk (K : PySem.W.Frag) (G : Hp) (W : XK) (D : Ends) : Out → Prop
  | .nx ρ => ∀ σ H fp, RelF K G H σ ρ fp → D.nx σ H
  | .bk ρ => ∀ σ H fp, RelF K G H σ ρ fp → D.bk σ H
  | .ct ρ => ∀ σ H fp, RelF K G H σ ρ fp → D.ct σ H
  | .rt s => ∀ v F H, Ex G H → Rep K H s v F → (∀ a ∈ F, G a = none) → D.rt v H
  | .ex C => ∀ H, Ex G H → W (.ref C) none H
def SimS (K : PySem.W.Frag) (W : XK) (t : TS) (m : MS) : Prop := ∀ G H σ ρ fp o D, RelF K G H σ ρ fp → m ρ = some o → OutOk K G W D o → t D σ H
structure XS (X : Cx) (W : XK) (st : Stmt) (m : MS) : Prop where
  sim : ∃ t, PS X st t ∧ SimS X.K W t m
structure XSs (X : Cx) (W : XK) (st : List Stmt) (m : MS) : Prop where
  sim : ∃ t, PSs X st t ∧ SimS X.K W t m
def mNext : MS := fun ρ => some (.nx ρ)
def mSeq (m1 m2 : MS) : MS := fun ρ => match m1 ρ with
  | some (.nx ρ') => m2 ρ'
  | o => o
/-- a wall in the place of the ground -/
theorem RelF.wall {K : PySem.W.Frag} {G B H : Hp} {σ : L2.St} {ρ : Env} {fp : Nat → List Addr} (R : RelF K B H σ ρ fp) (e : Ex G B) : RelF K G H σ ρ fp :=
  ⟨R.len, e.trans R.ex, R.dj, fun i a m => Evl.fresh_back e (R.new i a m), R.ls, R.sl⟩
theorem RelF.toWall {K : PySem.W.Frag} {G H : Hp} {σ : L2.St} {ρ : Env} {fp : Nat → List Addr} (R : RelF K G H σ ρ fp) : RelF K (hid H fp) H σ ρ fp ∧ Ex G (hid H fp) := by
  refine ⟨⟨R.len, hid_ex, R.dj, fun i a m => ?_, R.ls, R.sl⟩, fun a o e => ?_⟩
  · cases h : hid H fp a with
    | none => rfl
    | some o => exact ((hid_some h).1 i m).elim
  · rw [hid_at]
    · exact R.ex a o e
    · intro i m; rw [R.new i a m] at e; cases e
theorem OutOk.wall {K : PySem.W.Frag} {G B : Hp} {W : XK} {D : Ends} {o : Out} (e : Ex G B) (h : OutOk K G W D o) : OutOk K B W D o := by
  cases o with
  | nx ρ => exact fun σ H fp R => h σ H fp (R.wall e)
  | bk ρ => exact fun σ H fp R => h σ H fp (R.wall e)
  | ct ρ => exact fun σ H fp R => h σ H fp (R.wall e)
  | rt s => exact fun v F H x r f => h v F H (e.trans x) r fun a m => Evl.fresh_back e (f a m)
  | ex C => exact fun H x => h H (e.trans x)
section
variable {X : Cx} {W : XK} {st : Stmt} {rest : List Stmt} {m m1 m2 : MS} {e a b : Expr} {es : List Expr} {ma me : ME} {mt : MT} {ms : MA} {mi : MI} {pos : Pos} {x : Str}
theorem xss_nil : XSs X W [] mNext := ⟨_, pss_nil, fun G H σ ρ fp o D R hm q => by cases hm; exact q σ H fp R⟩
theorem xss_cons (h1 : XS X W st m1) (h2 : XSs X W rest m2) : XSs X W (st :: rest) (mSeq m1 m2) := by
  obtain ⟨t, p, s⟩ := h1
  obtain ⟨u, p2, s2⟩ := h2
  refine ⟨_, pss_cons p p2, fun G H σ ρ fp o D R hm q => ?_⟩
  unfold mSeq at hm
  split at hm
  · rename_i ρ' e1
    exact s G H σ ρ fp _ { D with nx := u D } R e1 fun σ' H' fp' R' => s2 G H' σ' ρ' fp' o D R' hm q
  · rename_i o' hne
    refine s G H σ ρ fp o { D with nx := u D } R hm ?_
    cases o with
    | nx ρ' => exact (hne ρ' hm).elim
    | rt s => exact q
    | bk ρ => exact q
    | ct ρ => exact q
    | ex C => exact q
theorem xss_one (h : XS X W st m) : XSs X W [st] m := by
  obtain ⟨t, p, s⟩ := h
  exact ⟨_, pss_one p, s⟩
/-- slots that are not asked again -/
def mKill (ks : List Nat) (m : MS) : MS := fun ρ => m (killE ks ρ)
theorem xss_kill (ks : List Nat) (h : XSs X W rest m) : XSs X W rest (mKill ks m) := by
  obtain ⟨t, p, s⟩ := h
  refine ⟨_, p, fun G H σ ρ fp o D R hm q => ?_⟩
  obtain ⟨fp', R'⟩ := R.kill ks
  exact s G H σ _ fp' o D R' hm q
theorem xs_pass : XS X W (.Pass pos) mNext := ⟨_, ps_pass, fun G H σ ρ fp o D R hm q => by cases hm; exact q σ H fp R⟩
theorem xs_break : XS X W (.Break pos) (fun ρ => some (.bk ρ)) := ⟨_, ps_break, fun G H σ ρ fp o D R hm q => by cases hm; exact q σ H fp R⟩
theorem xs_continue : XS X W (.Continue pos) (fun ρ => some (.ct ρ)) := ⟨_, ps_continue, fun G H σ ρ fp o D R hm q => by cases hm; exact q σ H fp R⟩
theorem xs_doc {s : Str} {j p p' : _} : XS X W (.Expr (.Constant (.str s) j p) p') mNext := ⟨_, ps_doc, fun G H σ ρ fp o D R hm q => by cases hm; exact q σ H fp R⟩
/-- name = e -/
def mSet (i : Nat) (m : ME) : MS := fun ρ => (m ρ).map fun r => .nx (ρ.set i r.slot)
theorem sim_set {K : PySem.W.Frag} {te : TE} {i : Nat} (s : SimE K te ma) : SimS K W (tAsg te (gName i)) (mSet i ma) := fun G H σ ρ fp o D R hm q => by
  unfold mSet at hm
  rw [Option.map_eq_some_iff] at hm
  obtain ⟨r, h1, rfl⟩ := hm
  exact s G H σ ρ fp r _ R h1 fun v F H1 x1 o1 => q _ H1 _ (R.set x1 o1)
theorem xs_set {i : Nat} {pos' : Pos} (hN : X.N.Nodup) (hi : X.N[i]? = some x) (hx : Loc X.env.scope x) (he : XE X e ma) (hs : swapsWith e (some (.Name x pos')) pos.line X.env = pure false := by rfl) (hf : X.fn x = true ∨ X.env.scope.names.lookup x = some .local := by first | exact .inl rfl | exact .inr rfl | assumption) :
    XS X W (.Assign [.Name x pos'] e pos) (mSet i ma) := by
  obtain ⟨t, p, s⟩ := he
  exact ⟨_, ps_set hN hi hx p hs hf, sim_set s⟩
/-- name = [..] in one row -/
theorem xs_setLc {i : Nat} {py : Pos} {elt tg iter : Expr} {ifs : List Expr} {scope : Scope} {own : List (Str × Nat)} {spos : Pos} {g : MG} {ow : List Nat} (hc : X.calm = true) (hN : X.N.Nodup) (hy : X.N[i]? = some x) (hyl : X.env.scope.names.lookup x = some .local)
    (hsw : swapsWith (.ListComp elt [⟨tg, iter, ifs, 0⟩] scope pos) (some (.Name x py)) spos.line X.env = pure true) (hi : XI X tg iter mi) (ok : BlkOk X.N X.env.scope scope own) (ho : ∀ j ∈ ow, j ∈ own.map (·.2))
    (hg : ∀ (s : Shared) (H : Hp) (C : Addr) (cl : List (Str × Addr)) (fp : List Addr), XG (X.blk s H scope (compEnvC scope cl C X.env) fp) tg ow g)
    (ht : ∀ (s : Shared) (H : Hp) (C : Addr) (cl : List (Str × Addr)) (fp : List Addr), XTs (X.blk s H scope (compEnvC scope cl C X.env) fp) ifs mt)
    (he : ∀ (s : Shared) (H : Hp) (C : Addr) (cl : List (Str × Addr)) (fp : List Addr), XE (X.blk s H scope (compEnvC scope cl C X.env) fp) elt me)
    (hs : ∀ x, foldedSetIterable iter X.env x = pure x := by intro _; rfl) : XS X W (.Assign [.Name x py] (.ListComp elt [⟨tg, iter, ifs, 0⟩] scope pos) spos) (mSet i (mLc mi g mt me (own.map (·.2)))) := by
  obtain ⟨wi, p, s⟩ := hi
  exact ⟨_, ps_setLc hc hN hy hyl hsw p ok (fun s H C cl fp => (hg s H C cl fp).can) (fun s H C cl fp => (ht s H C cl fp).can) (fun s H C cl fp => (he s H C cl fp).can) hs, sim_set (sim_lc s sim_canG sim_canT sim_canE ho)⟩
/-- a, b = e, e a tuple -/
def mSetT (g : MG) (m : ME) : MS := fun ρ => match m ρ with
  | some r => (g r.fixed r.data ρ).map .nx
  | none => none
theorem xs_setT {tg : Expr} {g : MG} {ow : List Nat} (he : XE X e ma) (hg : XG X tg ow g) (hs : swapsWithSole [tg] e pos.line X.env = pure false := by rfl) (hw : swappedStores [tg] e X.env = pure none := by rfl)
    (h1 : (assignEach [tg] X.env).map (·.2) = [assign tg X.env] := by rfl) : XS X W (.Assign [tg] e pos) (mSetT g ma) := by
  obtain ⟨t, p, s⟩ := he
  obtain ⟨gt, pg, sg⟩ := hg
  refine ⟨_, ps_asg p pg hs hw h1, fun G H σ ρ fp o D R hm q => ?_⟩
  unfold mSetT at hm
  split at hm
  · rename_i r e1
    rw [Option.map_eq_some_iff] at hm
    obtain ⟨ρ', e2, rfl⟩ := hm
    refine s G H σ ρ fp r _ R e1 fun v F H1 x1 o1 => ?_
    exact sg G H1 σ ρ fp r.fixed r.data v ρ' _ (R.grow x1) (ROk.wall R.ls x1 o1) e2 fun vs fp' R' _ => q _ H1 fp' R'
  · cases hm
/-- return e -/
def mRet (m : ME) : MS := fun ρ => match m ρ with
  | some r => r.tree.map .rt
  | none => none
theorem xs_ret (he : XE X e ma) : XS X W (.Return (some e) pos) (mRet ma) := by
  obtain ⟨t, p, s⟩ := he
  refine ⟨_, ps_ret p, fun G H σ ρ fp o D R hm q => ?_⟩
  unfold mRet at hm
  split at hm
  · rename_i r e1
    rw [Option.map_eq_some_iff] at hm
    obtain ⟨s', e2, rfl⟩ := hm
    refine s G H σ ρ fp r _ R e1 fun v F H1 x1 o1 => ?_
    exact q v F H1 (R.ex.trans x1) (o1.tree e2) fun a m => Evl.fresh_back R.ex (o1.fresh a m)
  · cases hm
/-- return of a name: what it owns goes with it -/
def mRetV (i : Nat) : MS := fun ρ => match ρ[i]? with
  | some (.tr s) => some (.rt s)
  | some (.sh x) => if imm x = true then some (.rt (.d x)) else none
  | some (.vw x) => if imm x = true then some (.rt (.d x)) else none
  | _ => none
theorem xs_retV (i : Nat) {p : Pos} (hN : X.N[i]? = some x := by rfl) (hv : Vis X.env.scope x := by first | exact Or.inl rfl | exact Or.inr (Or.inl rfl) | exact Or.inr (Or.inr rfl)) (hd : (x == ("__debug__" : Str)) = false := by decide)
    (hcd : (x == ("__classdict__" : Str)) = false := by decide) : XS X W (.Return (some (.Name x p)) pos) (mRetV i) := by
  refine ⟨_, ps_ret (pe_var hN hv hd hcd), fun G H σ ρ fp o D R hm q => ?_⟩
  unfold mRetV at hm
  split at hm
  · rename_i s hs; cases hm
    obtain ⟨v, h1, h2⟩ := R.sl i _ hs
    exact ⟨v, h1, q v (fp i) H R.ex h2 fun a m => R.new i a m⟩
  · rename_i d hs
    split at hm
    · rename_i im; cases hm
      obtain ⟨_, v, h1, h2⟩ := R.sl i _ hs
      exact ⟨v, h1, q v [] H R.ex (.d ((h2.mono hid_ex).stb im)) fun a m => by cases m⟩
    · cases hm
  · rename_i d hs
    split at hm
    · rename_i im; cases hm
      obtain ⟨_, v, h1, h2⟩ := R.sl i _ hs
      exact ⟨v, h1, q v [] H R.ex (.d (h2.stb im)) fun a m => by cases m⟩
    · cases hm
  · cases hm
theorem xs_retN : XS X W (.Return none pos) (fun _ => some (.rt (.d .non))) := ⟨_, ps_retN, fun G H σ ρ fp o D R hm q => by cases hm; exact q .non [] H R.ex (.d .non) fun a m => by cases m⟩
/-- if -/
def mIfS (t : MT) (a b : MS) : MS := fun ρ => match t ρ with
  | some true => a ρ
  | some false => b ρ
  | none => none
theorem xs_if {c : Expr} {l1 l2 : List Stmt} (hc : XT X c mt) (h1 : XSs X W l1 m1) (h2 : XSs X W l2 m2) : XS X W (.If c l1 l2 pos) (mIfS mt m1 m2) := by
  obtain ⟨tc, p0, s0⟩ := hc
  obtain ⟨t, p, s⟩ := h1
  obtain ⟨u, p2, s2⟩ := h2
  refine ⟨_, ps_if p0 p p2, fun G H σ ρ fp o D R hm q => ?_⟩
  unfold mIfS at hm
  split at hm
  · rename_i e1
    refine s0 G H σ ρ fp true _ R e1 fun H1 x1 => ?_
    rw [if_pos rfl]
    exact s G H1 σ ρ fp o D (R.grow x1) hm q
  · rename_i e1
    refine s0 G H σ ρ fp false _ R e1 fun H1 x1 => ?_
    rw [if_neg Bool.false_ne_true]
    exact s2 G H1 σ ρ fp o D (R.grow x1) hm q
  · cases hm
/-- for -/
def forGo (s : Bool) (g : MG) (body : MS) (ks : List Nat) : List D → MS
  | [], ρ => some (.nx ρ)
  | d :: ds, ρ => match g s d ρ with
    | some ρ1 => match body ρ1 with
      | some (.nx ρ2) => forGo s g body ks ds (killE ks ρ2)
      | some (.ct ρ2) => forGo s g body ks ds (killE ks ρ2)
      | some (.bk ρ2) => some (.nx ρ2)
      | o => o
    | none => none
def mFor (mi : MI) (g : MG) (body : MS) (ks : List Nat) : MS := fun ρ => match mi ρ with
  | some (true, items) => forGo true g body ks items ρ
  | _ => none
theorem sim_for {K : PySem.W.Frag} {wi : TI} {g : TG} {mg : MG} {tb : TS} {own : List Nat} (hi : SimI K wi mi) (hg : SimG K own g mg) (hb : SimS K W tb m) (ks : List Nat) : SimS K W (tFor wi g tb) (mFor mi mg m ks) := by
  intro G H σ ρ fp o D R hm q
  unfold mFor at hm
  split at hm
  rotate_left
  · cases hm
  rename_i items e1
  refine hi G H σ ρ fp true items _ R e1 fun J H1 x1 it => ?_
  obtain ⟨RB, eB⟩ := (R.grow x1).toWall
  have qB := q.wall eB
  rw [wall_t] at it
  refine ⟨fun i mm σ' H' => mm = items.length - i ∧ i ≤ items.length ∧ ∃ ρ' fp', RelF K (hid H1 fp) H' σ' ρ' fp' ∧ forGo true mg m ks (items.drop i) ρ' = some o, ⟨items.length, by simp, Nat.zero_le _, ρ, fp, RB, by simpa using hm⟩, ?_⟩
  rintro i mm σ' H' ⟨rfl, hile, ρ', fp', R', hgo⟩
  obtain ⟨itgo, itstop⟩ := it i H' R'.ex
  by_cases hlt : i < items.length
  · right
    obtain ⟨d, hd⟩ : ∃ d, items[i]? = some d := ⟨items[i], by simp [hlt]⟩
    have hdrop : items.drop i = d :: items.drop (i + 1) := by
      rw [List.drop_eq_getElem_cons hlt]
      rw [List.getElem?_eq_getElem hlt] at hd
      cases hd; rfl
    rw [hdrop] at hgo
    obtain ⟨hj, hyld⟩ := itgo d hd
    refine ⟨hj, fun σ2 H2 => ∃ ρ2 fp2, RelF K (hid H1 fp) H2 σ2 ρ2 fp2 ∧ forGo true mg m ks (items.drop (i + 1)) ρ2 = some o, fun σ2 H2 p => ⟨_, by omega, rfl, by omega, p⟩, fun x H2 hy => ?_⟩
    obtain ⟨x2, hdt⟩ := hyld x H2 hy
    have R2 := R'.grow x2
    have hw : Dt K (wallOf true H2 fp') x d := by
      rw [wall_t]
      refine hdt _ ?_ (stb_hid R2.ls)
      exact R2.toWall.2
    unfold forGo at hgo
    split at hgo
    rotate_left
    · cases hgo
    rename_i ρ1 e3
    refine hg _ H2 σ' ρ' fp' true d x ρ1 _ R2 hw e3 fun ws fp2 R3 _ => ?_
    have hD : ∀ o', m ρ1 = some o' → OutOk K (hid H1 fp) W { D with nx := fun σ2 H2 => ∃ ρ2 fp2, RelF K (hid H1 fp) H2 σ2 ρ2 fp2 ∧ forGo true mg m ks (items.drop (i + 1)) ρ2 = some o, ct := fun σ2 H2 => ∃ ρ2 fp2, RelF K (hid H1 fp) H2 σ2 ρ2 fp2 ∧ forGo true mg m ks (items.drop (i + 1)) ρ2 = some o, bk := D.nx } o' := by
      intro o' e4
      rw [e4] at hgo
      cases o' with
      | nx ρ2 =>
        intro σ3 H3 fp3 R4
        obtain ⟨fp4, R5⟩ := R4.kill ks
        exact ⟨_, fp4, R5, hgo⟩
      | ct ρ2 =>
        intro σ3 H3 fp3 R4
        obtain ⟨fp4, R5⟩ := R4.kill ks
        exact ⟨_, fp4, R5, hgo⟩
      | bk ρ2 => cases hgo; exact fun σ3 H3 fp3 R4 => qB σ3 H3 fp3 R4
      | rt s => cases hgo; exact qB
      | ex C => cases hgo; exact qB
    cases h4 : m ρ1 with
    | none => rw [h4] at hgo; cases hgo
    | some o' => exact hb _ H2 _ ρ1 fp2 o' _ R3 h4 (hD o' h4)
  · left
    have hie : i = items.length := by omega
    subst hie
    rw [List.drop_length] at hgo
    unfold forGo at hgo
    cases hgo
    exact ⟨itstop (Nat.le_refl _), qB σ' H' fp' R'⟩
theorem xs_for {tg iter : Expr} {body : List Stmt} {g : MG} {ow : List Nat} (ks : List Nat) (hp : PassesOwn (model X.prog X.w) X.A X.env X.xe) (hc : X.calm = true) (hi : XI X tg iter mi) (hg : XG X tg ow g) (hb : XSs X W body m)
    (hs : ∀ x, foldedSetIterable iter X.env x = pure x := by intro _; rfl) : XS X W (.For tg iter body [] pos) (mFor mi g m ks) := by
  obtain ⟨wi, p, s⟩ := hi
  obtain ⟨gt, pg, sg⟩ := hg
  obtain ⟨t, pb, sb⟩ := hb
  exact ⟨_, ps_for hp hc p pg pb hs, sim_for s sg sb ks⟩
/-- while: at most so many turns -/
def whGo (mt : MT) (body : MS) (ks : List Nat) : Nat → MS
  | 0, _ => none
  | n + 1, ρ => match mt ρ with
    | some true => match body ρ with
      | some (.nx ρ2) => whGo mt body ks n (killE ks ρ2)
      | some (.ct ρ2) => whGo mt body ks n (killE ks ρ2)
      | some (.bk ρ2) => some (.nx ρ2)
      | o => o
    | some false => some (.nx ρ)
    | none => none
def mWhile (n : Nat) (mt : MT) (body : MS) (ks : List Nat) : MS := fun ρ => whGo mt body ks n ρ
theorem xs_while {c : Expr} {body : List Stmt} (n : Nat) (ks : List Nat) (hp : PassesOwn (model X.prog X.w) X.A X.env X.xe) (hc : XT X c mt) (hb : XSs X W body m) : XS X W (.While c body [] pos) (mWhile n mt m ks) := by
  obtain ⟨tc, p0, s0⟩ := hc
  obtain ⟨tb, p, s⟩ := hb
  refine ⟨_, ps_while hp p0 p, fun G H σ ρ fp o D R hm q => ?_⟩
  refine ⟨fun k σ' H' => ∃ ρ' fp', RelF X.K G H' σ' ρ' fp' ∧ whGo mt m ks k ρ' = some o, ⟨n, ρ, fp, R, hm⟩, ?_⟩
  rintro k σ' H' ⟨ρ', fp', R', hgo⟩
  cases k with
  | zero => cases hgo
  | succ k =>
    unfold whGo at hgo
    split at hgo
    · rename_i e1
      refine s0 G H' σ' ρ' fp' true _ R' e1 fun H2 x2 => ?_
      rw [if_pos rfl]
      refine ⟨fun σ3 H3 => ∃ ρ3 fp3, RelF X.K G H3 σ3 ρ3 fp3 ∧ whGo mt m ks k ρ3 = some o, fun σ3 H3 p => ⟨k, by omega, p⟩, ?_⟩
      cases h4 : m ρ' with
      | none => rw [h4] at hgo; cases hgo
      | some o' =>
        refine s G H2 σ' ρ' fp' o' _ (R'.grow x2) h4 ?_
        rw [h4] at hgo
        cases o' with
        | nx ρ2 =>
          intro σ3 H3 fp3 R4
          obtain ⟨fp4, R5⟩ := R4.kill ks
          exact ⟨_, fp4, R5, hgo⟩
        | ct ρ2 =>
          intro σ3 H3 fp3 R4
          obtain ⟨fp4, R5⟩ := R4.kill ks
          exact ⟨_, fp4, R5, hgo⟩
        | bk ρ2 => cases hgo; exact q
        | rt s => cases hgo; exact q
        | ex C => cases hgo; exact q
    · rename_i e1
      cases hgo
      refine s0 G H' σ' ρ' fp' false _ R' e1 fun H2 x2 => ?_
      rw [if_neg Bool.false_ne_true]
      exact q σ' H2 fp' (R'.grow x2)
    · cases hgo
/-- an expression whose value is dropped -/
def mDrop (m : ME) : MS := fun ρ => (m ρ).map fun _ => .nx ρ
theorem xs_drop (he : XE X e ma) (hs : swapsWith e none pos.line X.env = pure false := by rfl) : XS X W (.Expr e pos) (mDrop ma) := by
  obtain ⟨t, p, s⟩ := he
  refine ⟨_, ps_expr p hs, fun G H σ ρ fp o D R hm q => ?_⟩
  unfold mDrop at hm
  rw [Option.map_eq_some_iff] at hm
  obtain ⟨r, h1, rfl⟩ := hm
  exact s G H σ ρ fp r _ R h1 fun v F H1 x1 o1 => q σ H1 fp (R.grow x1)
/-- a call that may raise: what comes of it -/
def mCallO (n : Nat) (g : List D → Option FO) (ms : MA) : Env → Option FO := fun ρ => match ms ρ with
  | some rs => if rs.length = n then g (rs.map R.data) else none
  | none => none
def SimC (K : PySem.W.Frag) (W : XK) (t : TE) (m : Env → Option FO) : Prop := ∀ G H σ ρ fp o (Q : VK), RelF K G H σ ρ fp → m ρ = some o → (∀ s, o = .ret s → ∀ v F H', Ex H H' → ROk K H H' fp v F (retR s) → Q v H') → (∀ C, o = .exc C → ∀ H', Ex H H' → W (.ref C) none H') → t σ H Q
structure XC (X : Cx) (W : XK) (e : Expr) (m : Env → Option FO) : Prop where
  sim : ∃ t, PE X e t ∧ SimC X.K W t m
theorem xc_call {k n : Nat} {f : Addr} {fd : FuncData} {ps : List Str} {g : List D → Option FO} {p : Pos} (F : FnOk X.prog X.w X.K X.mg X.base (L2.CX X.prog X.w) k f fd ps (spD X.K n g)) (hr : Room k X.A) (hg : Gl X x) (hm : X.mg x = some (.ref f)) (hk : PySem.W.keepIn X.K (.ref f) = true) (hb : Binds X.K fd ps [])
    (tk : Takes X fun c d _ H => W c d H) (ha : XA X (e :: es) ms) (hdb : (x == ("__debug__" : Str)) = false := by decide) (he : starEach (e :: es) X.env = (false, eval e X.env) :: starEach es X.env := by rfl) (hpl : (backTo pos (starEach es X.env)).any (·.1) = false := by rfl) :
    XC X W (.Call (.Name x p) (e :: es) [] pos) (mCallO n g ms) := by
  obtain ⟨t, pa, s⟩ := ha
  refine ⟨_, pe_call F hr hg hm hk hb .nil (passes_call (E := W) tk fun _ _ _ _ h => h) pa hdb he hpl, fun G H σ ρ fp r Q R hm q qe => ?_⟩
  unfold mCallO at hm
  split at hm
  · rename_i rs e1
    split at hm
    · rename_i hn
      refine s G H σ ρ fp rs _ R e1 fun vs F H1 x1 o1 => ?_
      rw [List.append_nil]
      refine ⟨o1.len.symm.trans hn, _, _, o1.data, hm, ?_⟩
      cases r with
      | ret s' => exact fun v F' H' x2 o2 f2 => q s' rfl v F' H' (x1.trans x2) (ROk.back (retR_ok (ls_mono R.ls (x1.trans x2)) o2 f2) x1)
      | exc C => exact fun H' x2 => qe C rfl H' (x1.trans x2)
    · cases hm
  · cases hm
def mDropC (m : Env → Option FO) : MS := fun ρ => match m ρ with
  | some (.ret _) => some (.nx ρ)
  | some (.exc C) => some (.ex C)
  | none => none
def mSetC (i : Nat) (m : Env → Option FO) : MS := fun ρ => match m ρ with
  | some (.ret s) => some (.nx (ρ.set i (retR s).slot))
  | some (.exc C) => some (.ex C)
  | none => none
def mRetC (m : Env → Option FO) : MS := fun ρ => match m ρ with
  | some (.ret s) => (retR s).tree.map .rt
  | some (.exc C) => some (.ex C)
  | none => none
variable {mc : Env → Option FO}
theorem xs_dropC (he : XC X W e mc) (hs : swapsWith e none pos.line X.env = pure false := by rfl) : XS X W (.Expr e pos) (mDropC mc) := by
  obtain ⟨t, p, s⟩ := he
  refine ⟨_, ps_expr p hs, fun G H σ ρ fp o D R hm q => ?_⟩
  unfold mDropC at hm
  split at hm
  · rename_i s' e1; cases hm
    exact s G H σ ρ fp _ _ R e1 (fun _ _ v F H1 x1 o1 => q σ H1 fp (R.grow x1)) (fun _ h => by cases h)
  · rename_i C e1; cases hm
    exact s G H σ ρ fp _ _ R e1 (fun _ h => by cases h) (fun _ h H' x1 => by cases h; exact q H' (R.ex.trans x1))
  · cases hm
theorem xs_setC {i : Nat} {pos' : Pos} (hN : X.N.Nodup) (hi : X.N[i]? = some x) (hx : Loc X.env.scope x) (he : XC X W e mc) (hs : swapsWith e (some (.Name x pos')) pos.line X.env = pure false := by rfl) (hf : X.fn x = true ∨ X.env.scope.names.lookup x = some .local := by first | exact .inl rfl | exact .inr rfl | assumption) :
    XS X W (.Assign [.Name x pos'] e pos) (mSetC i mc) := by
  obtain ⟨t, p, s⟩ := he
  refine ⟨_, ps_set hN hi hx p hs hf, fun G H σ ρ fp o D R hm q => ?_⟩
  unfold mSetC at hm
  split at hm
  · rename_i s' e1; cases hm
    exact s G H σ ρ fp _ _ R e1 (fun _ h v F H1 x1 o1 => by cases h; exact q _ H1 _ (R.set x1 o1)) (fun _ h => by cases h)
  · rename_i C e1; cases hm
    exact s G H σ ρ fp _ _ R e1 (fun _ h => by cases h) (fun _ h H' x1 => by cases h; exact q H' (R.ex.trans x1))
  · cases hm
theorem xs_retC (he : XC X W e mc) : XS X W (.Return (some e) pos) (mRetC mc) := by
  obtain ⟨t, p, s⟩ := he
  refine ⟨_, ps_ret p, fun G H σ ρ fp o D R hm q => ?_⟩
  unfold mRetC at hm
  split at hm
  · rename_i s' e1
    rw [Option.map_eq_some_iff] at hm
    obtain ⟨s2, e2, rfl⟩ := hm
    exact s G H σ ρ fp _ _ R e1 (fun _ h v F H1 x1 o1 => by cases h; exact q v F H1 (R.ex.trans x1) (o1.tree e2) fun a m => Evl.fresh_back R.ex (o1.fresh a m)) (fun _ h => by cases h)
  · rename_i C e1; cases hm
    exact s G H σ ρ fp _ _ R e1 (fun _ h => by cases h) (fun _ h H' x1 => by cases h; exact q H' (R.ex.trans x1))
  · cases hm
/-- raise C('..'), C an own class -/
structure ExcAt (K : PySem.W.Frag) (mg : Str → Option Value) (x : Str) (C : Addr) : Prop where
  g : mg x = some (.ref C)
  q : PySem.W.excIn K C [.type "ValueError", .type "Exception", .type "BaseException", .type "object"] "ValueError.__new__" = true
  k : PySem.W.keepIn K (.ref C) = true
  b : PySem.W.subIn K (.ref C) (.type "BaseException") = some true
  t : PySem.W.typeIn K (.ref C) = some (.type "type")
theorem xs_raise {C : Addr} {txt : Str} {j : _} {p p2 p3 : Pos} (hc : X.calm = true) (T : ExcAt X.K X.mg x C) (tk : Takes X fun c d _ H => W c d H) (hg : Gl X x) (hdb : (x == ("__debug__" : Str)) = false := by decide) :
    XS X W (.Raise (some (.Call (.Name x p) [.Constant (.str txt) j p2] [] p3)) none pos) (fun _ => some (.ex C)) :=
  ⟨_, ps_raise hc tk (pmk_own PySem.F.excBase_ValueError T.q T.g T.k (raises_own T.b T.t) hg hdb), fun G H σ ρ fp o D R hm q => by cases hm; exact q H R.ex⟩
end

/-! ### defs -/
def outF : Out → Option FO
  | .nx _ => some (.ret (.d .non))
  | .rt s => some (.ret s)
  | .ex C => some (.exc C)
  | _ => none
def env0 (n : Nat) (ds : List D) : Env := ds.map Sl.sh ++ List.replicate (n - ds.length) .dead
def runF (n : Nat) (m : MS) (ds : List D) : Option FO := match m (env0 n ds) with
  | some o => outF o
  | none => none
theorem RelF.start {K : PySem.W.Frag} {H : Hp} {N : List Str} {vs : List V} {ds : List D} (h : DtL K H vs ds) : RelF K H H (L2.start N vs) (env0 N.length ds) fun _ => [] where
  len := by unfold L2.start env0; simp [h.len]
  ex := Evl.Ex.refl H
  dj := fun i j a m => by cases m
  new := fun i a m => by cases m
  ls := fun i a m => by cases m
  sl := fun i s hs => by
    have hh : hid H (fun _ => []) = H := by
      funext a; rw [hid_at]; intro i m; cases m
    rw [hh]
    unfold env0 at hs
    by_cases hi : i < ds.length
    · rw [List.getElem?_append_left (by simpa using hi), List.getElem?_map, Option.map_eq_some_iff] at hs
      obtain ⟨d, h1, rfl⟩ := hs
      obtain ⟨v, h2, h3⟩ := h.get h1
      refine ⟨rfl, v, ?_, h3⟩
      unfold L2.start
      rw [List.getElem?_append_left (by rw [List.length_map, h.len]; exact hi), List.getElem?_map, h2]
      rfl
    · rw [List.getElem?_append_right (by simpa using Nat.le_of_not_lt hi), List.getElem?_replicate] at hs
      split at hs
      · cases hs; rfl
      · cases hs
section
variable {P : Program} {w : World} {K : PySem.W.Frag} {mg : Str → Option Value} {base : Heap}
theorem fnD {x qual : Str} {st : Stmt} {f : Addr} {fd : FuncData} {N ps : List Str} {k n : Nat} {m : MS} (F : Fun K x qual st f fd) (S : FnScope N ps (defScope st)) (hn : ps.length = n)
    (hbody : ∀ (cdv : Value) (A : Around) (outer : List PySem.Env) (s : Shared) (H : Hp) (E : XK), Room k (A.deeper (envOfC qual (defScope st) s.heap.objs.size f cdv)) →
      XSs (cxOf (L2.CX P w) P w K mg base N qual (defScope st) f cdv A outer s H E) E (defBody st) m) : FnOk P w K mg base (L2.CX P w) (k + 1) f fd ps (spD K n (runF N.length m)) := by
  refine F.okX S (fun vs H Q E h => h.1.trans hn.symm) fun cdv A outer s H vs Q E hr h => ?_
  obtain ⟨t, p, sim⟩ := (hbody cdv A outer s H E hr).sim
  obtain ⟨_, ds, o, hd, hg, hq⟩ := h
  refine ⟨t, p, ?_⟩
  unfold runF at hg
  split at hg
  · rename_i o' e1
    refine sim H H _ _ _ o' _ (RelF.start hd) e1 ?_
    cases o' with
    | nx ρ => cases hg; exact fun σ H' fp R => hq .non [] H' R.ex (.d .non) fun a m => by cases m
    | rt s => cases hg; exact fun v F H' x r f => hq v F H' x r f
    | ex C => cases hg; exact fun H' x => hq H' x
    | bk ρ => cases hg
    | ct ρ => cases hg
  · cases hg
/-- a weaker promise, another name for the function -/
theorem fnD.imp {k n : Nat} {f : Addr} {fd : FuncData} {ps : List Str} {CX : CXT} {g g' : List D → Option FO} (F : FnOk P w K mg base CX k f fd ps (spD K n g)) (h : ∀ ds o, g' ds = some o → g ds = some o) : FnOk P w K mg base CX k f fd ps (spD K n g') :=
  F.imp fun vs H Q E ⟨h1, ds, o, h2, h3, h4⟩ => ⟨h1, ds, o, h2, h ds o h3, h4⟩
end
end DL

set_option Elab.async false
set_option linter.all false
set_option maxRecDepth 100000
set_option maxHeartbeats 4000000
/-! Changes of owned lists. -/
namespace DL
open PySem PySem.Spec PyProof.Rows L2
open Evl (Ex)

def S.get : List Nat → S → Option S
  | [], s => some s
  | k :: p, .own xs => match xs[k]? with
    | some c => S.get p c
    | none => none
  | k :: p, .tp xs => match xs[k]? with
    | some c => S.get p c
    | none => none
  | _ :: _, .d _ => none
def S.put (n : S) : List Nat → S → S
  | [], _ => n
  | k :: p, .own xs => match xs[k]? with
    | some c => .own (xs.set k (S.put n p c))
    | none => .own xs
  | k :: p, .tp xs => match xs[k]? with
    | some c => .tp (xs.set k (S.put n p c))
    | none => .tp xs
  | _ :: _, .d x => .d x
def AtP (H : Hp) : List Nat → V → Addr → Prop
  | [], v, a => v = .ref a
  | k :: p, v, a => ∃ b vs w, v = .ref b ∧ (H b = some (.lst vs) ∨ H b = some (.tup vs)) ∧ vs[k]? = some w ∧ AtP H p w a
theorem AtP.mono {H H' : Hp} (e : Ex H H') : ∀ {p : List Nat} {v : V} {a : Addr}, AtP H p v a → AtP H' p v a
  | [], _, _, h => h
  | k :: p, _, _, ⟨b, vs, w, h1, h2, h3, h4⟩ => ⟨b, vs, w, h1, h2.imp (e _ _) (e _ _), h3, AtP.mono e h4⟩
theorem AtP.snoc {H : Hp} {k : Nat} {b : Addr} {vs : List V} : ∀ {p : List Nat} {v : V} {a : Addr}, AtP H p v a → (H a = some (.lst vs) ∨ H a = some (.tup vs)) → vs[k]? = some (.ref b) → AtP H (p ++ [k]) v b
  | [], _, _, h, h2, h3 => ⟨_, vs, _, h, h2, h3, rfl⟩
  | j :: p, _, _, ⟨c, ws, w, h1, h4, h5, h6⟩, h2, h3 => ⟨c, ws, w, h1, h4, h5, AtP.snoc h6 h2 h3⟩
section
variable {K : PySem.W.Frag} {H : Hp}
theorem RepL.get : ∀ {xs : List S} {vs : List V} {F : List Addr} {k : Nat} {c : S}, RepL K H xs vs F → xs[k]? = some c → ∃ w Fc, vs[k]? = some w ∧ Rep K H c w Fc ∧ ∀ b ∈ Fc, b ∈ F
  | _, _, _, _, _, .nil, e => by simp at e
  | _, _, _, 0, _, .cons h _ _, e => by
    simp at e; subst e; exact ⟨_, _, rfl, h, fun b m => List.mem_append_left _ m⟩
  | _, _, _, k + 1, c, .cons _ t _, e => by
    obtain ⟨w, Fc, h1, h2, h3⟩ := RepL.get (k := k) (c := c) t (by simpa using e)
    exact ⟨w, Fc, by simpa using h1, h2, fun b m => List.mem_append_right _ (h3 b m)⟩
theorem RepL.split : ∀ {xs : List S} {vs : List V} {F : List Addr} {k : Nat} {c : S}, RepL K H xs vs F → xs[k]? = some c → ∃ w Fc, vs[k]? = some w ∧ Rep K H c w Fc ∧ (∀ b ∈ Fc, b ∈ F) ∧
    ∀ (H' : Hp) (c' : S) (Fc' : List Addr), Rep K H' c' w Fc' → Ex (stb H) (stb H') → (∀ b ∈ F, b ∉ Fc → ∀ o, H b = some o → H' b = some o) → (∀ b ∈ Fc', b ∈ Fc ∨ b ∉ F) → ∃ F', RepL K H' (xs.set k c') vs F' ∧ ∀ b ∈ F', b ∈ F ∨ b ∈ Fc'
  | _, _, _, _, _, .nil, e => by simp at e
  | _, _, _, 0, _, .cons (F1 := F1) (F2 := F2) h t dj, e => by
    simp at e; subst e
    refine ⟨_, F1, rfl, h, fun b m => List.mem_append_left _ m, fun H' c' Fc' r es kp sub => ⟨Fc' ++ F2, .cons r (t.keep ⟨es, fun b m o e => kp b (List.mem_append_right _ m) (fun z => dj b z m) o e⟩) fun b m z => ?_, fun b m => ?_⟩⟩
    · rcases sub b m with m | m
      · exact dj b m z
      · exact m (List.mem_append_right _ z)
    · rcases List.mem_append.mp m with m | m
      · exact .inr m
      · exact .inl (List.mem_append_right _ m)
  | _, _, _, k + 1, c, .cons (F1 := F1) (F2 := F2) h t dj, e => by
    obtain ⟨w, Fc, h1, h2, h3, h4⟩ := RepL.split (k := k) (c := c) t (by simpa using e)
    refine ⟨w, Fc, by simpa using h1, h2, fun b m => List.mem_append_right _ (h3 b m), fun H' c' Fc' r es kp sub => ?_⟩
    obtain ⟨F', r', s'⟩ := h4 H' c' Fc' r es (fun b m n o e => kp b (List.mem_append_right _ m) n o e) fun b m => (sub b m).imp id fun n z => n (List.mem_append_right _ z)
    refine ⟨F1 ++ F', .cons (h.keep ⟨es, fun b m o e => kp b (List.mem_append_left _ m) (fun z => dj b m (h3 b z)) o e⟩) r' fun b m z => ?_, fun b m => ?_⟩
    · rcases s' b z with z | z
      · exact dj b m z
      · rcases sub b z with z | z
        · exact dj b m (h3 b z)
        · exact z (List.mem_append_left _ m)
    · rcases List.mem_append.mp m with m | m
      · exact .inl (List.mem_append_left _ m)
      · exact (s' b m).imp (List.mem_append_right _) id
theorem Rep.mut {a : Addr} {ss : List S} : ∀ {p : List Nat} {s : S} {v : V} {F : List Addr}, Rep K H s v F → AtP H p v a → S.get p s = some (.own ss) →
    ∃ vs Fa, H a = some (.lst vs) ∧ RepL K H ss vs Fa ∧ a ∈ F ∧ (∀ b ∈ Fa, b ∈ F) ∧ a ∉ Fa ∧
      ∀ (ss' : List S) (vs' : List V) (Fn : List Addr) (H' : Hp), H' a = some (.lst vs') → (∀ b, b ∈ F → b ≠ a → ∀ o, H b = some o → H' b = some o) → Ex (stb H) (stb H') → RepL K H' ss' vs' Fn → a ∉ Fn → (∀ b ∈ Fn, b ∈ Fa ∨ b ∉ F) →
        ∃ F', Rep K H' (S.put (.own ss') p s) v F' ∧ ∀ b ∈ F', b ∈ F ∨ b ∈ Fn
  | [], s, v, F, h, hp, hg => by
    have hp : v = .ref a := hp
    subst hp
    have hg : some s = some (.own ss) := hg
    cases hg
    cases h with
    | own h0 hL hn =>
      refine ⟨_, _, h0, hL, by simp, fun b m => List.mem_cons_of_mem _ m, hn, fun ss' vs' Fn H' ha kp es r n sub => ⟨a :: Fn, .own ha r n, fun b m => ?_⟩⟩
      rcases List.mem_cons.mp m with e | m
      · subst e; exact .inl (by simp)
      · exact .inr m
  | k :: p, .d x, v, F, h, hp, hg => by cases hg
  | k :: p, .own xs, v, F, h, hp, hg => by
    obtain ⟨b, vs0, w, rfl, hb, hk, hp⟩ := hp
    have hg : (match xs[k]? with | some c => S.get p c | none => none) = some (.own ss) := hg
    cases h with
    | @own _ vs1 _ F0 h0 hL hn =>
      have e1 : vs1 = vs0 := by
        rcases hb with z | z
        · rw [h0] at z; cases z; rfl
        · rw [h0] at z; cases z
      subst e1
      cases hc : xs[k]? with
      | none => rw [hc] at hg; cases hg
      | some c =>
        rw [hc] at hg
        obtain ⟨w', Fc, g1, g2, g3, g4⟩ := hL.split hc
        rw [hk] at g1; cases g1
        obtain ⟨vs, Fa, m1, m2, m3, m4, m5, m6⟩ := g2.mut hp hg
        have hab : a ≠ b := fun z => hn (z ▸ g3 a m3)
        refine ⟨vs, Fa, m1, m2, List.mem_cons_of_mem _ (g3 a m3), fun x m => List.mem_cons_of_mem _ (g3 x (m4 x m)), m5, fun ss' vs' Fn H' ha kp es r n sub => ?_⟩
        obtain ⟨F', r1, s1⟩ := m6 ss' vs' Fn H' ha (fun x m => kp x (List.mem_cons_of_mem _ (g3 x m))) es r n fun x m => (sub x m).imp id fun z y => z (List.mem_cons_of_mem _ (g3 x y))
        obtain ⟨F2, r2, s2⟩ := g4 H' _ F' r1 es (fun x m nm o e => kp x (List.mem_cons_of_mem _ m) (fun z => nm (z ▸ m3)) o e) fun x m => by
          rcases s1 x m with z | z
          · exact .inl z
          · rcases sub x z with z | z
            · exact .inl (m4 x z)
            · exact .inr fun y => z (List.mem_cons_of_mem _ y)
        have hput : S.put (.own ss') (k :: p) (.own xs) = .own (xs.set k (S.put (.own ss') p c)) := by
          show (match xs[k]? with | some c => S.own (xs.set k (S.put (.own ss') p c)) | none => S.own xs) = _
          rw [hc]
        rw [hput]
        refine ⟨b :: F2, .own (kp b (by simp) (Ne.symm hab) _ h0) r2 fun z => ?_, fun x m => ?_⟩
        · rcases s2 b z with z | z
          · exact hn z
          · rcases s1 b z with z | z
            · exact hn (g3 b z)
            · rcases sub b z with z | z
              · exact hn (g3 b (m4 b z))
              · exact z (by simp)
        · rcases List.mem_cons.mp m with e | m
          · subst e; exact .inl (by simp)
          · rcases s2 x m with z | z
            · exact .inl (List.mem_cons_of_mem _ z)
            · exact (s1 x z).imp (fun y => List.mem_cons_of_mem _ (g3 x y)) id
  | k :: p, .tp xs, v, F, h, hp, hg => by
    obtain ⟨b, vs0, w, rfl, hb, hk, hp⟩ := hp
    have hg : (match xs[k]? with | some c => S.get p c | none => none) = some (.own ss) := hg
    cases h with
    | @tp _ vs1 _ _ h0 hL =>
      have e1 : vs1 = vs0 := by
        rcases hb with z | z
        · rw [h0] at z; cases z
        · rw [h0] at z; cases z; rfl
      subst e1
      cases hc : xs[k]? with
      | none => rw [hc] at hg; cases hg
      | some c =>
        rw [hc] at hg
        obtain ⟨w', Fc, g1, g2, g3, g4⟩ := hL.split hc
        rw [hk] at g1; cases g1
        obtain ⟨vs, Fa, m1, m2, m3, m4, m5, m6⟩ := g2.mut hp hg
        refine ⟨vs, Fa, m1, m2, g3 a m3, fun x m => g3 x (m4 x m), m5, fun ss' vs' Fn H' ha kp es r n sub => ?_⟩
        obtain ⟨F', r1, s1⟩ := m6 ss' vs' Fn H' ha (fun x m => kp x (g3 x m)) es r n fun x m => (sub x m).imp id fun z y => z (g3 x y)
        obtain ⟨F2, r2, s2⟩ := g4 H' _ F' r1 es (fun x m nm o e => kp x m (fun z => nm (z ▸ m3)) o e) fun x m => by
          rcases s1 x m with z | z
          · exact .inl z
          · exact (sub x z).imp (m4 x) id
        have hput : S.put (.own ss') (k :: p) (.tp xs) = .tp (xs.set k (S.put (.own ss') p c)) := by
          show (match xs[k]? with | some c => S.tp (xs.set k (S.put (.own ss') p c)) | none => S.tp xs) = _
          rw [hc]
        rw [hput]
        refine ⟨F2, .tp (stb_ex _ _ (es _ _ (stb_tup h0))) r2, fun x m => ?_⟩
        rcases s2 x m with z | z
        · exact .inl z
        · exact (s1 x z).imp (g3 x) id
end
def killVw : Env → Env := fun ρ => ρ.map fun s => match s with
  | .vw _ => .dead
  | s => s
/-- an owned list inside slot i is changed -/
theorem RelF.mutate {K : PySem.W.Frag} {G H0 H : Hp} {σ : L2.St} {ρ : Env} {fp : Nat → List Addr} {i : Nat} {s : S} {v : V} {p : List Nat} {a : Addr} {ss : List S} (R : RelF K G H0 σ ρ fp) (e : Ex H0 H) (hs : ρ[i]? = some (.tr s)) (hv : σ[i]? = some (some v)) (hp : AtP H p v a) (hg : S.get p s = some (.own ss)) :
    ∃ vs Fa, H a = some (.lst vs) ∧ RepL K H ss vs Fa ∧ a ∉ Fa ∧ (∀ b ∈ Fa, b ∈ fp i) ∧ a ∈ fp i ∧
      ∀ (ss' : List S) (vs' : List V) (Fn : List Addr), RepL K (upd H a (.lst vs')) ss' vs' Fn → a ∉ Fn → (∀ b ∈ Fn, b ∈ Fa ∨ H0 b = none) →
        ∃ fp', RelF K G (upd H a (.lst vs')) σ ((killVw ρ).set i (.tr (S.put (.own ss') p s))) fp' := by
  have q := R.sl i _ hs
  obtain ⟨v', hv', hr⟩ := q
  rw [hv] at hv'; cases hv'
  obtain ⟨vs, Fa, m1, m2, m3, m4, m5, m6⟩ := (hr.mono e).mut hp hg
  refine ⟨vs, Fa, m1, m2, m5, m4, m3, fun ss' vs' Fn r n sub => ?_⟩
  have es : Ex (stb H) (stb (upd H a (.lst vs'))) := stb_upd m1
  have sub2 : ∀ b ∈ Fn, b ∈ Fa ∨ b ∉ fp i := fun b m => (sub b m).imp id fun z y => by
    obtain ⟨xs, h⟩ := R.ls i b y; rw [z] at h; cases h
  obtain ⟨F', r1, s1⟩ := m6 ss' vs' Fn _ upd_same (fun b _ nb o h => by rw [upd_ne nb]; exact h) es r n sub2
  have hF' : ∀ b ∈ F', b ∈ fp i ∨ H0 b = none := fun b m => by
    rcases s1 b m with z | z
    · exact .inl z
    · exact (sub b z).imp (m4 b) id
  have hni : ∀ j, j ≠ i → a ∉ fp j := fun j hj m => hj (R.dj j i a m m3)
  have hx : Ex (hid H0 fp) (hid (upd H a (.lst vs')) (fset fp i F')) := fun b o h => by
    obtain ⟨n1, h⟩ := hid_some h
    rw [hid_at]
    · rw [upd_ne (by rintro rfl; exact n1 i m3)]; exact e _ _ h
    · intro j m
      by_cases hj : j = i
      · subst hj; rw [fset_self] at m
        rcases hF' b m with z | z
        · exact n1 j z
        · rw [h] at z; cases z
      · rw [fset_ne hj] at m; exact n1 j m
  refine ⟨fset fp i F', ?_, fun b o h => ?_, fun j k b x y => ?_, fun j b x => ?_, fun j b x => ?_, fun j t h => ?_⟩
  · simpa [killVw] using R.len
  · rw [upd_ne]
    · exact e _ _ (R.ex _ _ h)
    · rintro rfl; rw [R.new i b m3] at h; cases h
  · by_cases hj : j = i
    · by_cases hk : k = i
      · rw [hj, hk]
      · subst hj; rw [fset_self] at x; rw [fset_ne hk] at y
        rcases hF' b x with z | z
        · exact R.dj _ _ b z y
        · obtain ⟨xs, h⟩ := R.ls k b y; rw [z] at h; cases h
    · rw [fset_ne hj] at x
      by_cases hk : k = i
      · subst hk; rw [fset_self] at y
        rcases hF' b y with z | z
        · exact R.dj _ _ b x z
        · obtain ⟨xs, h⟩ := R.ls j b x; rw [z] at h; cases h
      · rw [fset_ne hk] at y; exact R.dj _ _ b x y
  · by_cases hj : j = i
    · subst hj; rw [fset_self] at x
      rcases hF' b x with z | z
      · exact R.new j b z
      · exact Evl.fresh_back R.ex z
    · rw [fset_ne hj] at x; exact R.new j b x
  · by_cases hj : j = i
    · subst hj; rw [fset_self] at x; exact r1.ls b x
    · rw [fset_ne hj] at x
      obtain ⟨xs, h⟩ := R.ls j b x
      refine ⟨xs, ?_⟩
      rw [upd_ne (by rintro rfl; exact hni j hj x)]; exact e _ _ h
  · by_cases hj : j = i
    · subst hj
      have hl : j < (killVw ρ).length := by
        have := (List.getElem?_eq_some_iff.mp h).1
        simpa using this
      rw [List.getElem?_set_self hl] at h
      cases h
      rw [fset_self]
      exact ⟨v, hv, r1⟩
    · rw [List.getElem?_set_ne (Ne.symm hj)] at h
      rw [fset_ne hj]
      unfold killVw at h
      rw [List.getElem?_map, Option.map_eq_some_iff] at h
      obtain ⟨t0, h0, h1⟩ := h
      have q := R.sl j t0 h0
      cases t0 with
      | dead => cases h1; exact q
      | ad a => cases h1; exact q
      | dc m =>
        cases h1
        obtain ⟨b, q1, q2, q3⟩ := q
        exact ⟨b, q1, q2, by rw [upd_ne (fun z => hni j hj (by rw [q2, ← z]; exact List.mem_singleton_self _))]; exact e _ _ q3⟩
      | sh x => cases h1; obtain ⟨q0, w, q1, q2⟩ := q; exact ⟨q0, w, q1, q2.mono hx⟩
      | fz w x => cases h1; obtain ⟨q0, q1, q2⟩ := q; exact ⟨q0, q1, q2.mono hx⟩
      | vw x => cases h1; exact q.1
      | tr u =>
        cases h1
        obtain ⟨w, q1, q2⟩ := q
        exact ⟨w, q1, (q2.mono e).keep ⟨es, fun b m o h => by rw [upd_ne (by rintro rfl; exact hni j hj m)]; exact h⟩⟩

/-! ### where a change is made: a name, an item of such -/
abbrev MP := Env → Option (Nat × List Nat)
def SimP (K : PySem.W.Frag) (t : TE) (mp : MP) : Prop := ∀ G H σ ρ fp i p (Q : VK), RelF K G H σ ρ fp → mp ρ = some (i, p) → (∀ v a H' s ss, ρ[i]? = some (.tr s) → S.get p s = some (.own ss) ∨ S.get p s = some (.tp ss) → σ[i]? = some (some v) → Ex H H' → AtP H' p v a → Q (.ref a) H') → t σ H Q
structure XP (X : Cx) (e : Expr) (mp : MP) : Prop where
  sim : ∃ t, PE X e t ∧ SimP X.K t mp
def mpV (i : Nat) : MP := fun ρ => match ρ[i]? with
  | some (.tr (.own _)) => some (i, [])
  | some (.tr (.tp _)) => some (i, [])
  | _ => none
section
variable {X : Cx} {W : XK} {o e b : Expr} {ma mb : ME} {mp : MP} {pos apos cpos : Pos}
theorem xp_v (i : Nat) {x : Str} {pos : Pos} (hN : X.N[i]? = some x := by rfl) (hv : Vis X.env.scope x := by first | exact Or.inl rfl | exact Or.inr (Or.inl rfl) | exact Or.inr (Or.inr rfl)) (hd : (x == ("__debug__" : Str)) = false := by decide)
    (hcd : (x == ("__classdict__" : Str)) = false := by decide) : XP X (.Name x pos) (mpV i) := by
  refine ⟨_, pe_var hN hv hd hcd, fun G H σ ρ fp j p Q R hm q => ?_⟩
  unfold mpV at hm
  split at hm
  · rename_i ss hs; cases hm
    obtain ⟨v, h1, h2⟩ := R.sl i _ hs
    generalize fp i = F at h2
    cases h2 with
    | own h0 hL hn => exact ⟨_, h1, q _ _ H _ ss hs (.inl rfl) h1 (Evl.Ex.refl H) rfl⟩
  · rename_i ss hs; cases hm
    obtain ⟨v, h1, h2⟩ := R.sl i _ hs
    generalize fp i = F at h2
    cases h2 with
    | tp h0 hL => exact ⟨_, h1, q _ _ H _ ss hs (.inr rfl) h1 (Evl.Ex.refl H) rfl⟩
  · cases hm
/-- the owned node at a place, its children -/
def nodeAt (ρ : Env) (i : Nat) (p : List Nat) : Option (List S) := match ρ[i]? with
  | some (.tr s) => match S.get p s with
    | some (.own ss) => some ss
    | some (.tp ss) => some ss
    | _ => none
  | _ => none
def isNode : S → Bool
  | .d _ => false
  | _ => true
def mpIx (mp : MP) (mb : ME) : MP := fun ρ => match mp ρ, mb ρ with
  | some (i, p), some r => match nodeAt ρ i p, r.data with
    | some ss, .int j => match ixN ss.length j with
      | some k => match ss[k]? with
        | some c => if isNode c = true then some (i, p ++ [k]) else none
        | none => none
      | none => none
    | _, _ => none
  | _, _ => none
theorem S.get_snoc {k : Nat} {c : S} : ∀ {p : List Nat} {s : S} {ss : List S}, (S.get p s = some (.own ss) ∨ S.get p s = some (.tp ss)) → ss[k]? = some c → S.get (p ++ [k]) s = some c
  | [], s, ss, h, hk => by
    rcases h with h | h
    · have h : some s = some (.own ss) := h
      cases h
      show (match ss[k]? with | some c => S.get [] c | none => none) = _
      rw [hk]; rfl
    · have h : some s = some (.tp ss) := h
      cases h
      show (match ss[k]? with | some c => S.get [] c | none => none) = _
      rw [hk]; rfl
  | j :: p, .d x, ss, h, hk => by rcases h with h | h <;> cases h
  | j :: p, .own xs, ss, h, hk => by
    show (match xs[j]? with | some c => S.get (p ++ [k]) c | none => none) = _
    have h : (match xs[j]? with | some c => S.get p c | none => none) = some (.own ss) ∨ (match xs[j]? with | some c => S.get p c | none => none) = some (.tp ss) := h
    cases hc : xs[j]? with
    | none => rw [hc] at h; rcases h with h | h <;> cases h
    | some d => rw [hc] at h; exact S.get_snoc h hk
  | j :: p, .tp xs, ss, h, hk => by
    show (match xs[j]? with | some c => S.get (p ++ [k]) c | none => none) = _
    have h : (match xs[j]? with | some c => S.get p c | none => none) = some (.own ss) ∨ (match xs[j]? with | some c => S.get p c | none => none) = some (.tp ss) := h
    cases hc : xs[j]? with
    | none => rw [hc] at h; rcases h with h | h <;> cases h
    | some d => rw [hc] at h; exact S.get_snoc h hk
theorem Rep.node {K : PySem.W.Frag} {H : Hp} {a : Addr} {ss : List S} : ∀ {p : List Nat} {s : S} {v : V} {F : List Addr}, Rep K H s v F → AtP H p v a → (S.get p s = some (.own ss) ∨ S.get p s = some (.tp ss)) → ∃ vs Fa, (H a = some (.lst vs) ∨ H a = some (.tup vs)) ∧ RepL K H ss vs Fa
  | [], s, v, F, h, hp, hg => by
    have hp : v = .ref a := hp
    subst hp
    rcases hg with hg | hg
    · have hg : some s = some (.own ss) := hg
      cases hg
      cases h with
      | own h0 hL hn => exact ⟨_, _, .inl h0, hL⟩
    · have hg : some s = some (.tp ss) := hg
      cases hg
      cases h with
      | tp h0 hL => exact ⟨_, _, .inr h0, hL⟩
  | k :: p, .d x, v, F, h, hp, hg => by rcases hg with hg | hg <;> cases hg
  | k :: p, .own xs, v, F, h, hp, hg => by
    obtain ⟨b, vs0, w, rfl, hb, hk, hp⟩ := hp
    have hg : (match xs[k]? with | some c => S.get p c | none => none) = some (.own ss) ∨ (match xs[k]? with | some c => S.get p c | none => none) = some (.tp ss) := hg
    cases h with
    | @own _ vs1 _ F0 h0 hL hn =>
      have e1 : vs1 = vs0 := by
        rcases hb with z | z
        · rw [h0] at z; cases z; rfl
        · rw [h0] at z; cases z
      subst e1
      cases hc : xs[k]? with
      | none => rw [hc] at hg; rcases hg with hg | hg <;> cases hg
      | some c =>
        rw [hc] at hg
        obtain ⟨w', Fc, g1, g2, _⟩ := hL.get hc
        rw [hk] at g1; cases g1
        exact g2.node hp hg
  | k :: p, .tp xs, v, F, h, hp, hg => by
    obtain ⟨b, vs0, w, rfl, hb, hk, hp⟩ := hp
    have hg : (match xs[k]? with | some c => S.get p c | none => none) = some (.own ss) ∨ (match xs[k]? with | some c => S.get p c | none => none) = some (.tp ss) := hg
    cases h with
    | @tp _ vs1 _ _ h0 hL =>
      have e1 : vs1 = vs0 := by
        rcases hb with z | z
        · rw [h0] at z; cases z
        · rw [h0] at z; cases z; rfl
      subst e1
      cases hc : xs[k]? with
      | none => rw [hc] at hg; rcases hg with hg | hg <;> cases hg
      | some c =>
        rw [hc] at hg
        obtain ⟨w', Fc, g1, g2, _⟩ := hL.get hc
        rw [hk] at g1; cases g1
        exact g2.node hp hg
theorem nodeAt_some {ρ : Env} {i : Nat} {p : List Nat} {ss : List S} (h : nodeAt ρ i p = some ss) : ∃ s, ρ[i]? = some (.tr s) ∧ (S.get p s = some (.own ss) ∨ S.get p s = some (.tp ss)) := by
  unfold nodeAt at h
  split at h
  · rename_i s e1
    split at h
    · rename_i xs e2; cases h; exact ⟨s, e1, .inl e2⟩
    · rename_i xs e2; cases h; exact ⟨s, e1, .inr e2⟩
    · cases h
  · cases h
theorem isNode_get {c : S} (h : isNode c = true) : ∃ ss, c = .own ss ∨ c = .tp ss := by
  cases c with
  | d x => cases h
  | own ss => exact ⟨ss, .inl rfl⟩
  | tp ss => exact ⟨ss, .inr rfl⟩
theorem xp_ix (ho : XP X o mp) (hb : XE X b mb) (hs : PlainIx b := by exact fun _ _ => rfl) : XP X (.Subscript o b pos) (mpIx mp mb) := by
  obtain ⟨t, pt, st⟩ := ho
  obtain ⟨tb, pb, sb⟩ := hb
  refine ⟨_, pe_ix ix_seq pt pb hs, fun G H σ ρ fp i p Q R hm q => ?_⟩
  unfold mpIx at hm
  split at hm
  rotate_left
  · cases hm
  rename_i i0 p0 r e1 e2
  split at hm
  rotate_left
  · cases hm
  rename_i ss j e3 e4
  split at hm
  rotate_left
  · cases hm
  rename_i k e5
  split at hm
  rotate_left
  · cases hm
  rename_i c e6
  split at hm
  rotate_left
  · cases hm
  rename_i e7
  cases hm
  obtain ⟨s, hs1, hs2⟩ := nodeAt_some e3
  refine st G H σ ρ fp i p0 _ R e1 fun v a H1 s' ss' g1 g2 g3 x1 at1 => ?_
  rw [hs1] at g1; cases g1
  refine sb G H1 σ ρ fp r _ (R.grow x1) e2 fun w F H2 x2 o2 => ?_
  have hw := o2.data; rw [e4] at hw; cases hw
  have R2 := (R.grow x1).grow x2
  obtain ⟨v', h1, h2⟩ := R2.sl i _ hs1
  rw [g3] at h1; cases h1
  have at2 := at1.mono x2
  obtain ⟨vs, Fa, ha, hL⟩ := h2.node at2 hs2
  obtain ⟨w, Fc, hk, hc, _⟩ := hL.get e6
  obtain ⟨cs, hcs⟩ := isNode_get e7
  have hat : atI vs j = some w := by
    unfold atI
    rw [← hL.len, e5]
    exact hk
  obtain ⟨b', rfl⟩ : ∃ b', w = .ref b' := by
    rcases hcs with rfl | rfl
    · cases hc; exact ⟨_, rfl⟩
    · cases hc; exact ⟨_, rfl⟩
  have fin := q _ b' H2 s cs hs1 (by rw [S.get_snoc hs2 e6]; exact hcs.imp (congrArg some) (congrArg some)) g3 (x1.trans x2) (at2.snoc ha hk)
  rcases ha with ha | ha
  · exact .inl ⟨_, _, _, _, rfl, rfl, SqL.of ha, hat, fin⟩
  · exact .inr (.inl ⟨_, _, _, _, rfl, rfl, .inl (.inl ha), hat, fin⟩)
/-- xs.append(e) -/
def mAppend (mp : MP) (me : ME) : MS := fun ρ => match mp ρ, me ρ with
  | some (i, p), some r => match ρ[i]?, r.tree with
    | some (.tr s), some t => match S.get p s with
      | some (.own ss) => if ss.length < 100000 then some (.nx ((killVw ρ).set i (.tr (S.put (.own (ss ++ [t])) p s)))) else none
      | _ => none
    | _, _ => none
  | _, _ => none
theorem RepL.snoc {K : PySem.W.Frag} {H : Hp} {ss : List S} {vs : List V} {F Ft : List Addr} {t : S} {w : V} (h : RepL K H ss vs F) (h2 : Rep K H t w Ft) (dj : ∀ a, a ∈ F → a ∉ Ft) : RepL K H (ss ++ [t]) (vs ++ [w]) (F ++ (Ft ++ [])) :=
  h.append (.cons h2 .nil fun _ _ m => by cases m) fun a m z => dj a m (by simpa using z)
theorem xs_append (ho : XP X o mp) (he : XE X e ma)
    (hbase : attributeBase o "append" X.env (eval o X.env) = eval o X.env := by rfl)
    (hfew : ((backTo cpos (starEach (e :: []) X.env)).all (fun x => !x.1) && (backToKw cpos (keywordEach [] X.env)).all (fun x => x.1.isSome)
      && decide ((e :: ([] : List Expr)).length + ([] : List Keyword).length + (if ([] : List Keyword).isEmpty then 0 else 1) < 30)) = true := by rfl)
    (hline : (apos.endLine == cpos.line) = true := by rfl) (hs : starEach (e :: []) X.env = (false, eval e X.env) :: starEach [] X.env := by rfl) (hplain : (backTo cpos (starEach [] X.env)).any (·.1) = false := by rfl)
    (hsw : swapsWith (.Call (.Attribute o "append" apos) [e] [] cpos) none pos.line X.env = pure false := by rfl) : XS X W (.Expr (.Call (.Attribute o "append" apos) [e] [] cpos) pos) (mAppend mp ma) := by
  obtain ⟨to, po, so⟩ := ho
  obtain ⟨te, pe, se⟩ := he
  refine ⟨_, ps_expr (pe_bm PySem.F.plainAttrs_list PySem.F.slot_list_append PySem.F.type_list_append mt_append po (pa_cons pe pa_nil hs) hbase hfew hline hs hplain) hsw, fun G H σ ρ fp oo D R hm q => ?_⟩
  unfold mAppend at hm
  split at hm
  rotate_left
  · cases hm
  rename_i i p r e1 e2
  split at hm
  rotate_left
  · cases hm
  rename_i s t e3 e4
  split at hm
  rotate_left
  · cases hm
  rename_i ss e5
  split at hm
  rotate_left
  · cases hm
  rename_i hl
  cases hm
  refine so G H σ ρ fp i p _ R e1 fun v a H1 s' ss' g1 g2 g3 x1 at1 => ?_
  rw [e3] at g1; cases g1
  have R1 := R.grow x1
  obtain ⟨v', h1, h2⟩ := R1.sl i _ e3
  rw [g3] at h1; cases h1
  obtain ⟨vs, Fa, ha, hL⟩ := h2.node at1 (.inl e5)
  obtain ⟨vs1, Fa1, ha1, hL1, _⟩ := h2.mut at1 e5
  refine ⟨.inl ⟨rfl, _, SqL.of ha1⟩, ?_⟩
  refine se G H1 σ ρ fp r _ R1 e2 fun w F H2 x2 o2 => ?_
  obtain ⟨vs2, Fa2, ha2, hL2, hn2, hsub2, hai, hmut⟩ := R1.mutate x2 e3 g3 (at1.mono x2) e5
  refine ⟨a, vs2, w, rfl, rfl, ha2, ?_, ?_⟩
  · rw [← hL2.len]; exact Evl.sz_lt hl
  · have hT := o2.tree e4
    have hdj : ∀ b, b ∈ Fa2 → b ∉ F := fun b m z => by
      obtain ⟨xs, hb⟩ := R1.ls i b (hsub2 b m)
      rw [o2.fresh b z] at hb; cases hb
    have haF : a ∉ F := fun z => by
      obtain ⟨xs, hb⟩ := R1.ls i a hai
      rw [o2.fresh a z] at hb; cases hb
    have es : Ex (stb H2) (stb (upd H2 a (.lst (vs2 ++ [w])))) := stb_upd ha2
    have r1 : RepL X.K (upd H2 a (.lst (vs2 ++ [w]))) (ss ++ [t]) (vs2 ++ [w]) (Fa2 ++ (F ++ [])) :=
      (hL2.keep ⟨es, fun b m u h => by rw [upd_ne (by rintro rfl; exact hn2 m)]; exact h⟩).snoc (hT.keep ⟨es, fun b m u h => by rw [upd_ne (by rintro rfl; exact haF m)]; exact h⟩) hdj
    obtain ⟨fp', R'⟩ := hmut _ _ _ r1 (fun z => by
      rcases List.mem_append.mp z with z | z
      · exact hn2 z
      · exact haF (by simpa using z)) (fun b m => by
      rcases List.mem_append.mp m with m | m
      · exact .inl m
      · exact .inr (o2.fresh b (by simpa using m)))
    exact q _ _ fp' R'
/-- o[i] = e -/
def mSetIx (mp : MP) (mb me : ME) : MS := fun ρ => match mp ρ, mb ρ, me ρ with
  | some (i, p), some rb, some r => match ρ[i]?, rb.data, r.tree with
    | some (.tr s), .int j, some t => match S.get p s with
      | some (.own ss) => match ixN ss.length j with
        | some k => some (.nx ((killVw ρ).set i (.tr (S.put (.own (ss.set k t)) p s))))
        | none => none
      | _ => none
    | _, _, _ => none
  | _, _, _ => none
theorem RepL.setAt {K : PySem.W.Frag} {H : Hp} {t : S} {w : V} {Ft : List Addr} (h2 : Rep K H t w Ft) : ∀ {ss : List S} {vs : List V} {F : List Addr} {k : Nat}, RepL K H ss vs F → (∀ a, a ∈ F → a ∉ Ft) → ∃ F', RepL K H (ss.set k t) (vs.set k w) F' ∧ ∀ b ∈ F', b ∈ F ∨ b ∈ Ft
  | _, _, _, _, .nil, _ => ⟨[], .nil, fun b m => by cases m⟩
  | _, _, _, 0, .cons (F1 := F1) (F2 := F2) h t dj, d => ⟨Ft ++ F2, .cons h2 t fun b m z => d b (List.mem_append_right _ z) m, fun b m => by
    rcases List.mem_append.mp m with m | m
    · exact .inr m
    · exact .inl (List.mem_append_right _ m)⟩
  | _, _, _, k + 1, .cons (F1 := F1) (F2 := F2) h t dj, d => by
    obtain ⟨F', r, s⟩ := RepL.setAt h2 (k := k) t fun a m => d a (List.mem_append_right _ m)
    refine ⟨F1 ++ F', .cons h r fun b m z => ?_, fun b m => ?_⟩
    · rcases s b z with z | z
      · exact dj b m z
      · exact d b (List.mem_append_left _ m) z
    · rcases List.mem_append.mp m with m | m
      · exact .inl (List.mem_append_left _ m)
      · exact (s b m).imp (List.mem_append_right _) id
theorem xs_setIx (he : XE X e ma) (ho : XP X o mp) (hb : XE X b mb)
    (ha : ∀ v, assign (.Subscript o b apos) X.env v = (do
      let ov ← holding [v] (eval o X.env)
      let iv ← holding [v, ov] (eval b X.env)
      standAt apos
      holding [v, ov, iv] (setItem ov iv v)
      release [v, ov, iv] []) := by intro _; rfl)
    (hs : swapsWithSole [.Subscript o b apos] e pos.line X.env = pure false := by rfl) (hw : swappedStores [.Subscript o b apos] e X.env = pure none := by rfl)
    (h1 : (assignEach [.Subscript o b apos] X.env).map (·.2) = [assign (.Subscript o b apos) X.env] := by rfl) : XS X W (.Assign [.Subscript o b apos] e pos) (mSetIx mp mb ma) := by
  obtain ⟨to, po, so⟩ := ho
  obtain ⟨te, pe, se⟩ := he
  obtain ⟨tb, pb, sb⟩ := hb
  refine ⟨_, ps_asg pe (pg_sub po pb set_list ha) hs hw h1, fun G H σ ρ fp oo D R hm q => ?_⟩
  unfold mSetIx at hm
  split at hm
  rotate_left
  · cases hm
  rename_i i p rb r e1 e2 e3
  split at hm
  rotate_left
  · cases hm
  rename_i s j t e4 e5 e6
  split at hm
  rotate_left
  · cases hm
  rename_i ss e7
  split at hm
  rotate_left
  · cases hm
  rename_i k e8
  cases hm
  refine se G H σ ρ fp r _ R e3 fun w F H1 x1 o1 => ?_
  have R1 := R.grow x1
  refine so G H1 σ ρ fp i p _ R1 e1 fun v a H2 s' ss' g1 g2 g3 x2 at2 => ?_
  rw [e4] at g1; cases g1
  have R2 := R1.grow x2
  refine sb G H2 σ ρ fp rb _ R2 e2 fun y Fy H3 x3 o3 => ?_
  have hy := o3.data; rw [e5] at hy; cases hy
  obtain ⟨vs2, Fa2, ha2, hL2, hn2, hsub2, hai, hmut⟩ := R.mutate ((x1.trans x2).trans x3) e4 g3 (at2.mono x3) e7
  refine ⟨a, vs2, j, k, rfl, rfl, ha2, ?_, ?_⟩
  · rw [← hL2.len]; exact e8
  · have hT := ((o1.tree e6).mono x2).mono x3
    have hdj : ∀ b, b ∈ Fa2 → b ∉ F := fun b m z => by
      obtain ⟨xs, hb⟩ := R.ls i b (hsub2 b m)
      rw [o1.fresh b z] at hb; cases hb
    have haF : a ∉ F := fun z => by
      obtain ⟨xs, hb⟩ := R.ls i a hai
      rw [o1.fresh a z] at hb; cases hb
    have es : Ex (stb H3) (stb (upd H3 a (.lst (vs2.set k w)))) := stb_upd ha2
    obtain ⟨F', r1, s1⟩ := RepL.setAt (k := k) (hT.keep (H' := upd H3 a (.lst (vs2.set k w))) ⟨es, fun b m u h => by rw [upd_ne (by rintro rfl; exact haF m)]; exact h⟩) (hL2.keep ⟨es, fun b m u h => by rw [upd_ne (by rintro rfl; exact hn2 m)]; exact h⟩) hdj
    obtain ⟨fp', R'⟩ := hmut _ _ _ r1 (fun z => by
      rcases s1 a z with z | z
      · exact hn2 z
      · exact haF z) (fun b m => (s1 b m).imp id (o1.fresh b))
    exact q _ _ fp' R'
end
end DL

set_option Elab.async false
set_option linter.all false
set_option maxRecDepth 100000
set_option maxHeartbeats 4000000
/-! zip(*rows): any number of lists of one length; the target a name. -/
namespace ZN
open PySem PySem.Spec PyProof.Rows
open Sem (wp)
abbrev IsZ (h : Heap) (z TI TO : Addr) (f0 f1 : Value) : Prop :=
  h.get? z = some { cls := .type "zip", dict := none, data := .fields #[f0, f1, .bool false, .ref TI, .ref TO], slots := #[] }
abbrev IsTu (h : Heap) (T : Addr) (xs : List Value) : Prop := h.get? T = some { cls := .type "tuple", data := .seq xs.toArray }
structure Ap (z TI TO : Addr) (its ls : List Addr) : Prop where
  TIz : TI ≠ z
  TOz : TO ≠ z
  TITO : TI ≠ TO
  zi : z ∉ its
  TIi : TI ∉ its
  TOi : TO ∉ its
  nd : its.Nodup
  ll : ∀ l ∈ ls, l ≠ z ∧ l ≠ TO ∧ l ∉ its
/-- the iterators at their places, over these lists -/
def Good (its ls : List Addr) (cols : List (Array Value)) (pos : Nat → Nat) (h : Heap) : Prop :=
  ∀ j p, its[j]? = some p → ∃ l xs, ls[j]? = some l ∧ cols[j]? = some xs ∧ h.IsListIter p l (pos j) ∧ h.IsList l xs
theorem Good.at {its ls : List Addr} {cols : List (Array Value)} {pos : Nat → Nat} {h h' : Heap} (g : Good its ls cols pos h) (k : ∀ c o, c ∈ its ∨ c ∈ ls → h.get? c = some o → h'.get? c = some o) : Good its ls cols pos h' := fun j p e => by
  obtain ⟨l, xs, h1, h2, h3, ⟨o, ho, r⟩⟩ := g j p e
  exact ⟨l, xs, h1, h2, h3.at fun o q => k p o (.inl (List.mem_of_getElem? e)) q, ⟨o, k l o (.inr (List.mem_of_getElem? h1)) ho, r⟩⟩
def posK (k i : Nat) : Nat → Nat := fun j => if j < k then i + 1 else i
theorem posK_succ {k i j : Nat} (h : j ≠ k) : posK (k + 1) i j = posK k i j := by
  unfold posK
  by_cases h1 : j < k
  · rw [if_pos h1, if_pos (by omega)]
  · rw [if_neg h1, if_neg (by omega)]
theorem posK_self {k i : Nat} : posK (k + 1) i k = i + 1 := by unfold posK; rw [if_pos (by omega)]
theorem posK_at {k i : Nat} : posK k i k = i := by unfold posK; rw [if_neg (by omega)]
/-- one iterator is drawn -/
theorem Good.draw {its ls : List Addr} {cols : List (Array Value)} {i k : Nat} {h h' : Heap} {p l : Addr} {z TI TO : Addr} (D : Ap z TI TO its ls) (g : Good its ls cols (posK k i) h) (e : its[k]? = some p) (hl : ls[k]? = some l) (it : h'.IsListIter p l (i + 1)) (sb : ∀ c o, c ≠ p → h.get? c = some o → h'.get? c = some o) : Good its ls cols (posK (k + 1) i) h' := fun j q ej => by
  obtain ⟨l', xs, h1, h2, h3, ⟨o, ho, r⟩⟩ := g j q ej
  have hlp : l' ≠ p := fun z => (D.ll l' (List.mem_of_getElem? h1)).2.2 (z ▸ List.mem_of_getElem? e)
  refine ⟨l', xs, h1, h2, ?_, ⟨o, sb _ _ hlp ho, r⟩⟩
  by_cases hj : j = k
  · subst hj
    rw [e] at ej; cases ej
    rw [hl] at h1; cases h1
    rw [posK_self]; exact it
  · have hne : q ≠ p := fun z => by
      subst z
      obtain ⟨a1, b1⟩ := List.getElem?_eq_some_iff.mp e
      obtain ⟨a2, b2⟩ := List.getElem?_eq_some_iff.mp ej
      exact hj ((List.getElem_inj D.nd).mp (b2.trans b1.symm))
    rw [posK_succ hj]
    exact h3.at fun o q' => sb _ o hne q'
/-- the items of a turn -/
def Row (cols : List (Array Value)) (i : Nat) (us : List Value) : Prop := us.length = cols.length ∧ ∀ (j : Nat) (xs : Array Value) (u : Value), cols[j]? = some xs → us[j]? = some u → xs[i]? = some u
section
variable {prog : Program} {w : World} {A : Around} {E : Value → Shared → Prop} {s : Shared}
theorem wpAny_alive {a : Addr} {Q : Option Obj → Shared → Prop} (h : Q (s.heap.get? a) s) : wpAny (model prog w) A (loadIfAlive a) Q E s := fun Γ p hΓ => by
  unfold loadIfAlive
  rw [Sem.wp_loadIfAlive]
  exact (wpAny_pure (M := model prog w) (A := A) (E := E) h) Γ p hΓ
abbrev Chg (z TO : Addr) (its : List Addr) (h h' : Heap) : Prop := ∀ c o, c ≠ z → c ≠ TO → c ∉ its → h.get? c = some o → h'.get? c = some o
theorem zipIdx_drop {α : Type} {xs : List α} {k : Nat} {x : α × Nat} {rest : List (α × Nat)} (h : x :: rest = xs.zipIdx.drop k) : xs[k]? = some x.1 ∧ x.2 = k ∧ rest = xs.zipIdx.drop (k + 1) := by
  have h1 : xs.zipIdx[k]? = some x := by
    have := congrArg List.head? h
    rw [List.head?_drop] at this
    exact this.symm
  rw [List.getElem?_zipIdx, Option.map_eq_some_iff] at h1
  obtain ⟨a, h2, h3⟩ := h1
  subst h3
  refine ⟨h2, by simp, ?_⟩
  have := congrArg List.tail h
  rw [List.tail_drop] at this
  exact this
theorem drop_cons {α : Type} {xs : List α} {k : Nat} {x : α} {rest : List α} (h : x :: rest = xs.drop k) : xs[k]? = some x ∧ rest = xs.drop (k + 1) := by
  have h1 : xs[k]? = some x := by
    have := congrArg List.head? h
    rw [List.head?_drop] at this
    exact this.symm
  have := congrArg List.tail h
  rw [List.tail_drop] at this
  exact ⟨h1, this⟩
theorem next_item {z TI TO : Addr} {its ls : List Addr} {cols : List (Array Value)} {kept us : List Value} {f0 f1 : Value} {i : Nat} {Q : Value → Shared → Prop} (D : Ap z TI TO its ls)
    (hf0 : f0 = .none ∨ ∃ T : Addr, f0 = rawInt T)
    (hz : IsZ s.heap z TI TO f0 f1) (hTI : IsTu s.heap TI (its.map Value.ref)) (hTO : IsTu s.heap TO kept) (hk : kept.length = its.length) (hne : its ≠ []) (hlen : its.length ≤ 100) (hc : cols.length = its.length)
    (hg : Good its ls cols (fun _ => i) s.heap) (hus : Row cols i us)
    (hQ : ∀ h' f0' f1' kept', (f0' = .none ∨ ∃ T : Addr, f0' = rawInt T) → IsZ h' z TI TO f0' f1' → IsTu h' TO kept' → kept'.length = its.length → Good its ls cols (fun _ => i + 1) h' → IsTu h' s.heap.objs.size us → h'.objs.size = s.heap.objs.size + 1 → Chg z TO its s.heap h' → Q (.ref s.heap.objs.size) { s with heap := h' }) :
    wpAny (model prog w) A (Builtin.«zip.__next__» ⟨[.ref z], []⟩) (fun fin s' => ∃ v, fin = .done (.ret v) ∧ Q v s') E s := by
  show wpAny _ _ (field (.ref z) 2 >>= _) _ _ _
  refine wpAny_bind (wpAny_field hz rfl (x := .bool false) rfl ?_)
  show wpAny _ _ (field (.ref z) 3 >>= _) _ _ _
  refine wpAny_bind (wpAny_field hz rfl (x := .ref TI) rfl ?_)
  refine wpAny_bind (wpAny_seqItems hTI rfl ?_)
  have he : (its.map Value.ref).toArray.isEmpty = false := by
    cases its with
    | nil => exact absurd rfl hne
    | cons a r => rfl
  simp only [he, Bool.false_eq_true, if_false]
  have hul : us.length = its.length := hus.1.trans hc
  have item : ∀ k p, its[k]? = some p → ∃ l xs u, ls[k]? = some l ∧ cols[k]? = some xs ∧ us[k]? = some u ∧ xs[i]? = some u := fun k p e => by
    obtain ⟨l, xs, h1, h2, _⟩ := hg k p e
    have hk : k < us.length := by
      have := (List.getElem?_eq_some_iff.mp e).1
      omega
    exact ⟨l, xs, us[k], h1, h2, List.getElem?_eq_getElem hk, hus.2 k xs _ h2 (List.getElem?_eq_getElem hk)⟩
  have init : Good its ls cols (posK 0 i) s.heap := by
    have e : posK 0 i = fun _ => i := by funext j; unfold posK; rw [if_neg (by omega)]
    rw [e]; exact hg
  have fin1 : ∀ h, Good its ls cols (posK its.length i) h → Good its ls cols (fun _ => i + 1) h := fun h g j p e => by
    obtain ⟨l, xs, h1, h2, h3, h4⟩ := g j p e
    have hj := (List.getElem?_eq_some_iff.mp e).1
    have : posK its.length i j = i + 1 := by unfold posK; rw [if_pos hj]
    rw [this] at h3
    exact ⟨l, xs, h1, h2, h3, h4⟩
  have hzlt : z < s.heap.objs.size := Heap.lt_size hz
  have hTOlt : TO < s.heap.objs.size := Heap.lt_size hTO
  have itlt : ∀ c ∈ its, c < s.heap.objs.size := fun c m => by
    obtain ⟨j, e⟩ := List.getElem?_of_mem m
    obtain ⟨l, xs, _, _, ⟨o, ho, _⟩, _⟩ := hg j c e
    exact Heap.lt_size ho
  have lslt : ∀ c ∈ its, ∀ o, s.heap.get? c = some o → c < s.heap.objs.size := fun c m o e => Heap.lt_size e
  show wpAny _ _ (Builtin.SmallTypes.ownedTupleIsFree (.ref z) >>= _) _ _ _
  have free : wpAny (model prog w) A (Builtin.SmallTypes.ownedTupleIsFree (.ref z)) (fun b s' => (b = true ∧ s' = s) ∨ (b = false ∧ ∃ g1 h0, s' = { s with heap := h0 } ∧ IsZ h0 z TI TO f0 g1 ∧ Heap.SameBut z s.heap h0)) E s := by
    unfold Builtin.SmallTypes.ownedTupleIsFree
    rcases hf0 with rfl | ⟨T, rfl⟩
    · exact wpAny_bind (wpAny_field hz rfl (x := .none) rfl (wpAny_pure (.inl ⟨rfl, rfl⟩)))
    · refine wpAny_bind (wpAny_field hz rfl (x := rawInt T) rfl ?_)
      show wpAny _ _ (loadIfAlive _ >>= _) _ _ _
      refine wpAny_bind (wpAny_alive ?_)
      cases hT : s.heap.get? (Int.toNat (T : Int)) with
      | none => exact wpAny_pure (.inl ⟨rfl, rfl⟩)
      | some o =>
        show wpAny _ _ (field (.ref z) 1 >>= _) _ _ _
        refine wpAny_bind (wpAny_field hz rfl (x := f1) rfl ?_)
        by_cases hb : (f1 != Value.bool true) = true
        · rw [if_pos hb]
          refine wpAny_bind (wpAny_setField_rec hz (by simp) fun h₁ hz₁ hs₁ => wpAny_pure (.inr ⟨rfl, .bool true, h₁, rfl, hz₁, hs₁⟩))
        · rw [if_neg hb]
          exact wpAny_bind (wpAny_pure (wpAny_pure (.inr ⟨rfl, f1, s.heap, rfl, hz, Heap.SameBut.refl _ _⟩)))
  refine wpAny_bind (wpAny_mono free (fun b s' hh => ?_) fun _ _ x => x)
  rcases hh with ⟨rfl, hss⟩ | ⟨rfl, g1, h0, rfl, hz0, sb0⟩
  · rw [hss]
    simp only [if_true]
    refine wpAny_bind (wpAny_rule ?_)
    refine wpAny_bind (wpAny_field hz rfl (x := .ref TO) rfl ?_)
    have hz0 := hz
    refine wpAny_bind (wpAny_setField_rec hz0 (by simp) fun h₁ hz₁ hs₁ => ?_)
    replace hz₁ : IsZ h₁ z TI TO .ellipsis f1 := hz₁
    refine wpAny_bind (wpAny_forIn_list _ (fun rest b s' => ∃ k h' kp, rest = (its.map Value.ref).zipIdx.drop k ∧ k ≤ its.length ∧ b = (none, ()) ∧ s' = { s with heap := h' } ∧ Good its ls cols (posK k i) h' ∧ h'.objs.size = s.heap.objs.size ∧
      IsZ h' z TI TO .ellipsis f1 ∧ IsTu h' TO kp ∧ kp.length = its.length ∧ (∀ j, j < k → kp[j]? = us[j]?) ∧ Chg z TO its s.heap h') _ ?turn ?fin _ _ ?init)
    case init =>
      refine ⟨0, h₁, kept, by simp, Nat.zero_le _, rfl, rfl, init.at fun c o m e => ?_, hs₁.1, hz₁, (hs₁.2 _ D.TOz).trans hTO, hk, fun j h => by omega, fun c o c1 _ _ e => (hs₁.2 c c1).trans e⟩
      refine (hs₁.2 c ?_).trans e
      rcases m with m | m
      · intro q; exact D.zi (q ▸ m)
      · exact (D.ll c m).1
    case turn =>
      rintro x rest b s' ⟨k, h', kp, hr, hkl, rfl, rfl, g, hsz, hz', hTO', hkp, hkj, hch⟩
      obtain ⟨hx, hx2, hr2⟩ := zipIdx_drop hr
      rw [List.getElem?_map, Option.map_eq_some_iff] at hx
      obtain ⟨p, hp, hpx⟩ := hx
      obtain ⟨xv, xk⟩ := x
      simp only at hpx hx2
      subst hpx hx2
      obtain ⟨l, xs, u, h1, h2, h3, h4⟩ := item xk p hp
      obtain ⟨l', xs', q1, q2, q3, q4⟩ := g xk p hp
      rw [h1] at q1; cases q1
      rw [h2] at q2; cases q2
      rw [posK_at] at q3
      have hpz : z ≠ p := fun q => D.zi (q ▸ List.mem_of_getElem? hp)
      have hpT : TO ≠ p := fun q => D.TOi (q ▸ List.mem_of_getElem? hp)
      refine wpAny_bind (wpAny_onRaise (wpAny_bind (wpAny_nextOf_list_item q3 q4 h4 fun h2' it2 sb2 => wpAny_pure ?_)))
      have hTO2 : IsTu h2' TO kp := (sb2.2 TO hpT).trans hTO'
      refine wpAny_bind (wpAny_seqItems hTO2 rfl ?_)
      refine wpAny_bind (wpAny_updateSeq (s := { s with heap := h2' }) hTO2 rfl ?_ (by rw [List.size_toArray]; exact Nat.le_trans (by omega) (by decide : 100 ≤ sizeLine)) (by rw [Array.size_setIfInBounds, List.size_toArray]; exact Nat.le_trans (by omega) (by decide : 100 ≤ sizeLine + 1)))
      have hTO3 : IsTu (h2'.update TO (Obj.mapSeq fun x_2 => x_2.setIfInBounds xk u)) TO (kp.set xk u) := by
        have e1 := Heap.get?_update_self (Obj.mapSeq fun x_2 => x_2.setIfInBounds xk u) hTO2 rfl
        refine e1.trans ?_
        simp [Obj.mapSeq]
      have sb3 : Heap.SameBut TO h2' (h2'.update TO (Obj.mapSeq fun x_2 => x_2.setIfInBounds xk u)) := Heap.SameBut.update ..
      refine wpAny_bind (wpAny_letGo (wpAny_pure ?_))
      have hxk := (List.getElem?_eq_some_iff.mp hp).1
      refine ⟨xk + 1, _, kp.set xk u, hr2, by omega, rfl, rfl, ?_, sb3.1.trans (sb2.1.trans hsz), (sb3.2 z D.TOz.symm).trans ((sb2.2 z hpz).trans hz'), hTO3, by rw [List.length_set]; exact hkp, fun j hj => ?_, fun c o c1 c2 c3 e => (sb3.2 c c2).trans ((sb2.2 c (fun q => c3 (q ▸ List.mem_of_getElem? hp))).trans (hch c o c1 c2 c3 e))⟩
      · refine (g.draw D hp h1 it2 fun c o c1 e => (sb2.2 c c1).trans e).at fun c o m e => (sb3.2 c ?_).trans e
        rcases m with m | m
        · intro q; exact D.TOi (q ▸ m)
        · exact (D.ll c m).2.1
      · by_cases hj2 : j = xk
        · subst hj2
          rw [List.getElem?_set_self (by omega), h3]
        · rw [List.getElem?_set_ne (Ne.symm hj2)]; exact hkj j (by omega)
    case fin =>
      rintro b s' ⟨k, h', kp, hr, hkl, rfl, rfl, g, hsz, hz', hTO', hkp, hkj, hch⟩
      have hkl2 : k = its.length := by
        have := congrArg List.length hr
        rw [List.length_drop, List.length_zipIdx, List.length_map, List.length_nil] at this
        omega
      subst hkl2
      have hkus : kp = us := by
        apply List.ext_getElem?
        intro j
        by_cases hj : j < its.length
        · exact hkj j hj
        · rw [List.getElem?_eq_none (by omega), List.getElem?_eq_none (by omega)]
      subst hkus
      show wpAny _ _ (seqItems? (.ref TO) >>= _) _ _ _
      refine wpAny_bind (wpAny_seqItems hTO' rfl ?_)
      show wpAny _ _ (newTuple _ >>= _) _ _ _
      refine wpAny_bind (wpAny_newTuple ?_ (Nat.le_trans (by rw [List.toList_toArray]; omega) (by decide : 100 ≤ sizeLine)))
      show wpAny _ _ (Builtin.SmallTypes.ownedTupleHandOut (.ref z) (.ref h'.objs.size) >>= _) _ _ _
      refine wpAny_bind ?_
      unfold Builtin.SmallTypes.ownedTupleHandOut
      have hz₆ : IsZ (h'.push { cls := .type "tuple", data := .seq kp.toArray }) z TI TO .ellipsis f1 := Heap.get?_push_of_some _ hz'
      refine wpAny_bind (wpAny_setField_rec hz₆ (by simp) fun h₇ hz₇ hs₇ => ?_)
      replace hz₇ : IsZ h₇ z TI TO (rawInt h'.objs.size) f1 := hz₇
      refine wpAny_setField_rec hz₇ (by simp) fun h₈ hz₈ hs₈ => ?_
      replace hz₈ : IsZ h₈ z TI TO (rawInt h'.objs.size) (.bool false) := hz₈
      have up : ∀ c o, c ≠ z → h'.get? c = some o → h₈.get? c = some o := fun c o c1 e => (hs₈.2 _ c1).trans ((hs₇.2 _ c1).trans (Heap.get?_push_of_some _ e))
      have hne' : h'.objs.size ≠ z := by rw [hsz]; exact Nat.ne_of_gt hzlt
      have hT₈ : IsTu h₈ h'.objs.size kp := (hs₈.2 _ hne').trans ((hs₇.2 _ hne').trans (Heap.get?_push_size _ rfl))
      refine wpAny_pure ⟨_, rfl, ?_⟩
      show Q (.ref h'.objs.size) _
      rw [hsz] at hT₈ ⊢
      refine hQ _ _ _ kp (.inr ⟨_, rfl⟩) hz₈ (up _ _ D.TOz hTO') hkp (fin1 _ (g.at fun c o m e => up c o ?_ e)) hT₈ (by rw [hs₈.1, hs₇.1, Heap.size_push, hsz]) fun c o c1 c2 c3 e => up c o c1 (hch c o c1 c2 c3 e)
      rcases m with m | m
      · intro q; exact D.zi (q ▸ m)
      · exact (D.ll c m).1
  · have hf := hf0
    simp only [Bool.false_eq_true, if_false]
    refine wpAny_bind (PySem.MeetsSeq2.wpAny_forIn_array _ (fun rest b s' => ∃ k h', rest = (its.map Value.ref).drop k ∧ k ≤ its.length ∧ b = (none, (us.take k).toArray) ∧ s' = { s with heap := h' } ∧ Good its ls cols (posK k i) h' ∧ h'.objs.size = s.heap.objs.size ∧
      IsZ h' z TI TO f0 g1 ∧ IsTu h' TO kept ∧ Chg z TO its s.heap h') _ ?turn ?fin _ _ ?init)
    case init =>
      refine ⟨0, h0, by simp, Nat.zero_le _, by simp, rfl, init.at fun c o m e => ?_, sb0.1, hz0, (sb0.2 _ D.TOz).trans hTO, fun c o c1 _ _ e => (sb0.2 c c1).trans e⟩
      refine (sb0.2 c ?_).trans e
      rcases m with m | m
      · intro q; exact D.zi (q ▸ m)
      · exact (D.ll c m).1
    case turn =>
      rintro x rest b s' ⟨k, h', hr, hkl, rfl, rfl, g, hsz, hz', hTO', hch⟩
      obtain ⟨hx, hr2⟩ := drop_cons hr
      rw [List.getElem?_map, Option.map_eq_some_iff] at hx
      obtain ⟨p, hp, rfl⟩ := hx
      obtain ⟨l, xs, u, h1, h2, h3, h4⟩ := item k p hp
      obtain ⟨l', xs', q1, q2, q3, q4⟩ := g k p hp
      rw [h1] at q1; cases q1
      rw [h2] at q2; cases q2
      rw [posK_at] at q3
      refine wpAny_bind (wpAny_holding (wpAny_bind (wpAny_nextOf_list_item q3 q4 h4 fun h2' it2 sb2 => wpAny_pure ?_)))
      have hpz : z ≠ p := fun q => D.zi (q ▸ List.mem_of_getElem? hp)
      have hpT : TO ≠ p := fun q => D.TOi (q ▸ List.mem_of_getElem? hp)
      refine wpAny_pure ⟨k + 1, h2', hr2, by have := (List.getElem?_eq_some_iff.mp hp).1; omega, ?_, rfl, g.draw D hp h1 it2 fun c o c1 e => (sb2.2 c c1).trans e, sb2.1.trans hsz, (sb2.2 z hpz).trans hz', (sb2.2 TO hpT).trans hTO', fun c o c1 c2 c3 e => (sb2.2 c (fun q => c3 (q ▸ List.mem_of_getElem? hp))).trans (hch c o c1 c2 c3 e)⟩
      simp only [Prod.mk.injEq, true_and]
      rw [List.take_add_one, h3]
      simp
    case fin =>
      rintro b s' ⟨k, h', hr, hkl, rfl, rfl, g, hsz, hz', hTO', hch⟩
      have hkl2 : k = its.length := by
        have := congrArg List.length hr
        rw [List.length_drop, List.length_map, List.length_nil] at this
        omega
      subst hkl2
      show wpAny _ _ (newTuple _ >>= _) _ _ _
      have hz5 : h'.objs.size = s.heap.objs.size := hsz
      have hll : us.take its.length = us := List.take_of_length_le (by omega)
      rw [hll]
      refine wpAny_bind (wpAny_newTuple ?_ (Nat.le_trans (by rw [List.toList_toArray]; omega) (by decide : 100 ≤ sizeLine)))
      refine wpAny_pure ⟨_, rfl, ?_⟩
      show Q (.ref h'.objs.size) _
      rw [hz5]
      refine hQ _ f0 g1 kept hf (Heap.get?_push_of_some _ hz') (Heap.get?_push_of_some _ hTO') hk (fin1 _ (g.at fun c o _ e => Heap.get?_push_of_some _ e)) ?_ (by rw [Heap.size_push, hz5]) fun c o c1 c2 c3 e => Heap.get?_push_of_some _ (hch c o c1 c2 c3 e)
      rw [← hz5]
      exact Heap.get?_push_size h' (o := { cls := .type "tuple", data := .seq us.toArray }) rfl

theorem next_end {z TI TO : Addr} {its ls : List Addr} {kept : List Value} {f0 f1 : Value} {i : Nat} {Q : Fin → Shared → Prop} (hh : A.handled = none) (D : Ap z TI TO its ls)
    (hf0 : f0 = .none ∨ ∃ T : Addr, f0 = rawInt T)
    (hz : IsZ s.heap z TI TO f0 f1) (hTI : IsTu s.heap TI (its.map Value.ref)) (hTO : IsTu s.heap TO kept) {p l : Addr} {r : List Addr} {xs : Array Value} (hir : its = p :: r)
    (h1 : ls[0]? = some l) (h3 : s.heap.IsListIter p l i) (h4 : s.heap.IsList l xs) (hx : xs[i]? = none)
    (hE : ∀ h' e, Chg z TO its s.heap h' → (∃ o, h'.get? e = some o ∧ o.cls = .type "StopIteration") → E (.ref e) { s with heap := h' }) :
    wpAny (model prog w) A (Builtin.«zip.__next__» ⟨[.ref z], []⟩) Q E s := by
  show wpAny _ _ (field (.ref z) 2 >>= _) _ _ _
  refine wpAny_bind (wpAny_field hz rfl (x := .bool false) rfl ?_)
  show wpAny _ _ (field (.ref z) 3 >>= _) _ _ _
  refine wpAny_bind (wpAny_field hz rfl (x := .ref TI) rfl ?_)
  refine wpAny_bind (wpAny_seqItems hTI rfl ?_)
  subst hir
  have he : ((p :: r).map Value.ref).toArray.isEmpty = false := rfl
  simp only [he, Bool.false_eq_true, if_false]
  have hpz : z ≠ p := fun q => D.zi (q ▸ List.mem_cons_self)
  have hlz : l ≠ z := (D.ll l (List.mem_of_getElem? h1)).1
  show wpAny _ _ (Builtin.SmallTypes.ownedTupleIsFree (.ref z) >>= _) _ _ _
  have free : wpAny (model prog w) A (Builtin.SmallTypes.ownedTupleIsFree (.ref z)) (fun b s' => (b = true ∧ s' = s) ∨ (b = false ∧ ∃ g1 h0, s' = { s with heap := h0 } ∧ IsZ h0 z TI TO f0 g1 ∧ Heap.SameBut z s.heap h0)) E s := by
    unfold Builtin.SmallTypes.ownedTupleIsFree
    rcases hf0 with rfl | ⟨T, rfl⟩
    · exact wpAny_bind (wpAny_field hz rfl (x := .none) rfl (wpAny_pure (.inl ⟨rfl, rfl⟩)))
    · refine wpAny_bind (wpAny_field hz rfl (x := rawInt T) rfl ?_)
      show wpAny _ _ (loadIfAlive _ >>= _) _ _ _
      refine wpAny_bind (wpAny_alive ?_)
      cases hT : s.heap.get? (Int.toNat (T : Int)) with
      | none => exact wpAny_pure (.inl ⟨rfl, rfl⟩)
      | some o =>
        show wpAny _ _ (field (.ref z) 1 >>= _) _ _ _
        refine wpAny_bind (wpAny_field hz rfl (x := f1) rfl ?_)
        by_cases hb : (f1 != Value.bool true) = true
        · rw [if_pos hb]
          refine wpAny_bind (wpAny_setField_rec hz (by simp) fun h₁ hz₁ hs₁ => wpAny_pure (.inr ⟨rfl, .bool true, h₁, rfl, hz₁, hs₁⟩))
        · rw [if_neg hb]
          exact wpAny_bind (wpAny_pure (wpAny_pure (.inr ⟨rfl, f1, s.heap, rfl, hz, Heap.SameBut.refl _ _⟩)))
  refine wpAny_bind (wpAny_mono free (fun b s' hh' => ?_) fun _ _ x => x)
  rcases hh' with ⟨rfl, hss⟩ | ⟨rfl, g1, h0, rfl, hz0, sb0⟩
  · rw [hss]
    simp only [if_true]
    refine wpAny_bind (wpAny_rule ?_)
    refine wpAny_bind (wpAny_field hz rfl (x := .ref TO) rfl ?_)
    refine wpAny_bind (wpAny_setField_rec hz (by simp) fun h₁ hz₁ hs₁ => ?_)
    replace hz₁ : IsZ h₁ z TI TO .ellipsis f1 := hz₁
    refine wpAny_bind ?_
    simp only [List.map_cons, List.zipIdx_cons, List.forIn_cons]
    refine wpAny_bind (wpAny_bind (wpAny_onRaise ?_))
    show wpAny _ _ (Builtin.SmallTypes.nextOf (.ref p) >>= _) _ _ _
    refine wpAny_bind (wpAny_nextOf_list_end hh (h3.extBut hs₁.extBut hpz.symm) (h4.extBut hs₁.extBut hlz) hx fun h₂ e hs₂ he => ?_)
    obtain ⟨oe, hoe, hce⟩ := he
    have hz₂ : IsZ h₂ z TI TO .ellipsis f1 := hs₂ _ _ hpz hz₁
    have hez : e ≠ z := fun x => by subst x; rw [hz₂] at hoe; cases hoe; simp at hce
    refine wpAny_setField_rec hz₂ (by simp) fun h₃ _ hs₃ => hE h₃ e (fun c o c1 _ c3 x => hs₃.extBut _ _ c1 (hs₂ _ _ (fun q => c3 (q ▸ List.mem_cons_self)) (hs₁.extBut _ _ c1 x))) ⟨oe, hs₃.extBut _ _ hez hoe, hce⟩
  · simp only [Bool.false_eq_true, if_false]
    refine wpAny_bind ?_
    simp only [List.map_cons]
    rw [← Array.forIn_toList]
    simp only [List.forIn_cons]
    refine wpAny_bind (wpAny_bind (wpAny_holding ?_))
    show wpAny _ _ (Builtin.SmallTypes.nextOf (.ref p) >>= _) _ _ _
    refine wpAny_bind (wpAny_nextOf_list_end (s := { s with heap := h0 }) hh (h3.extBut sb0.extBut hpz.symm) (h4.extBut sb0.extBut hlz) hx fun h₂ e hs₂ he => ?_)
    exact hE h₂ e (fun c o c1 _ c3 x => hs₂ _ _ (fun q => c3 (q ▸ List.mem_cons_self)) (sb0.extBut _ _ c1 x)) he
theorem pyNext_item {z TI TO : Addr} {its ls : List Addr} {cols : List (Array Value)} {kept us : List Value} {f0 f1 : Value} {i : Nat} {Q : Option Value → Shared → Prop} (D : Ap z TI TO its ls)
    (hf0 : f0 = .none ∨ ∃ T : Addr, f0 = rawInt T)
    (hz : IsZ s.heap z TI TO f0 f1) (hTI : IsTu s.heap TI (its.map Value.ref)) (hTO : IsTu s.heap TO kept) (hk : kept.length = its.length) (hne : its ≠ []) (hlen : its.length ≤ 100) (hc : cols.length = its.length)
    (hg : Good its ls cols (fun _ => i) s.heap) (hus : Row cols i us)
    (hQ : ∀ h' f0' f1' kept', (f0' = .none ∨ ∃ T : Addr, f0' = rawInt T) → IsZ h' z TI TO f0' f1' → IsTu h' TO kept' → kept'.length = its.length → Good its ls cols (fun _ => i + 1) h' → IsTu h' s.heap.objs.size us → h'.objs.size = s.heap.objs.size + 1 → Chg z TO its s.heap h' → Q (some (.ref s.heap.objs.size)) { s with heap := h' }) :
    wpAny (model prog w) A (pyNext (.ref z)) Q E s := by
  have hT : s.TypeIs (.ref z) "zip" := ⟨_, hz, rfl⟩
  unfold pyNext
  exact wpAny_bind (wpAny_attempt (wpAny_callSpecial?_slot (name := Str.ofString "__next__") hT F.slot_zip_next
    (wpAny_call_entry F.slot_zip_next hT F.entry_zip_next
      (next_item D hf0 hz hTI hTO hk hne hlen hc hg hus fun h' a b c a0 a1 a2 a3 a4 a5 a6 a7 => wpAny_pure (hQ h' a b c a0 a1 a2 a3 a4 a5 a6 a7)) (F.args_zip_next_1 _))))
theorem pyNext_end {z TI TO : Addr} {its ls : List Addr} {kept : List Value} {f0 f1 : Value} {i : Nat} {Q : Option Value → Shared → Prop} (hh : A.handled = none) (D : Ap z TI TO its ls)
    (hf0 : f0 = .none ∨ ∃ T : Addr, f0 = rawInt T)
    (hz : IsZ s.heap z TI TO f0 f1) (hTI : IsTu s.heap TI (its.map Value.ref)) (hTO : IsTu s.heap TO kept) {p l : Addr} {r : List Addr} {xs : Array Value} (hir : its = p :: r)
    (h1 : ls[0]? = some l) (h3 : s.heap.IsListIter p l i) (h4 : s.heap.IsList l xs) (hx : xs[i]? = none)
    (hQ : ∀ h', Chg z TO its s.heap h' → Q none { s with heap := h' }) : wpAny (model prog w) A (pyNext (.ref z)) Q E s := by
  have hT : s.TypeIs (.ref z) "zip" := ⟨_, hz, rfl⟩
  unfold pyNext
  refine wpAny_bind (wpAny_attempt (wpAny_callSpecial?_slot (name := Str.ofString "__next__") hT F.slot_zip_next
    (wpAny_call_entry F.slot_zip_next hT F.entry_zip_next (next_end hh D hf0 hz hTI hTO hir h1 h3 h4 hx fun h' e hk he => ?_) (F.args_zip_next_1 _))))
  obtain ⟨o, ho, hc⟩ := he
  refine wpAny_bind (wpAny_isInstance (T := "StopIteration") (b := true) ⟨o, ho, hc⟩ isSubtype_stop ?_)
  exact wpAny_pure (hQ _ hk)
theorem pyIter_zip {z TI TO : Addr} {f0 f1 : Value} {Q : Value → Shared → Prop} (hz : IsZ s.heap z TI TO f0 f1) (h : Q (.ref z) s) : wpAny (model prog w) A (pyIter (.ref z)) Q E s := by
  have hT : s.TypeIs (.ref z) "zip" := ⟨_, hz, rfl⟩
  refine wpAny_pyIter_slot hT F.slot_zip_iter (wpAny_call_entry F.slot_zip_iter hT F.entry_zip_iter ?_ (F.args_zip_iter_1 _))
  show wpAny _ _ (ret (.ref z)) _ _ s
  exact wpAny_pure ⟨_, rfl, "zip", _, hT, F.slot_zip_next.lookup, h⟩
end
theorem typeCall_zip (vs : List Value) : checkTypeCall "zip" ⟨vs, []⟩ = pure () := by kernel_rfl
theorem newCall_zip : ∀ vs : List Value, vs.length ≤ 6 → checkBuiltinCall "zip.__new__" ⟨.type "zip" :: vs, []⟩ = pure ()
  | [], _ => by kernel_rfl
  | [_], _ => by kernel_rfl
  | [_, _], _ => by kernel_rfl
  | [_, _, _], _ => by kernel_rfl
  | [_, _, _, _], _ => by kernel_rfl
  | [_, _, _, _, _], _ => by kernel_rfl
  | [_, _, _, _, _, _], _ => by kernel_rfl
  | _ :: _ :: _ :: _ :: _ :: _ :: _ :: r, h => absurd h (by simp)
theorem args_init (a : Value) (vs : List Value) : argsOk "object.__init__" ⟨a :: vs, []⟩ := by
  unfold argsOk; rw [signature?_of (id := "object.__init__") (n := ['_', '_', 't', 'i', 'n', 'i', '_', '_']) (o := ['t', 'c', 'e', 'j', 'b', 'o']) (by kernel_rfl) F.owner_object]; kernel_rfl
section
variable {prog : Program} {w : World} {A : Around} {E : Value → Shared → Prop} {s : Shared}
/-- the new iterators' addresses -/
def itsOf (n : Nat) (ls : List Addr) : List Addr := (List.range ls.length).map (n + ·)
theorem itsOf_at {n j : Nat} {ls : List Addr} {p : Addr} (h : (itsOf n ls)[j]? = some p) : p = n + j ∧ j < ls.length := by
  unfold itsOf at h
  rw [List.getElem?_map, Option.map_eq_some_iff] at h
  obtain ⟨k, h1, rfl⟩ := h
  have h2 := (List.getElem?_eq_some_iff.mp h1).1
  rw [List.length_range] at h2
  rw [List.getElem?_range h2] at h1
  cases h1
  exact ⟨rfl, h2⟩
theorem itsOf_len {n : Nat} {ls : List Addr} : (itsOf n ls).length = ls.length := by unfold itsOf; simp
theorem iterAll_ok {ls : List Addr} {cols : List (Array Value)} {Q : List Value → Shared → Prop} (hc : cols.length = ls.length) (hl : ∀ (j : Nat) (l : Addr) (xs : Array Value), ls[j]? = some l → cols[j]? = some xs → s.heap.IsList l xs)
    (hQ : ∀ h', Good (itsOf s.heap.objs.size ls) ls cols (fun _ => 0) h' → h'.objs.size = s.heap.objs.size + ls.length → (∀ c o, s.heap.get? c = some o → h'.get? c = some o) → Q ((itsOf s.heap.objs.size ls).map Value.ref) { s with heap := h' }) :
    wpAny (model prog w) A (Builtin.SmallTypes.iterAll (ls.map Value.ref)) Q E s := by
  unfold Builtin.SmallTypes.iterAll
  refine wpAny_bind (wpAny_forIn_list _ (fun rest b s' => ∃ k h', rest = (ls.map Value.ref).drop k ∧ k ≤ ls.length ∧ b = (((itsOf s.heap.objs.size ls).map Value.ref).take k).toArray ∧ s' = { s with heap := h' } ∧ h'.objs.size = s.heap.objs.size + k ∧
    (∀ c o, s.heap.get? c = some o → h'.get? c = some o) ∧ ∀ j l, j < k → ls[j]? = some l → h'.IsListIter (s.heap.objs.size + j) l 0) _ ?turn ?fin _ _ ⟨0, s.heap, by simp, Nat.zero_le _, by simp, rfl, by simp, fun _ _ e => e, fun j l h => by omega⟩)
  case turn =>
    rintro x rest b s' ⟨k, h', hr, hkl, rfl, rfl, hsz, hch, hit⟩
    obtain ⟨hx, hr2⟩ := drop_cons hr
    rw [List.getElem?_map, Option.map_eq_some_iff] at hx
    obtain ⟨l, hl1, rfl⟩ := hx
    have hkl2 := (List.getElem?_eq_some_iff.mp hl1).1
    have hx2 : cols[k]? = some cols[k] := List.getElem?_eq_getElem (by omega)
    have hL : Heap.IsList h' l cols[k] := by
      obtain ⟨o, ho, r⟩ := hl k l _ hl1 hx2
      exact ⟨o, hch _ _ ho, r⟩
    refine wpAny_bind (wpAny_holding (wpAny_pyIter_list (s := { s with heap := h' }) hL ?_))
    refine wpAny_pure ⟨k + 1, _, hr2, by omega, ?_, rfl, by rw [Heap.size_push, hsz]; omega, fun c o e => Heap.get?_push_of_some _ (hch c o e), fun j l' hj hl' => ?_⟩
    · rw [List.take_add_one, List.getElem?_map]
      have : (itsOf s.heap.objs.size ls)[k]? = some (s.heap.objs.size + k) := by
        unfold itsOf
        rw [List.getElem?_map, List.getElem?_range hkl2]; rfl
      rw [this]
      show Array.push _ (Value.ref h'.objs.size) = _
      rw [hsz]
      simp
    · by_cases hj2 : j = k
      · subst hj2
        rw [hl1] at hl'; cases hl'
        rw [← hsz]
        exact ⟨_, Heap.get?_push_size h' (o := { cls := .type "list_iterator", data := .fields #[.ref l, .int 0 0] }) rfl, rfl, rfl⟩
      · exact (hit j l' (by omega) hl').at fun o e => Heap.get?_push_of_some _ e
  case fin =>
    rintro b s' ⟨k, h', hr, hkl, rfl, rfl, hsz, hch, hit⟩
    have hkl2 : k = ls.length := by
      have := congrArg List.length hr
      rw [List.length_drop, List.length_map, List.length_nil] at this
      omega
    subst hkl2
    have e : ((itsOf s.heap.objs.size ls).map Value.ref).take ls.length = (itsOf s.heap.objs.size ls).map Value.ref := List.take_of_length_le (by rw [List.length_map, itsOf_len]; exact Nat.le_refl _)
    rw [e]
    refine wpAny_pure ?_
    rw [List.toList_toArray]
    refine hQ h' (fun j p hp => ?_) hsz hch
    obtain ⟨rfl, hj⟩ := itsOf_at hp
    have h1 : ls[j]? = some ls[j] := List.getElem?_eq_getElem hj
    have h2 : cols[j]? = some cols[j] := List.getElem?_eq_getElem (by omega)
    obtain ⟨o, ho, r⟩ := hl j _ _ h1 h2
    exact ⟨_, _, h1, h2, hit j _ hj h1, ⟨o, hch _ _ ho, r⟩⟩
theorem call_zip {ls : List Addr} {cols : List (Array Value)} {Q : Value → Shared → Prop} (hn : ls.length ≤ 6) (hc : cols.length = ls.length) (hl : ∀ (j : Nat) (l : Addr) (xs : Array Value), ls[j]? = some l → cols[j]? = some xs → s.heap.IsList l xs)
    (h : ∀ h' z TI TO its, Ap z TI TO its ls → IsZ h' z TI TO .none (.bool false) → IsTu h' TI (its.map Value.ref) → (∃ kept, IsTu h' TO kept ∧ kept.length = its.length) → its.length = ls.length → Good its ls cols (fun _ => 0) h' → s.heap.objs.size ≤ z → s.heap.objs.size ≤ TI → s.heap.objs.size ≤ TO → (∀ p ∈ its, s.heap.objs.size ≤ p) →
      (∀ c o, s.heap.get? c = some o → h'.get? c = some o) → Q (.ref z) { s with heap := h' }) :
    wpAny (model prog w) A (call (.type "zip") (ls.map Value.ref)) Q E s := by
  have hlen : (ls.map Value.ref).length ≤ 6 := by rw [List.length_map]; exact hn
  have g : PySem.MeetsIn prog w (Builtin.«zip.__new__» ⟨.type "zip" :: ls.map Value.ref, []⟩) (fun A R s => (∀ (j : Nat) (l : Addr) (xs : Array Value), ls[j]? = some l → cols[j]? = some xs → s.heap.IsList l xs) ∧
      ∀ h' z TI TO its, Ap z TI TO its ls → IsZ h' z TI TO .none (.bool false) → IsTu h' TI (its.map Value.ref) → (∃ kept, IsTu h' TO kept ∧ kept.length = its.length) → its.length = ls.length → Good its ls cols (fun _ => 0) h' → s.heap.objs.size ≤ z → s.heap.objs.size ≤ TI → s.heap.objs.size ≤ TO → (∀ p ∈ its, s.heap.objs.size ≤ p) →
      (∀ c o, s.heap.get? c = some o → h'.get? c = some o) → R (.ok (.ret (.ref z))) { s with heap := h' }) := by
    refine .of_wp fun A R s hS => ?_
    obtain ⟨hl, h⟩ := hS
    have hsub := PySem.sub_zip
    show wpAny _ _ (Builtin.SmallTypes.newClass "zip" _ >>= _) _ _ _
    refine wpAny_bind ?_
    unfold Builtin.SmallTypes.newClass
    dsimp only
    rw [hsub]
    show wpAny _ _ ((pure true : Sem Bool) >>= _) _ _ _
    refine wpAny_bind (wpAny_pure ?_)
    simp only [Bool.not_true, Bool.false_eq_true, if_false]
    refine wpAny_bind (wpAny_pure ?_)
    simp only [Bool.not_true, Bool.false_eq_true, if_false]
    refine wpAny_pure ?_
    rw [if_neg (by decide)]
    have fits : ∀ vs : List Value, vs.length ≤ 6 → vs.length ≤ sizeLine := fun vs h => Nat.le_trans h (by decide)
    refine wpAny_bind (iterAll_ok hc hl fun h1 good sz ch => ?_)
    have hil : (itsOf s.heap.objs.size ls).length = ls.length := itsOf_len
    refine wpAny_bind (wpAny_newTuple ?_ (fits _ (by rw [List.length_map, hil]; exact hn)))
    refine wpAny_bind (wpAny_newTuple ?_ (fits _ (by rw [List.length_map, List.length_map, hil]; exact hn)))
    refine wpAny_bind ?_
    show wpAny _ _ (newObj (.type "zip") (.fields #[.none, .bool false, .bool false, .ref _, .ref _])) _ _ _
    refine wpAny_newObj_type ?_
    refine wpAny_pure ⟨_, rfl, ?_⟩
    have n1 : ∀ (o1 o2 : Obj), ((h1.push o1).push o2).objs.size = h1.objs.size + 2 := fun o1 o2 => by rw [Heap.size_push, Heap.size_push]
    have n2 : ∀ (o1 : Obj), (h1.push o1).objs.size = h1.objs.size + 1 := fun o1 => by rw [Heap.size_push]
    refine h _ _ h1.objs.size (h1.objs.size + 1) (itsOf s.heap.objs.size ls) ?_ ?_ ?_ ⟨((itsOf s.heap.objs.size ls).map Value.ref).map fun _ => Value.none, ?_, by rw [List.length_map, List.length_map]⟩ hil (good.at fun c o _ e => Heap.get?_push_of_some _ (Heap.get?_push_of_some _ (Heap.get?_push_of_some _ e))) ?_ ?_ ?_ (fun p hp => ?_) (fun c o e => Heap.get?_push_of_some _ (Heap.get?_push_of_some _ (Heap.get?_push_of_some _ (ch c o e))))
    · have hlt : ∀ p ∈ itsOf s.heap.objs.size ls, p < h1.objs.size := fun p hp => by
        obtain ⟨j, hj⟩ := List.getElem?_of_mem hp
        obtain ⟨rfl, hj2⟩ := itsOf_at hj
        exact (show (s.heap.objs.size + j : Nat) < h1.objs.size by omega)
      have hls : ∀ l ∈ ls, l < s.heap.objs.size := fun l hl' => by
        obtain ⟨j, hj⟩ := List.getElem?_of_mem hl'
        have hj2 := (List.getElem?_eq_some_iff.mp hj).1
        obtain ⟨o, ho, _⟩ := hl j l cols[j] hj (List.getElem?_eq_getElem (by omega))
        exact Heap.lt_size ho
      have hle : (s.heap.objs.size : Nat) ≤ h1.objs.size := by omega
      show Ap ((h1.push _).push _).objs.size _ _ _ _
      rw [n1]
      refine ⟨(show (h1.objs.size : Nat) ≠ h1.objs.size + 2 by omega), (show (h1.objs.size + 1 : Nat) ≠ h1.objs.size + 2 by omega), (show (h1.objs.size : Nat) ≠ h1.objs.size + 1 by omega), fun m => ?_, fun m => ?_, fun m => ?_, ?_, fun l hl' => ⟨?_, ?_, fun m => ?_⟩⟩
      · exact absurd (hlt _ m) (show ¬ (h1.objs.size + 2 : Nat) < h1.objs.size by omega)
      · exact absurd (hlt _ m) (Nat.lt_irrefl _)
      · exact absurd (hlt _ m) (show ¬ (h1.objs.size + 1 : Nat) < h1.objs.size by omega)
      · unfold itsOf
        exact (List.pairwise_map.mpr (List.nodup_range.imp fun {a b} h e => h (Nat.add_left_cancel e)))
      · exact Nat.ne_of_lt (Nat.lt_of_lt_of_le (hls l hl') (Nat.le_trans hle (Nat.le_add_right _ _)))
      · exact Nat.ne_of_lt (Nat.lt_of_lt_of_le (hls l hl') (Nat.le_trans hle (Nat.le_add_right _ _)))
      · obtain ⟨j, hj⟩ := List.getElem?_of_mem m
        obtain ⟨q, _⟩ := itsOf_at hj
        have := hls l hl'
        rw [q] at this
        exact absurd this (Nat.not_lt.mpr (Nat.le_add_right _ _))
    · have e := Heap.get?_push_size ((h1.push { cls := .type "tuple", data := .seq ((itsOf s.heap.objs.size ls).map Value.ref).toArray }).push { cls := .type "tuple", data := .seq (((itsOf s.heap.objs.size ls).map Value.ref).map fun _ => Value.none).toArray }) (o := { cls := .type "zip", data := .fields #[.none, .bool false, .bool false, .ref h1.objs.size, .ref (h1.push { cls := .type "tuple", data := .seq ((itsOf s.heap.objs.size ls).map Value.ref).toArray }).objs.size] }) rfl
      rw [← n2 { cls := .type "tuple", data := .seq ((itsOf s.heap.objs.size ls).map Value.ref).toArray }]
      exact e
    · exact Heap.get?_push_of_some _ (Heap.get?_push_of_some _ (Heap.get?_push_size h1 rfl))
    · have e := Heap.get?_push_size (h1.push { cls := .type "tuple", data := .seq ((itsOf s.heap.objs.size ls).map Value.ref).toArray }) (o := { cls := .type "tuple", data := .seq (((itsOf s.heap.objs.size ls).map Value.ref).map fun _ => Value.none).toArray }) rfl
      rw [n2] at e
      exact Heap.get?_push_of_some _ e
    · show s.heap.objs.size ≤ ((h1.push _).push _).objs.size
      rw [n1]; exact (show (s.heap.objs.size : Nat) ≤ h1.objs.size + 2 by omega)
    · exact (show (s.heap.objs.size : Nat) ≤ h1.objs.size by omega)
    · exact (show (s.heap.objs.size : Nat) ≤ h1.objs.size + 1 by omega)
    · obtain ⟨j, hj⟩ := List.getElem?_of_mem hp
      obtain ⟨rfl, _⟩ := itsOf_at hj
      exact Nat.le_add_right _ _
  refine PySem.callType_newIn PySem.F.called_zip (by decide) (typeCall_zip _) (newCall_zip _ hlen) (fun obj => args_init obj _) PySem.F.entry_zip_new g ⟨hl, fun h' z TI TO its D hz hTI hTO hil hg g1 g2 g3 g4 hch => ?_⟩
  exact ⟨⟨_, hz, rfl⟩, h h' z TI TO its D hz hTI hTO hil hg g1 g2 g3 g4 hch⟩
end
open L2
/-- the i-th items of the lists -/
inductive Cols (K : PySem.W.Frag) (H : Hp) (i : Nat) : List Addr → List V → Prop
  | nil : Cols K H i [] []
  | cons {a : Addr} {as : List Addr} {xs : List V} {v : V} {row : List V} : SqL K H a xs → xs[i]? = some v → Cols K H i as row → Cols K H i (a :: as) (v :: row)
theorem Cols.inj {X : Cx} {pins : List (Addr × Obj)} {σ : L2.St} {H : Hp} {s : Shared} (I : Inv X pins σ H s) {i : Nat} : ∀ {as : List Addr} {r r' : List V}, Cols X.K H i as r → Cols X.K H i as r' → r = r'
  | _, _, _, .nil, .nil => rfl
  | _, _, _, .cons h e t, .cons h' e' t' => by
    have := I.list_inj h h'
    subst this
    rw [e] at e'; cases e'
    rw [Cols.inj I t t']
theorem Cols.len {K : PySem.W.Frag} {H : Hp} {i : Nat} : ∀ {as : List Addr} {r : List V}, Cols K H i as r → r.length = as.length
  | _, _, .nil => rfl
  | _, _, .cons _ _ t => congrArg (· + 1) t.len
theorem Cols.vals {X : Cx} {pins : List (Addr × Obj)} {σ : L2.St} {H : Hp} {s : Shared} (I : Inv X pins σ H s) {i : Nat} : ∀ {as : List Addr} {r : List V}, Cols X.K H i as r → ∃ (cols : List (Array Value)) (us : List Value), cols.length = as.length ∧ Vals r us ∧ Row cols i us ∧ ∀ (j : Nat) (a : Addr) (xs : Array Value), as[j]? = some a → cols[j]? = some xs → s.heap.IsList a xs
  | _, _, .nil => ⟨[], [], rfl, .nil, ⟨rfl, fun j xs u h => by simp at h⟩, fun j a xs h => by simp at h⟩
  | _, _, .cons h e t => by
    obtain ⟨cols, us, h1, h2, h3, h4⟩ := Cols.vals I t
    obtain ⟨its, rv, p, _⟩ := I.list h
    obtain ⟨u, hu, ru⟩ := rv.get e
    refine ⟨its.toArray :: cols, u :: us, by simp [h1], .cons ru h2, ⟨by simp [h3.1], fun j xs w e1 e2 => ?_⟩, fun j a xs e1 e2 => ?_⟩
    · cases j with
      | zero => simp at e1 e2; subst e1 e2; simpa using hu
      | succ j => exact h3.2 j xs w (by simpa using e1) (by simpa using e2)
    · cases j with
      | zero => simp at e1 e2; subst e1 e2; exact p.isList
      | succ j => exact h4 j a xs (by simpa using e1) (by simpa using e2)
def ItzN (K : PySem.W.Frag) (as : List Addr) : It :=
  ⟨fun i H => ∃ row, Cols K H i as row,
    fun i H x H' => ∃ T row, x = .ref T ∧ H T = none ∧ H' = upd H T (.tup row) ∧ ∀ row', Cols K H i as row' → row = row',
    fun i H => ∃ a r xs, as = a :: r ∧ SqL K H a xs ∧ xs.length ≤ i⟩
structure Tn (z TI TO : Addr) (its as : List Addr) (i : Nat) (h : Heap) : Prop where
  z : ∃ f0 f1, (f0 = .none ∨ ∃ T : Addr, f0 = rawInt T) ∧ IsZ h z TI TO f0 f1
  TI : IsTu h TI (its.map Value.ref)
  TO : ∃ kept, IsTu h TO kept ∧ kept.length = its.length
  it : ∀ (j : Nat) (p l : Addr), its[j]? = some p → as[j]? = some l → h.IsListIter p l i
theorem turn_zipN {P : Program} {w : World} {K : PySem.W.Frag} {nm : Str} {tpos : Pos} {as its : List Addr} {z TI TO : Addr} (D : Ap z TI TO its as) (hl : its.length = as.length) (hne : as ≠ []) (h6 : as.length ≤ 6) :
    Turn P w K (.Name nm tpos) (ItzN K as) (z :: TI :: TO :: its) z (Tn z TI TO its as) where
  mem := by simp
  obj := fun i h st c hc => by
    obtain ⟨⟨f0, f1, _, hz⟩, hTI, ⟨kept, hTO, _⟩, hit⟩ := st
    have e' : c = z ∨ c = TI ∨ c = TO ∨ c ∈ its := by simpa using hc
    rcases e' with q | q | q | q
    · rw [q]; exact ⟨_, hz, fun v q => nomatch q⟩
    · rw [q]; exact ⟨_, hTI, fun v q => nomatch q⟩
    · rw [q]; exact ⟨_, hTO, fun v q => nomatch q⟩
    · obtain ⟨j, hj⟩ := List.getElem?_of_mem q
      have hj2 := (List.getElem?_eq_some_iff.mp hj).1
      obtain ⟨o, e1, _, d1⟩ := hit j c as[j] hj (List.getElem?_eq_getElem (by omega))
      exact ⟨o, e1, fun v q => by rw [d1] at q; cases q⟩
  keep := fun i h h' st k => by
    obtain ⟨⟨f0, f1, hf, hz⟩, hTI, ⟨kept, hTO, hk⟩, hit⟩ := st
    exact ⟨⟨f0, f1, hf, k z (by simp) _ hz⟩, k TI (by simp) _ hTI, ⟨kept, k TO (by simp) _ hTO, hk⟩, fun j p l hj hl => (hit j p l hj hl).at fun o q => k p (by simp [List.mem_of_getElem? hj]) o q⟩
  item := by
    intro X hP hw hK hc i pins s σ H E I hf st hg
    subst hP hw hK
    obtain ⟨⟨f0, f1, hf0, hz⟩, hTI, ⟨kept, hTO, hk⟩, hit⟩ := st
    obtain ⟨row, hcol⟩ := hg
    obtain ⟨cols, us, hc1, hv, hrow, hls⟩ := hcol.vals I
    have hne2 : its ≠ [] := fun q => hne (by rw [q] at hl; exact List.length_eq_zero_iff.mp hl.symm)
    have good : Good its as cols (fun _ => i) s.heap := fun j p e => by
      have hj := (List.getElem?_eq_some_iff.mp e).1
      have h1 : as[j]? = some as[j] := List.getElem?_eq_getElem (by omega)
      have h2 : cols[j]? = some cols[j] := List.getElem?_eq_getElem (by omega)
      exact ⟨_, _, h1, h2, hit j p _ e h1, hls j _ _ h1 h2⟩
    have lt3 : ∀ c, c ∈ z :: TI :: TO :: its → c < s.heap.objs.size := fun c hcm => by
      have e' : c = z ∨ c = TI ∨ c = TO ∨ c ∈ its := by simpa using hcm
      rcases e' with q | q | q | q
      · rw [q]; exact Heap.lt_size hz
      · rw [q]; exact Heap.lt_size hTI
      · rw [q]; exact Heap.lt_size hTO
      · obtain ⟨j, hj⟩ := List.getElem?_of_mem q
        obtain ⟨_, _, _, _, ⟨o, e1, _⟩, _⟩ := good j c hj
        exact Heap.lt_size e1
    refine pyNext_item D hf0 hz hTI hTO hk hne2 (by omega) (by omega) good hrow fun h' f0' f1' kept' hf' z' TO' hk' good' hT hsz hch => ?_
    refine ⟨_, rfl, ?_⟩
    show wpAny _ _ (pure ()) _ _ _
    have new : ObjOk X.prog X.w (upd H s.heap.objs.size (.tup row)) h' s.heap.objs.size (.tup row) :=
      ⟨by rw [hcol.len]; exact Nat.le_trans h6 (by decide), us, hv, ⟨_, hT, rfl, _, rfl⟩⟩
    have I1 : Inv X pins σ (upd H s.heap.objs.size (.tup row)) { s with heap := h' } :=
      I.turnedNew (t' := s.toks) (ch := z :: TI :: TO :: its) (fun c o hb q => hch c o (fun q' => hb (by simp [q'])) (fun q' => hb (by simp [q'])) (fun q' => hb (by simp [q'])) q) hf (Nat.le_refl _) new
    refine wpAny_pure ⟨.ref s.heap.objs.size, _, I1, rfl, ⟨_, row, rfl, I.hok.fresh (Nat.le_refl _), rfl, fun row' h => hcol.inj I h⟩, ⟨⟨f0', f1', hf', z'⟩, hch _ _ D.TIz D.TITO D.TIi hTI, ⟨kept', TO', hk'⟩, fun j p l hj hl' => ?_⟩, fun c hcm => ?_⟩
    · obtain ⟨l2, xs, q1, q2, q3, _⟩ := good' j p hj
      rw [hl'] at q1; cases q1
      exact q3
    · rw [upd_ne (Nat.ne_of_lt (lt3 c hcm))]
      exact (hf c hcm).1
  done := by
    intro X hP hw hK hc i pins s σ H E I hf st hg
    subst hP hw hK
    obtain ⟨⟨f0, f1, hf0, hz⟩, hTI, ⟨kept, hTO, hk⟩, hit⟩ := st
    obtain ⟨a, r, xs, rfl, hqx, hend⟩ := hg
    obtain ⟨vs, rv, p, _⟩ := I.list hqx
    have l1 := rv.length
    obtain ⟨q, its', rfl⟩ : ∃ q its', its = q :: its' := by
      cases its with
      | nil => simp at hl
      | cons q its' => exact ⟨q, its', rfl⟩
    exact pyNext_end (I.ok.hd hc) D hf0 hz hTI hTO rfl (l := a) rfl (hit 0 q a rfl rfl) p.isList (by simp; omega) fun h' hch => ⟨rfl, I.turnedL (t' := s.toks) (ch := z :: TI :: TO :: q :: its') (fun c o hb e =>
      hch c o (fun q' => hb (by simp [q'])) (fun q' => hb (by simp [q'])) (fun q' => hb (by
        have : c = q ∨ c ∈ its' := by simpa using q'
        rcases this with z | z <;> simp [z])) e) hf⟩
  self := fun A i s Q E st h => by
    obtain ⟨⟨f0, f1, hf, hz⟩, _⟩ := st
    exact pyIter_zip hz h
def iZipN (K : PySem.W.Frag) (te : TE) : TI := fun σ H R => te σ H fun x H1 => ∃ (l : Addr) (as : List Addr), x = .ref l ∧ SqL K H1 l (as.map V.ref) ∧ as ≠ [] ∧ as.length ≤ 6 ∧ (∀ a ∈ as, ∃ xs, SqL K H1 a xs) ∧ R (ItzN K as) H1
theorem vals_refs : ∀ {as : List Addr} {us : List Value}, Vals (as.map V.ref) us → us = as.map Value.ref
  | [], _, h => by cases h; rfl
  | a :: as, _, h => by
    cases h with
    | cons r t =>
      cases (show _ = Value.ref a from r)
      rw [vals_refs t]; rfl
theorem callWith_tyS {M : Model} {A : Around} {E : Value → Shared → Prop} {s : Shared} {env : PySem.Env} {T : String} {e : Expr} {p pos : Pos} {Q : Value → Shared → Prop}
    (h : wpAny M A (eval e env) (fun v s₁ => PySem.W.StarOf M A E v (fun vs s₂ => wpAny M A (call (.type T) vs) Q E s₂) s₁) E s) (he : starEach [.Starred e p] env = [(true, eval e env)] := by rfl) :
    wpAny M A (callWith pos (.type T) [] (backTo pos (starEach [.Starred e p] env)) []) Q E s := by
  rw [he]
  refine PySem.W.ks_call (P := fun _ => True) rfl (fun h _ => ⟨.machine, .inr (.inl rfl), fun A Q E s k q => wpAny_pure q⟩) (PySem.W.ks_lone (wpAny_mono h (fun v s₁ h₁ => ?_) fun _ _ x => x))
  unfold PySem.W.StarOf at h₁ ⊢
  exact wpAny_mono h₁ (fun b s₂ h₂ => ⟨h₂.1, wpAny_mono h₂.2 (fun vs s₃ h₃ => ⟨trivial, h₃⟩) fun _ _ x => x⟩) fun _ _ x => x
theorem pi_zipN {X : Cx} {e : Expr} {te : TE} {nm : Str} {p p2 pos tpos : Pos} (hg : Gl X "zip") (hm : X.mg "zip" = none) (he : PE X e te) (hs : starEach [.Starred e p2] X.env = [(true, eval e X.env)] := by rfl) :
    PI X (.Name nm tpos) (.Call (.Name "zip" p) [.Starred e p2] [] pos) (iZipN X.K te) := by
  refine ⟨fun pins s σ H R I h => ?_⟩
  refine Call_ (ld_blt I hg hm PyProof.Rows.boot_zip (callWith_tyS (thn (he.run pins s σ H _ I h) fun v s1 ⟨x, H1, I1, r1, q1⟩ => ?_) hs))
  obtain ⟨l, as, rfl, hl, hne, h6, hlists, q⟩ := q1
  obtain rfl : v = Value.ref l := r1
  refine StX.star_lst I1 hl fun us s2 I2 rv => ?_
  have hus := vals_refs rv
  subst hus
  have hcols : ∀ as' : List Addr, (∀ a ∈ as', ∃ xs, SqL X.K H1 a xs) → ∃ cols : List (Array Value), cols.length = as'.length ∧ ∀ (j : Nat) (a : Addr) (xs : Array Value), as'[j]? = some a → cols[j]? = some xs → s2.heap.IsList a xs := by
    intro as'
    induction as' with
    | nil => exact fun _ => ⟨[], rfl, fun j a xs h => by simp at h⟩
    | cons a r ih =>
      intro h
      obtain ⟨cols, h1, h2⟩ := ih fun b m => h b (List.mem_cons_of_mem _ m)
      obtain ⟨xs, hx⟩ := h a List.mem_cons_self
      obtain ⟨its, _, p, _⟩ := I2.list hx
      refine ⟨its.toArray :: cols, by simp [h1], fun j b ys e1 e2 => ?_⟩
      cases j with
      | zero => simp at e1 e2; subst e1 e2; exact p.isList
      | succ j => exact h2 j b ys (by simpa using e1) (by simpa using e2)
  obtain ⟨cols, hc1, hc2⟩ := hcols as hlists
  refine call_zip h6 hc1 hc2 fun h' z TI TO its D hz hTI hTO hil good g1 g2 g3 g4 hch => pyIter_zip hz ?_
  have I3 : Inv X pins σ H1 { s2 with heap := h' } := I2.kept (t' := s2.toks) hch
  refine ⟨z, z :: TI :: TO :: its, _, _, H1, rfl, I3, turn_zipN D hil hne h6, ⟨⟨_, _, .inl rfl, hz⟩, hTI, hTO, fun j p l hj hl' => ?_⟩, fun c hcm => ?_, q⟩
  · obtain ⟨l2, xs, q1, q2, q3, _⟩ := good j p hj
    rw [hl'] at q1; cases q1
    exact q3
  · have e' : c = z ∨ c = TI ∨ c = TO ∨ c ∈ its := by simpa using hcm
    have hle : s2.heap.objs.size ≤ c := by
      rcases e' with q | q | q | q
      · rw [q]; exact g1
      · rw [q]; exact g2
      · rw [q]; exact g3
      · exact g4 c q
    exact I2.fpOk hle (I2.hok.fresh hle)
end ZN

set_option Elab.async false
set_option linter.all false
set_option maxRecDepth 100000
set_option maxHeartbeats 4000000
/-! zip(*rows) over data; more built-ins. -/
namespace DL
open PySem PySem.Spec PyProof.Rows L2
open Evl (Ex)
open ZN (Cols ItzN iZipN pi_zipN)
def rows? : List D → Option (List (List D))
  | [] => some []
  | .lst r :: ds => (rows? ds).map (r :: ·)
  | _ => none
theorem rows?_some : ∀ {ds : List D} {rs : List (List D)}, rows? ds = some rs → ds = rs.map D.lst
  | [], _, h => by cases h; rfl
  | .lst r :: ds, rs, h => by
    unfold rows? at h
    rw [Option.map_eq_some_iff] at h
    obtain ⟨m, h1, rfl⟩ := h
    rw [rows?_some h1]; rfl
  | .non :: _, _, h => by simp [rows?] at h
  | .bl _ :: _, _, h => by simp [rows?] at h
  | .int _ :: _, _, h => by simp [rows?] at h
  | .str _ :: _, _, h => by simp [rows?] at h
  | .tup _ :: _, _, h => by simp [rows?] at h
  | .scr _ :: _, _, h => by simp [rows?] at h
@[simp] theorem rows?_map (rs : List (List D)) : rows? (rs.map D.lst) = some rs := by
  induction rs with
  | nil => rfl
  | cons n r ih => simp [rows?, ih]
def colsD (rs : List (List D)) (n : Nat) : List D := (List.range n).map fun i => .tup (rs.map fun r => r.getD i .non)
section
variable {K : PySem.W.Frag} {B : Hp}
/-- the lists' addresses -/
inductive Rws (K : PySem.W.Frag) (B : Hp) : List Addr → List (List V) → List (List D) → Prop
  | nil : Rws K B [] [] []
  | cons {a : Addr} {xs : List V} {ds : List D} {as : List Addr} {xss : List (List V)} {dss : List (List D)} : B a = some (.lst xs) → DtL K B xs ds → Rws K B as xss dss → Rws K B (a :: as) (xs :: xss) (ds :: dss)
theorem Rws.of : ∀ {vs : List V} {rs : List (List D)}, DtL K B vs (rs.map D.lst) → ∃ as xss, vs = as.map V.ref ∧ Rws K B as xss rs
  | _, [], h => by cases h; exact ⟨[], [], rfl, .nil⟩
  | _, r :: rs, h => by
    cases h with
    | cons h1 t =>
      obtain ⟨as, xss, rfl, hr⟩ := Rws.of t
      cases h1 with
      | lst h0 t0 => exact ⟨_ :: as, _ :: xss, rfl, .cons h0 t0 hr⟩
theorem Rws.cols {n i : Nat} (hi : i < n) {H' : Hp} (e : Ex B H') : ∀ {as : List Addr} {xss : List (List V)} {rs : List (List D)}, Rws K B as xss rs → (∀ r ∈ rs, r.length = n) → ∃ row, Cols K H' i as row ∧ DtL K B row (rs.map fun r => r.getD i .non)
  | _, _, _, .nil, _ => ⟨[], .nil, .nil⟩
  | _, _, _, .cons (ds := ds) h t r, hn => by
    obtain ⟨row, h1, h2⟩ := Rws.cols hi e r fun x m => hn x (List.mem_cons_of_mem _ m)
    have hl : i < ds.length := by rw [hn ds List.mem_cons_self]; exact hi
    have hd : ds[i]? = some (ds.getD i .non) := by
      rw [List.getD_eq_getElem?_getD, List.getElem?_eq_getElem hl]; rfl
    obtain ⟨v, h3, h4⟩ := t.get hd
    exact ⟨v :: row, .cons (SqL.of (e _ _ h)) h3 h1, .cons h4 h2⟩
theorem Rws.len : ∀ {as : List Addr} {xss : List (List V)} {rs : List (List D)}, Rws K B as xss rs → as.length = rs.length
  | _, _, _, .nil => rfl
  | _, _, _, .cons _ _ r => congrArg (· + 1) r.len
theorem Rws.lists : ∀ {as : List Addr} {xss : List (List V)} {rs : List (List D)}, Rws K B as xss rs → ∀ a ∈ as, ∃ xs, SqL K B a xs
  | _, _, _, .cons h _ r, a, m => by
    rcases List.mem_cons.mp m with e | m
    · subst e; exact ⟨_, SqL.of h⟩
    · exact r.lists a m
theorem itzN_ok {as : List Addr} {xss : List (List V)} {rs : List (List D)} {n : Nat} (h : Rws K B as xss rs) (hne : rs ≠ []) (hn : ∀ r ∈ rs, r.length = n) : ItOk K B (ItzN K as) (colsD rs n) := by
  refine fun i H' e => ⟨fun d hd => ?_, fun hl => ?_⟩
  · have hi : i < n := by
      have := (List.getElem?_eq_some_iff.mp hd).1
      unfold colsD at this
      simpa using this
    obtain ⟨row, h1, h2⟩ := h.cols hi e hn
    refine ⟨⟨row, h1⟩, fun x H'' y => ?_⟩
    obtain ⟨T, row', rfl, nT, rfl, u⟩ := y
    have := u row h1
    subst this
    refine ⟨Evl.Ex.new nT, fun B2 e2 e3 => ?_⟩
    unfold colsD at hd
    rw [List.getElem?_map, List.getElem?_range hi] at hd
    cases hd
    exact .tup (e3 _ _ (stb_tup upd_same)) (h2.mono e2)
  · cases h with
    | nil => exact absurd rfl hne
    | cons h0 t0 r =>
      rename_i ds as' xss' dss
      refine ⟨_, _, _, rfl, SqL.of (e _ _ h0), ?_⟩
      rw [t0.len, hn ds List.mem_cons_self]
      unfold colsD at hl
      simpa using hl
end
section
variable {X : Cx} {e : Expr} {ma : ME} {p p2 pos tpos : Pos} {nm : Str}
def mZipN (m : ME) : MI := fun ρ => match m ρ with
  | some r => match r.data with
    | .lst ds => match rows? ds with
      | some (r0 :: rs) => if rs.length ≤ 5 ∧ (rs.all fun x => decide (x.length = r0.length)) = true then some (r.fixed, colsD (r0 :: rs) r0.length) else none
      | _ => none
    | _ => none
  | none => none
theorem xi_zipN (hg : Gl X "zip") (hm : X.mg "zip" = none) (he : XE X e ma) (hs : starEach [.Starred e p2] X.env = [(true, eval e X.env)] := by rfl) : XI X (.Name nm tpos) (.Call (.Name "zip" p) [.Starred e p2] [] pos) (mZipN ma) := by
  obtain ⟨t, pt, s⟩ := he
  refine ⟨_, pi_zipN hg hm pt hs, fun G H σ ρ fp fx items Q R hm q => ?_⟩
  unfold mZipN at hm
  split at hm
  rotate_left
  · cases hm
  rename_i r e1
  split at hm
  rotate_left
  · cases hm
  rename_i ds e2
  split at hm
  rotate_left
  · cases hm
  rename_i r0 rs e3
  split at hm
  rotate_left
  · cases hm
  rename_i hc
  obtain ⟨hc5, hcl⟩ := hc
  cases hm
  refine s G H σ ρ fp r _ R e1 fun v F H1 x1 o1 => ?_
  have w := ROk.wall R.ls x1 o1
  have d := o1.data
  rw [e2, rows?_some e3] at w d
  cases w with
  | lst h0 t0 =>
    cases d with
    | lst h1 t1 =>
      rename_i a xs ys
      have e4 : Ex (wallOf r.fixed H1 fp) H1 := by
        cases r.fixed with
        | true => rw [wall_t]; exact hid_ex
        | false => rw [wall_f]; exact Evl.Ex.refl H1
      obtain ⟨as, xss, rfl, hr⟩ := Rws.of t0
      have hlen := hr.len
      refine ⟨a, as, rfl, SqL.of (e4 _ _ h0), fun z => ?_, ?_, fun b m => ?_, q _ H1 x1 (itzN_ok hr (fun z => by cases z) fun x m => ?_)⟩
      · subst z; simp at hlen
      · simp at hlen; omega
      · obtain ⟨xs, hx⟩ := hr.lists b m; exact ⟨xs, Evl.ex_l e4 hx⟩
      · rcases List.mem_cons.mp m with z | m
        · rw [z]
        · exact of_decide_eq_true (List.all_eq_true.mp hcl x m)
end
/-! a < b < c -/
section
variable {X : Cx} {a b c : Expr} {ma mb mc : ME} {pos : Pos}
/-- two comparisons of numbers -/
def mCh (f g : Int → Int → Bool) (ma mb mc : ME) : ME := fun ρ => match ma ρ, mb ρ with
  | some x, some y => match x.data, y.data with
    | .int i, .int j => if f i j = true then (match mc ρ with
      | some z => match z.data with
        | .int k => some (.sh (.bl (g j k)))
        | _ => none
      | none => none) else some (.sh (.bl false))
    | _, _ => none
  | _, _ => none
theorem sim_chain {K : PySem.W.Frag} {ta tb tc : TE} {f g : Int → Int → Bool} (sa : SimE K ta ma) (sb : SimE K tb mb) (sc : SimE K tc mc) : SimE K (tChain (rI0 fun i j => .bl (f i j)) (rI0 fun i j => .bl (g i j)) ta tb tc) (mCh f g ma mb mc) := by
  intro G H σ ρ fp r Q R hm q
  unfold mCh at hm
  split at hm
  rotate_left
  · cases hm
  rename_i x y e1 e2
  split at hm
  rotate_left
  · cases hm
  rename_i i j e3 e4
  refine sa G H σ ρ fp x _ R e1 fun v F H1 x1 o1 => ?_
  have R1 := R.grow x1
  refine sb G H1 σ ρ fp y _ R1 e2 fun w F2 H2 x2 o2 => ?_
  have d1 := o1.data; rw [e3] at d1; cases d1
  have d2 := o2.data; rw [e4] at d2; cases d2
  refine ⟨i, j, rfl, rfl, f i j, rfl, ?_⟩
  by_cases hf : f i j = true
  · rw [hf] at hm ⊢
    rw [if_pos rfl] at hm ⊢
    split at hm
    rotate_left
    · cases hm
    rename_i z e5
    split at hm
    rotate_left
    · cases hm
    rename_i k e6
    cases hm
    refine sc G H2 σ ρ fp z _ (R1.grow x2) e5 fun u F3 H3 x3 o3 => ?_
    have d3 := o3.data; rw [e6] at d3; cases d3
    exact ⟨j, k, rfl, rfl, q _ [] H3 ((x1.trans x2).trans x3) (Fl.bl _).rok⟩
  · rw [if_neg hf] at hm ⊢
    cases hm
    have e : f i j = false := by simpa using hf
    exact q _ [] H2 (x1.trans x2) (Fl.bl _).rok
theorem x_chain {op op' : CmpOp} {f g : Int → Int → Bool} (ho : OpR X (compareOp op) (rI0 fun i j => .bl (f i j))) (ho' : OpR X (compareOp op') (rI0 fun i j => .bl (g i j))) (ha : XE X a ma) (hb : XE X b mb) (hc : XE X c mc)
    (hm : lastMarks [op, op'] [b, c] = false := by with_unfolding_all rfl) : XE X (.Compare a [op, op'] [b, c] pos) (mCh f g ma mb mc) := by
  obtain ⟨ta, p, s⟩ := ha
  obtain ⟨tb, p2, s2⟩ := hb
  obtain ⟨tc, p3, s3⟩ := hc
  exact ⟨_, pe_chain ho ho' p p2 p3 hm, sim_chain s s2 s3⟩
theorem xt_chain {op op' : CmpOp} {f g : Int → Int → Bool} (ho : OpR X (compareOp op) (rI0 fun i j => .bl (f i j))) (ho' : OpR X (compareOp op') (rI0 fun i j => .bl (g i j))) (ha : XE X a ma) (hb : XE X b mb) (hc : XE X c mc)
    (hm : lastMarks [op, op'] [b, c] = false := by with_unfolding_all rfl) : XT X (.Compare a [op, op'] [b, c] pos) (mTst (mCh f g ma mb mc)) := by
  obtain ⟨ta, p, s⟩ := ha
  obtain ⟨tb, p2, s2⟩ := hb
  obtain ⟨tc, p3, s3⟩ := hc
  exact ⟨_, pt_chain ho ho' p p2 p3 hm, sim_tst (sim_chain s s2 s3)⟩
end

/-! ### comprehensions of two clauses -/
def isVw : Sl → Bool
  | .vw _ => true
  | _ => false
theorem RelF.noViews {K : PySem.W.Frag} {G H : Hp} {σ : L2.St} {ρ : Env} {fp : Nat → List Addr} (R : RelF K G H σ ρ fp) : RelF K G H σ (killVw ρ) fp where
  len := by simpa [killVw] using R.len
  ex := R.ex
  dj := R.dj
  new := R.new
  ls := R.ls
  sl := fun i s h => by
    unfold killVw at h
    rw [List.getElem?_map, Option.map_eq_some_iff] at h
    obtain ⟨t, h0, h1⟩ := h
    have q := R.sl i t h0
    cases t with
    | dead => cases h1; exact q
    | ad a => cases h1; exact q
    | dc m => cases h1; exact q
    | fz w x => cases h1; exact q
    | sh x => cases h1; exact q
    | vw x => cases h1; exact q.1
    | tr u => cases h1; exact q
theorem killVw_no {ρ : Env} {i : Nat} {x : D} : (killVw ρ)[i]? ≠ some (.vw x) := fun h => by
  unfold killVw at h
  rw [List.getElem?_map, Option.map_eq_some_iff] at h
  obtain ⟨t, h0, h1⟩ := h
  cases t <;> cases h1
theorem RelF.updD {K : PySem.W.Frag} {G H : Hp} {σ : L2.St} {ρ : Env} {fp : Nat → List Addr} {D : Addr} {n : Nat} {xs ys : List V} (R : RelF K G H σ ρ fp) (hD : D ∈ fp n) (hn : ρ.length ≤ n) (nv : ∀ (i : Nat) x, ρ[i]? ≠ some (.vw x)) (h : H D = some (.lst xs)) : RelF K G (upd H D (.lst ys)) σ ρ fp where
  len := R.len
  ex := fun a o e => by
    rw [upd_ne]
    · exact R.ex a o e
    · rintro rfl; rw [R.new n a hD] at e; cases e
  dj := R.dj
  new := R.new
  ls := fun i a m => by
    by_cases ha : a = D
    · subst ha; exact mo_l upd_same
    · obtain ⟨zs, e⟩ := R.ls i a m
      exact ⟨zs, by rw [upd_ne ha]; exact e⟩
  sl := fun i s hs => by
    have q := R.sl i s hs
    have hi := (List.getElem?_eq_some_iff.mp hs).1
    cases s with
    | dead => exact q
    | ad a => exact q
    | dc m =>
      obtain ⟨b, q1, q2, q3⟩ := q
      refine ⟨b, q1, q2, ?_⟩
      rw [upd_ne]
      · exact q3
      · rintro rfl
        have := R.dj i n b (by rw [q2]; exact List.mem_singleton_self _) hD
        omega
    | fz w x =>
      obtain ⟨q0, q1, q2⟩ := q
      refine ⟨q0, q1, q2.mono fun a o e => ?_⟩
      obtain ⟨n1, e⟩ := hid_some e
      rw [hid_at n1, upd_ne (by rintro rfl; exact n1 n hD)]; exact e
    | sh x =>
      obtain ⟨q0, v, q1, q2⟩ := q
      refine ⟨q0, v, q1, q2.mono fun a o e => ?_⟩
      obtain ⟨n1, e⟩ := hid_some e
      rw [hid_at n1, upd_ne (by rintro rfl; exact n1 n hD)]; exact e
    | vw x => exact (nv i x hs).elim
    | tr u =>
      obtain ⟨v, q1, q2⟩ := q
      refine ⟨v, q1, q2.keep ⟨stb_upd h, fun a m o e => ?_⟩⟩
      rw [upd_ne]
      · exact e
      · rintro rfl
        have := R.dj i n a m hD
        omega
/-- what holds between two turns -/
def LcI (K : PySem.W.Frag) (G H1 : Hp) (D : Addr) (fp : Nat → List Addr) (σ : L2.St) (ρ : Env) (rs : List R) (H : Hp) : Prop :=
  RelF K G H σ ρ fp ∧ ∃ acc F, H D = some (.lst acc) ∧ AOk K H1 H fp rs acc F ∧ D ∉ F ∧ Ex H1 H
theorem LcI.grow {K : PySem.W.Frag} {G H1 H H' : Hp} {D : Addr} {fp : Nat → List Addr} {σ : L2.St} {ρ : Env} {rs : List R} (h : LcI K G H1 D fp σ ρ rs H) (e : Ex H H') : LcI K G H1 D fp σ ρ rs H' := by
  obtain ⟨R, acc, F, h1, h2, h3, h4⟩ := h
  exact ⟨R.grow e, acc, F, e _ _ h1, h2.mono e, h3, h4.trans e⟩
theorem LcI.push {K : PySem.W.Frag} {G H1 H3 H4 : Hp} {D : Addr} {fp fp2 : Nat → List Addr} {σ : L2.St} {ρ : Env} {rs : List R} {r : R} {v : V} {F2 : List Addr} {n : Nat} (h : LcI K G H1 D fp σ ρ rs H3) (e : Ex H3 H4) (hD : D ∈ fp n) (hn : ρ.length ≤ n) (nv : ∀ (i : Nat) x, ρ[i]? ≠ some (.vw x)) (hD1 : H1 D = none)
    (o : ROk K H3 H4 fp2 v F2 r) (hsub : ∀ i a, a ∈ fp i → a ∈ fp2 i) (nvs : (rs ++ [r]).all noVw = true) : ∃ acc, H4 D = some (.lst acc) ∧ acc.length = rs.length ∧ LcI K G H1 D fp σ ρ (rs ++ [r]) (upd H4 D (.lst (acc ++ [v]))) := by
  obtain ⟨R, acc, F, h1, h2, h3, h4⟩ := h
  have hacc : H4 D = some (.lst acc) := e _ _ h1
  have o6 : ROk K H1 H4 fp v F2 r := by
    have o5 := ROk.back o h4
    cases r with
    | sh x => exact ⟨o5.1, o5.2.mono (hid_sub hsub)⟩
    | vw x => exact o5
    | tr s => exact o5
  have hDF2 : D ∉ F2 := fun m => by rw [o.fresh D m] at h1; cases h1
  have hdj : ∀ a, a ∈ F → a ∉ F2 ++ [] := fun a m1 m2 => by
    obtain ⟨xs, z⟩ := h2.ls a m1
    have := o.fresh a (by simpa using m2)
    rw [z] at this; cases this
  have o7 : AOk K H1 H4 fp (rs ++ [r]) (acc ++ [v]) (F ++ (F2 ++ [])) := (h2.mono e).append (.cons o6 .nil fun _ _ m => by cases m) hdj
  have hDF : D ∉ F ++ (F2 ++ []) := fun m => by
    rcases List.mem_append.mp m with m | m
    · exact h3 m
    · exact hDF2 (by simpa using m)
  refine ⟨acc, hacc, h2.len.symm, (R.grow e).updD hD hn nv hacc, _, _, upd_same, o7.updD hD hacc nvs hDF, hDF, fun a u z => ?_⟩
  rw [upd_ne (by rintro rfl; rw [hD1] at z; cases z)]
  exact e _ _ (h4 a u z)
def lcTurn2 (s : Bool) (g : MG) (mt : MT) (mi1 : MI) (g1 : MG) (mt1 : MT) (me : ME) (vs1 : List Nat) (ρ : Env) : D → Option (List R) := fun d => match g s d ρ with
  | some ρ' => match mt ρ' with
    | some true => match mi1 (killVw ρ') with
      | some (true, items1) => if vs1.all (fun i => isDead (killVw ρ')[i]?) = true then gather (lcTurn true g1 mt1 me (killVw ρ')) items1 else none
      | _ => none
    | some false => some []
    | none => none
  | none => none
def mLc2 (mi : MI) (g : MG) (mt : MT) (mi1 : MI) (g1 : MG) (mt1 : MT) (me : ME) (vs vs1 : List Nat) : ME := fun ρ => match mi ρ with
  | some (true, items) => if vs.all (fun i => isDead (killVw ρ)[i]?) = true then (match gather (lcTurn2 true g mt mi1 g1 mt1 me vs1 (killVw ρ)) items with
    | some rs => if rs.length ≤ 100000 then lcRes rs else none
    | none => none) else none
  | _ => none
theorem all_noVw_left {a b : List R} (h : (a ++ b).all noVw = true) : a.all noVw = true := by
  rw [List.all_append, Bool.and_eq_true] at h; exact h.1
theorem sim_lc2 {K : PySem.W.Frag} {wi wi1 : TI} {mi mi1 : MI} {g g1 : TG} {mg mg1 : MG} {tt tt1 : TT} {mt mt1 : MT} {te : TE} {me : ME} {own own1 vs vs1 : List Nat} (hi : SimI K wi mi) (hg : SimG K own g mg) (ht : SimT K tt mt) (hi1 : SimI K wi1 mi1) (hg1 : SimG K own1 g1 mg1) (ht1 : SimT K tt1 mt1) (he : SimE K te me)
    (ho : ∀ j ∈ own, j ∈ vs) (ho1 : ∀ j ∈ own1, j ∈ vs1) (hv : ∀ j ∈ vs1, j ∈ vs) : SimE K (tLc2 wi g tt wi1 g1 tt1 te vs vs1) (mLc2 mi mg mt mi1 mg1 mt1 me vs vs1) := by
  intro G H σ ρ fp r Q R hm q
  unfold mLc2 at hm
  split at hm
  rotate_left
  · cases hm
  rename_i items e1
  split at hm
  rotate_left
  · cases hm
  rename_i hdead
  split at hm
  rotate_left
  · cases hm
  rename_i rs0 e2
  split at hm
  rotate_left
  · cases hm
  rename_i hlen
  have hdead : ∀ i ∈ vs, (killVw ρ)[i]? = some .dead := fun i m => isDead_of (List.all_eq_true.mp hdead i m)
  have nv0 : rs0.all noVw = true := by
    unfold lcRes at hm
    split at hm
    · rename_i h; exact h
    · cases hm
  refine hi G H σ ρ fp true items _ R e1 fun J H1 x1 it => fun D hD => ?_
  rw [wall_t] at it
  have R1 : RelF K G H1 (L2.wipe σ vs) (killVw ρ) fp := ((R.grow x1).noViews).wipeD hdead
  obtain ⟨n, hn1, hn2'⟩ := big_ix (killVw ρ).length (own ++ own1)
  have hn2 : n ∉ own := fun z => hn2' (List.mem_append_left _ z)
  have hn3 : n ∉ own1 := fun z => hn2' (List.mem_append_right _ z)
  have hDf : ∀ i, D ∉ fp i := not_fp R1.ls hD
  have Dn : D ∈ fset fp n (D :: fp n) n := by rw [fset_self]; simp
  have nvr : ∀ (i : Nat) x, (killVw ρ)[i]? ≠ some (.vw x) := fun i x => killVw_no
  have hx0 : Ex (hid H1 fp) (hid (upd H1 D (.lst [])) (fset fp n (D :: fp n))) := fun a o e => by
    obtain ⟨n1, e⟩ := hid_some e
    rw [hid_at]
    · rw [upd_ne (by rintro rfl; rw [hD] at e; cases e)]; exact e
    · intro j m
      by_cases hj : j = n
      · subst hj; rw [fset_self] at m
        rcases List.mem_cons.mp m with m | m
        · subst m; rw [hD] at e; cases e
        · exact n1 j m
      · rw [fset_ne hj] at m; exact n1 j m
  have R0 : RelF K G (upd H1 D (.lst [])) (L2.wipe σ vs) (killVw ρ) (fset fp n (D :: fp n)) := by
    have e0 : Ex H1 (upd H1 D (.lst [])) := Evl.Ex.new hD
    refine ⟨R1.len, R1.ex.trans e0, fun i j a m1 m2 => ?_, fun i a m => ?_, fun i a m => ?_, fun i s h => ?_⟩
    · by_cases hi : i = n
      · by_cases hj : j = n
        · rw [hi, hj]
        · subst hi; rw [fset_self] at m1; rw [fset_ne hj] at m2
          rcases List.mem_cons.mp m1 with m1 | m1
          · subst m1; exact (hDf j m2).elim
          · exact R1.dj _ _ a m1 m2
      · rw [fset_ne hi] at m1
        by_cases hj : j = n
        · subst hj; rw [fset_self] at m2
          rcases List.mem_cons.mp m2 with m2 | m2
          · subst m2; exact (hDf i m1).elim
          · exact R1.dj _ _ a m1 m2
        · rw [fset_ne hj] at m2; exact R1.dj _ _ a m1 m2
    · by_cases hi : i = n
      · subst hi; rw [fset_self] at m
        rcases List.mem_cons.mp m with m | m
        · subst m; exact Evl.fresh_back R1.ex hD
        · exact R1.new i a m
      · rw [fset_ne hi] at m; exact R1.new i a m
    · by_cases hi : i = n
      · subst hi; rw [fset_self] at m
        rcases List.mem_cons.mp m with m | m
        · subst m; exact mo_l upd_same
        · obtain ⟨xs, e⟩ := R1.ls i a m; exact ⟨xs, e0 _ _ e⟩
      · rw [fset_ne hi] at m; obtain ⟨xs, e⟩ := R1.ls i a m; exact ⟨xs, e0 _ _ e⟩
    · have hne : i ≠ n := by
        have := (List.getElem?_eq_some_iff.mp h).1
        omega
      rw [fset_ne hne]
      have q := R1.sl i s h
      cases s with
      | dead => exact q
      | ad a => exact q
      | dc m => obtain ⟨a, q1, q2, q3⟩ := q; exact ⟨a, q1, q2, e0 _ _ q3⟩
      | sh x => obtain ⟨q0, v, q1, q2⟩ := q; exact ⟨q0, v, q1, q2.mono hx0⟩
      | fz w x => obtain ⟨q0, q1, q2⟩ := q; exact ⟨q0, q1, q2.mono hx0⟩
      | vw x => exact (nvr i x h).elim
      | tr s => obtain ⟨v, q1, q2⟩ := q; exact ⟨v, q1, q2.mono e0⟩
  generalize hfD : fset fp n (D :: fp n) = fpD at *
  let Pv : Nat → Hp → Prop := fun i H' => ∃ rs, gather (lcTurn2 true mg mt mi1 mg1 mt1 me vs1 (killVw ρ)) (items.take i) = some rs ∧ LcI K G H1 D fpD (L2.wipe σ vs) (killVw ρ) rs H'
  refine ⟨fun i m H' => m = items.length - i ∧ i ≤ items.length ∧ Pv i H', ⟨items.length, by simp, Nat.zero_le _, [], rfl, R0, [], [], upd_same, .nil, (fun m => by cases m), Evl.Ex.new hD⟩, ?_⟩
  rintro i m H' ⟨rfl, hile, rs, hga, hI⟩
  obtain ⟨R', acc, F, hacc, hok, hDF, hex⟩ := id hI
  obtain ⟨itgo, itstop⟩ := it i H' (hid_ex.trans hex)
  obtain ⟨ra, hra, ⟨rb, hrb⟩, hnext⟩ := gather_take e2 i
  rw [hga] at hra; cases hra
  by_cases hlt : i < items.length
  · right
    obtain ⟨d, hd⟩ : ∃ d, items[i]? = some d := ⟨items[i], by simp [hlt]⟩
    obtain ⟨c, hc, hnx⟩ := hnext d hd
    have nvc : (rs ++ c).all noVw = true := by
      obtain ⟨ra2, hra2, ⟨rb2, hrb2⟩, _⟩ := gather_take e2 (i + 1)
      rw [hnx] at hra2; cases hra2
      rw [hrb2] at nv0
      exact all_noVw_left nv0
    have lenc : (rs ++ c).length ≤ 100000 := by
      obtain ⟨ra2, hra2, ⟨rb2, hrb2⟩, _⟩ := gather_take e2 (i + 1)
      rw [hnx] at hra2; cases hra2
      rw [hrb2, List.length_append] at hlen
      omega
    obtain ⟨hgo, hyld⟩ := itgo d hd
    refine ⟨hgo, fun H'' => Pv (i + 1) H'', fun H'' p => ⟨_, by omega, rfl, by omega, p⟩, fun x H2 hy => ?_⟩
    obtain ⟨x2, hdt⟩ := hyld x H2 hy
    have I2 := hI.grow x2
    have R2 := I2.1
    have hw : Dt K (wallOf true H2 fpD) x d := by
      rw [wall_t]
      refine hdt _ (fun a o e => ?_) (stb_hid R2.ls)
      obtain ⟨n1, e⟩ := hid_some e
      rw [hid_at]
      · exact x2 _ _ (hex _ _ e)
      · intro j m
        rw [← hfD] at m
        by_cases hj : j = n
        · subst hj; rw [fset_self] at m
          rcases List.mem_cons.mp m with m | m
          · subst m; rw [hD] at e; cases e
          · exact n1 j m
        · rw [fset_ne hj] at m; exact n1 j m
    unfold lcTurn2 at hc
    split at hc
    rotate_left
    · cases hc
    rename_i ρ2 e3
    refine hg G H2 (L2.wipe σ vs) (killVw ρ) _ true d x ρ2 _ R2 hw e3 fun ws fp2 R3 hfp2 => ⟨wipe_setS ho, ?_⟩
    have hdD : ∀ j ∈ vs, fpD j = [] := fun j hj => by
      have hd0 := hdead j hj
      exact R2.sl j _ hd0
    have hsub : ∀ j a, a ∈ fpD j → a ∈ fp2 j := fun j a m => by
      by_cases hj : j ∈ own
      · rw [hdD j (ho j hj)] at m; cases m
      · rw [hfp2 j hj]; exact m
    have Dn2 : D ∈ fp2 n := by rw [hfp2 n hn2]; exact Dn
    have hl2 : ρ2.length ≤ n := by
      have e5 := R3.len
      rw [setS_len] at e5
      have e6 := R2.len
      omega
    split at hc
    · rename_i e4
      refine ht G H2 _ ρ2 fp2 true _ R3 e4 fun H3 x3 => ?_
      rw [if_pos rfl]
      split at hc
      rotate_left
      · cases hc
      rename_i items1 e5
      split at hc
      rotate_left
      · cases hc
      rename_i hd1
      have hd1 : ∀ i ∈ vs1, (killVw ρ2)[i]? = some .dead := fun i m => isDead_of (List.all_eq_true.mp hd1 i m)
      have R4 := (R3.grow x3).noViews
      refine hi1 G H3 _ (killVw ρ2) fp2 true items1 _ R4 e5 fun J1 H4 x4 it1 => ?_
      rw [wall_t] at it1
      have R5 : RelF K G H4 (L2.wipe _ vs1) (killVw ρ2) fp2 := (R4.grow x4).wipeD hd1
      have hkl : (killVw ρ2).length ≤ n := by simpa [killVw] using hl2
      have I4 := (I2.grow x3).grow x4
      let Pw : Nat → Hp → Prop := fun j H' => ∃ rs1, gather (lcTurn true mg1 mt1 me (killVw ρ2)) (items1.take j) = some rs1 ∧ LcI K G H1 D fpD (L2.wipe σ vs) (killVw ρ) (rs ++ rs1) H' ∧ RelF K G H' (L2.wipe (setS (L2.wipe σ vs) own ws) vs1) (killVw ρ2) fp2 ∧ Ex (hid H4 fp2) H'
      refine ⟨fun j k H' => k = items1.length - j ∧ j ≤ items1.length ∧ Pw j H', ⟨items1.length, by simp, Nat.zero_le _, [], rfl, by rw [List.append_nil]; exact I4, R5, hid_ex⟩, ?_⟩
      rintro j k H5 ⟨rfl, hjle, rs1, hga1, I5, R6, ex5⟩
      obtain ⟨itgo1, itstop1⟩ := it1 j H5 ex5
      obtain ⟨ra1, hra1, ⟨rb1, hrb1⟩, hnext1⟩ := gather_take hc j
      rw [hga1] at hra1; cases hra1
      by_cases hlt1 : j < items1.length
      · right
        obtain ⟨d1, hd1'⟩ : ∃ d, items1[j]? = some d := ⟨items1[j], by simp [hlt1]⟩
        obtain ⟨c1, hc1, hnx1⟩ := hnext1 d1 hd1'
        obtain ⟨hgo1, hyld1⟩ := itgo1 d1 hd1'
        refine ⟨hgo1, fun H'' => Pw (j + 1) H'', fun H'' p => ⟨_, by omega, rfl, by omega, p⟩, fun y H6 hy1 => ?_⟩
        obtain ⟨x6, hdt1⟩ := hyld1 y H6 hy1
        have I6 := I5.grow x6
        have R7 := R6.grow x6
        have exw : Ex (hid H4 fp2) (hid H6 fp2) := fun a o e => by
          obtain ⟨n1, _⟩ := hid_some e
          rw [hid_at n1]; exact x6 _ _ (ex5 a o e)
        have hw1 : Dt K (wallOf true H6 fp2) y d1 := by
          rw [wall_t]; exact hdt1 _ exw (stb_hid R7.ls)
        unfold lcTurn at hc1
        split at hc1
        rotate_left
        · cases hc1
        rename_i ρ3 e6
        refine hg1 G H6 _ (killVw ρ2) fp2 true d1 y ρ3 _ R7 hw1 e6 fun ws1 fp3 R8 hfp3 => ⟨wipe_setS ho1, ?_⟩
        have hdD1 : ∀ j ∈ vs1, fp2 j = [] := fun j hj => R7.sl j _ (hd1 j hj)
        have hsub1 : ∀ j a, a ∈ fp2 j → a ∈ fp3 j := fun j a m => by
          by_cases hj : j ∈ own1
          · rw [hdD1 j (ho1 j hj)] at m; cases m
          · rw [hfp3 j hj]; exact m
        split at hc1
        · rename_i e7
          rw [Option.map_eq_some_iff] at hc1
          obtain ⟨rr, e8, rfl⟩ := hc1
          refine ht1 G H6 _ ρ3 fp3 true _ R8 e7 fun H7 x7 => ?_
          rw [if_pos rfl]
          refine he G H7 _ ρ3 fp3 rr _ (R8.grow x7) e8 fun v F2 H8 x8 o8 => ?_
          have nv1 : ((rs ++ rs1) ++ [nrm rr]).all noVw = true := by
            obtain ⟨ra2, hra2, ⟨rb2, hrb2⟩, _⟩ := gather_take hc (j + 1)
            rw [hnx1] at hra2; cases hra2
            rw [hrb2, ← List.append_assoc, ← List.append_assoc] at nvc
            exact all_noVw_left nvc
          obtain ⟨acc8, ha8, hl8, I8⟩ := LcI.push (I6.grow x7) x8 Dn (by simpa [killVw] using hn1) nvr hD (ROk.nrm (ls_mono R8.ls (x7.trans x8)) o8) (fun j a m => hsub1 j a (hsub j a m)) nv1
          have hacc6 : H7 D ≠ none := by
            obtain ⟨_, acc', F', z, _⟩ := I6.grow x7
            rw [z]; exact fun q => by cases q
          refine ⟨acc8, ha8, ?_, rs1 ++ [nrm rr], hnx1, by rw [← List.append_assoc]; exact I8, ((R7.grow x7).grow x8).updD Dn2 hkl (fun i x => killVw_no) ha8, fun a o e => ?_⟩
          · rw [hl8]
            have h1 : rs1.length + 1 ≤ c.length := by
              obtain ⟨ra2, hra2, ⟨rb2, hrb2⟩, _⟩ := gather_take hc (j + 1)
              rw [hnx1] at hra2; cases hra2
              rw [hrb2]; simp
            rw [List.length_append] at lenc ⊢
            exact Evl.sz_lt (by omega)
          · obtain ⟨n1, _⟩ := hid_some e
            rw [upd_ne (by rintro rfl; exact n1 n Dn2)]
            exact x8 _ _ (x7 _ _ (x6 _ _ (ex5 a o e)))
        · rename_i e7
          cases hc1
          refine ht1 G H6 _ ρ3 fp3 false _ R8 e7 fun H7 x7 => ?_
          rw [if_neg Bool.false_ne_true]
          rw [List.append_nil] at hnx1
          exact ⟨rs1, hnx1, I6.grow x7, R7.grow x7, ex5.trans (x6.trans x7)⟩
        · cases hc1
      · left
        have hje : j = items1.length := by omega
        subst hje
        rw [List.take_length, hc] at hga1
        cases hga1
        exact ⟨itstop1 (Nat.le_refl _), rs ++ c, hnx, I5⟩
    · rename_i e4
      cases hc
      refine ht G H2 _ ρ2 fp2 false _ R3 e4 fun H3 x3 => ?_
      rw [if_neg Bool.false_ne_true]
      rw [List.append_nil] at hnx
      exact ⟨rs, hnx, I2.grow x3⟩
    · cases hc
  · left
    have hie : i = items.length := by omega
    refine ⟨itstop (by omega), ?_⟩
    subst hie
    rw [List.take_length, e2] at hga
    cases hga
    unfold lcRes at hm
    rw [if_pos nv0] at hm
    have hfsub : ∀ j a, a ∈ fp j → a ∈ fpD j := fun j a m => by
      rw [← hfD]
      by_cases hj : j = n
      · subst hj; rw [fset_self]; exact List.mem_cons_of_mem _ m
      · rw [fset_ne hj]; exact m
    split at hm
    · rename_i ss e6; cases hm
      refine q _ (D :: F) H' (x1.trans hex) ⟨.own hacc (hok.trees e6) hDF, fun a m => ?_⟩
      rcases List.mem_cons.mp m with e | m
      · subst e; exact Evl.fresh_back x1 hD
      · exact Evl.fresh_back x1 (hok.fresh a m)
    · split at hm
      · rename_i hsh; cases hm
        exact q _ [] H' (x1.trans hex) ⟨rfl, .lst ((hid_at hDf).trans hacc) (hok.allSh hsh (hid_sub hfsub))⟩
      · cases hm
def canI (K : PySem.W.Frag) (m : MI) : TI := fun σ H Q => ∃ G ρ fp s items, RelF K G H σ ρ fp ∧ m ρ = some (s, items) ∧ ∀ J H1, Ex H H1 → ItOk K (wallOf s H1 fp) J items → Q J H1
theorem sim_canI {K : PySem.W.Frag} {m : MI} : SimI K (canI K m) m := fun G H σ ρ fp s items Q R hm q => ⟨G, ρ, fp, s, items, R, hm, q⟩
theorem XI.can {X : Cx} {tg it : Expr} {m : MI} (h : XI X tg it m) : PI X tg it (canI X.K m) := by
  obtain ⟨t, p, s⟩ := h
  exact ⟨fun pins s' σ H Q I ⟨G, ρ, fp, sh, items, R, hm, q⟩ => p.run pins s' σ H Q I (s G H σ ρ fp sh items Q R hm q)⟩
section
variable {X : Cx} {W : XK} {elt tg iter tg1 iter1 : Expr} {ifs ifs1 : List Expr} {scope : Scope} {own : List (Str × Nat)} {pos : Pos} {mi mi1 : MI} {g g1 : MG} {mt mt1 : MT} {me : ME} {ow ow1 vs1 : List Nat} {x : Str}
theorem x_lc2 (hc : X.calm = true) (hN : X.N.Nodup) (hi : XI X tg iter mi) (ok : BlkOk X.N X.env.scope scope own) (ho : ∀ j ∈ ow, j ∈ own.map (·.2)) (ho1 : ∀ j ∈ ow1, j ∈ vs1) (hv : ∀ j ∈ vs1, j ∈ own.map (·.2))
    (hg : ∀ (s : Shared) (H : Hp) (C : Addr) (cl : List (Str × Addr)) (fp : List Addr), XG (X.blk s H scope (compEnvC scope cl C X.env) fp) tg ow g)
    (ht : ∀ (s : Shared) (H : Hp) (C : Addr) (cl : List (Str × Addr)) (fp : List Addr), XTs (X.blk s H scope (compEnvC scope cl C X.env) fp) ifs mt)
    (hi1 : ∀ (s : Shared) (H : Hp) (C : Addr) (cl : List (Str × Addr)) (fp : List Addr), XI (X.blk s H scope (compEnvC scope cl C X.env) fp) tg1 iter1 mi1)
    (hg1 : ∀ (s : Shared) (H : Hp) (C : Addr) (cl : List (Str × Addr)) (fp : List Addr), XG (X.blk s H scope (compEnvC scope cl C X.env) fp) tg1 ow1 g1)
    (ht1 : ∀ (s : Shared) (H : Hp) (C : Addr) (cl : List (Str × Addr)) (fp : List Addr), XTs (X.blk s H scope (compEnvC scope cl C X.env) fp) ifs1 mt1)
    (he : ∀ (s : Shared) (H : Hp) (C : Addr) (cl : List (Str × Addr)) (fp : List Addr), XE (X.blk s H scope (compEnvC scope cl C X.env) fp) elt me)
    (hs : ∀ x, foldedSetIterable iter X.env x = pure x := by intro _; rfl) (hs1 : ∀ env x, foldedSetIterable iter1 env x = pure x := by intro _ _; rfl) :
    XE X (.ListComp elt [⟨tg, iter, ifs, 0⟩, ⟨tg1, iter1, ifs1, 0⟩] scope pos) (mLc2 mi g mt mi1 g1 mt1 me (own.map (·.2)) vs1) := by
  obtain ⟨wi, p, s⟩ := hi
  exact ⟨_, pe_lc2 hc hN p ok hv (fun s H C cl fp => (hg s H C cl fp).can) (fun s H C cl fp => (ht s H C cl fp).can) (fun s H C cl fp => (hi1 s H C cl fp).can) (fun s H C cl fp => (hg1 s H C cl fp).can) (fun s H C cl fp => (ht1 s H C cl fp).can) (fun s H C cl fp => (he s H C cl fp).can) hs hs1,
    sim_lc2 s sim_canG sim_canT sim_canI sim_canG sim_canT sim_canE ho ho1 hv⟩
theorem xs_setLc2 {i : Nat} {py spos : Pos} (hc : X.calm = true) (hN : X.N.Nodup) (hy : X.N[i]? = some x) (hyl : X.env.scope.names.lookup x = some .local)
    (hsw : swapsWith (.ListComp elt [⟨tg, iter, ifs, 0⟩, ⟨tg1, iter1, ifs1, 0⟩] scope pos) (some (.Name x py)) spos.line X.env = pure true) (hi : XI X tg iter mi) (ok : BlkOk X.N X.env.scope scope own) (ho : ∀ j ∈ ow, j ∈ own.map (·.2)) (ho1 : ∀ j ∈ ow1, j ∈ vs1) (hv : ∀ j ∈ vs1, j ∈ own.map (·.2))
    (hg : ∀ (s : Shared) (H : Hp) (C : Addr) (cl : List (Str × Addr)) (fp : List Addr), XG (X.blk s H scope (compEnvC scope cl C X.env) fp) tg ow g)
    (ht : ∀ (s : Shared) (H : Hp) (C : Addr) (cl : List (Str × Addr)) (fp : List Addr), XTs (X.blk s H scope (compEnvC scope cl C X.env) fp) ifs mt)
    (hi1 : ∀ (s : Shared) (H : Hp) (C : Addr) (cl : List (Str × Addr)) (fp : List Addr), XI (X.blk s H scope (compEnvC scope cl C X.env) fp) tg1 iter1 mi1)
    (hg1 : ∀ (s : Shared) (H : Hp) (C : Addr) (cl : List (Str × Addr)) (fp : List Addr), XG (X.blk s H scope (compEnvC scope cl C X.env) fp) tg1 ow1 g1)
    (ht1 : ∀ (s : Shared) (H : Hp) (C : Addr) (cl : List (Str × Addr)) (fp : List Addr), XTs (X.blk s H scope (compEnvC scope cl C X.env) fp) ifs1 mt1)
    (he : ∀ (s : Shared) (H : Hp) (C : Addr) (cl : List (Str × Addr)) (fp : List Addr), XE (X.blk s H scope (compEnvC scope cl C X.env) fp) elt me)
    (hs : ∀ x, foldedSetIterable iter X.env x = pure x := by intro _; rfl) (hs1 : ∀ env x, foldedSetIterable iter1 env x = pure x := by intro _ _; rfl) :
    XS X W (.Assign [.Name x py] (.ListComp elt [⟨tg, iter, ifs, 0⟩, ⟨tg1, iter1, ifs1, 0⟩] scope pos) spos) (mSet i (mLc2 mi g mt mi1 g1 mt1 me (own.map (·.2)) vs1)) := by
  obtain ⟨wi, p, s⟩ := hi
  exact ⟨_, ps_setLc2 hc hN hy hyl hsw p ok hv (fun s H C cl fp => (hg s H C cl fp).can) (fun s H C cl fp => (ht s H C cl fp).can) (fun s H C cl fp => (hi1 s H C cl fp).can) (fun s H C cl fp => (hg1 s H C cl fp).can) (fun s H C cl fp => (ht1 s H C cl fp).can) (fun s H C cl fp => (he s H C cl fp).can) hs hs1,
    sim_set (sim_lc2 s sim_canG sim_canT sim_canI sim_canG sim_canT sim_canE ho ho1 hv)⟩
end
end DL

set_option Elab.async false
set_option linter.all false
set_option maxRecDepth 100000
set_option maxHeartbeats 4000000
/-! Truth; the end of a law. -/
namespace DL
open PySem PySem.Spec PyProof.Rows L2
open Evl (Ex)
def tru : D → Option Bool
  | .non => some false
  | .bl b => some b
  | .int i => some (i != 0)
  | .lst xs => some (!xs.isEmpty)
  | .tup xs => some (!xs.isEmpty)
  | _ => none
def mTru (m : ME) : MT := fun ρ => match m ρ with
  | some r => tru r.data
  | none => none
theorem DtL.empty {K : PySem.W.Frag} {H : Hp} {vs : List V} {ds : List D} (h : DtL K H vs ds) : vs.isEmpty = ds.isEmpty := by
  cases h <;> rfl
section
variable {X : Cx} {e : Expr} {ma : ME}
theorem xt_truth (h : XE X e ma) (he : ∀ whole, isTrue e X.env whole = (do let v ← whole; standAt e.pos; holding [v] (truthy v)) := by intro _; rfl) : XT X e (mTru ma) := by
  obtain ⟨t, p, s⟩ := h
  refine ⟨_, pt_truth p he, fun G H σ ρ fp b Q R hm q => ?_⟩
  unfold mTru at hm
  split at hm
  · rename_i r e1
    refine s G H σ ρ fp r _ R e1 fun v F H1 x1 o1 => ⟨b, ?_, q H1 x1⟩
    have z := o1.data
    generalize r.data = d at z hm
    cases z with
    | non => cases hm; rfl
    | bl c => cases hm; rfl
    | int i => cases hm; rfl
    | str x => cases hm
    | lst h t => cases hm; exact .inl ⟨_, SqL.of h, by rw [t.empty]⟩
    | tup h t => cases hm; exact .inr (.inl ⟨_, .inl (.inl h), by rw [t.empty]⟩)
    | scr h _ => cases hm
    | ktp h => cases hm
  · cases hm
end
theorem noExc {P : Program} {w : World} {H : Hp} {s : Shared} {e : Value} {s' : Shared} (h : L2.CX P w [] H s (fun _ _ _ => False) e s') : False := by
  obtain ⟨_, _, _, _, _, _, _, _, _, _, _, _, z⟩ := h
  exact z
def spLaw (K : PySem.W.Frag) : Sp := fun vs H Q _ => ∃ ns : List Int, DtL K H vs [.scr ns] ∧ vs.length = 1 ∧ ns.length ≤ 63 ∧ ∀ H', Q (.bl true) H'
theorem law_end {P : Program} {w : World} {K : PySem.W.Frag} {mg : Str → Option Value} {base : Heap} {CX : CXT} {k : Nat} {f : Addr} {fd : FuncData} {ps : List Str} {g : List D → Option FO} (F : FnOk P w K mg base CX k f fd ps (spD K 1 g)) (h : ∀ ns : List Int, ns.length ≤ 63 → g [.scr ns] = some (.ret (.d (.bl true)))) : FnOk P w K mg base CX k f fd ps (spLaw K) :=
  F.imp fun vs H Q E ⟨ns, hd, h1, h2, q⟩ => ⟨h1, [.scr ns], _, hd, h ns h2, fun v F H' x r f => by
    cases r with
    | d z => cases z; exact q H'⟩
/-! order of numbers, and of tuples of numbers -/
def gOrd (f : Int → Int → Bool) (g : List Int → List Int → Bool) : D → D → Option D
  | .int i, .int j => some (.bl (f i j))
  | .tup xs, .tup ys => match ints? xs, ints? ys with
    | some ns, some ms => some (.bl (g ns ms))
    | _, _ => none
  | _, _ => none
def leTup (ns ms : List Int) : Bool := Ob.lexAt (fun j => decide (ns.getD j 0 = ms.getD j 0)) (fun j => decide (ns.getD j 0 ≤ ms.getD j 0)) (decide (ns.length ≤ ms.length)) 0 (min ns.length ms.length)
def fLe2 := flat2 (gOrd (fun i j => decide (i ≤ j)) leTup)
def fLt2 := flat2 (gOrd (fun i j => decide (i < j)) HT.lexLt)
theorem op2_le2 {K : PySem.W.Frag} : Op2 K (fun x y H Q => rI0 (fun i j => .bl (decide (i ≤ j))) x y H Q ∨ rLeT K x y H Q) fLe2 := .flat fun H x dx y dy z Q hx hy hz q => by
  unfold gOrd at hz
  split at hz
  · cases hz; cases hx; cases hy; exact .inl ⟨_, _, rfl, rfl, q _ (.bl _)⟩
  · split at hz
    · rename_i ns ms e1 e2
      cases hz
      have := ints?_some e1; subst this
      have := ints?_some e2; subst this
      cases hx with
      | tup h t => cases hy with
        | tup h' t' =>
          have := t.ints_inv; subst this
          have := t'.ints_inv; subst this
          exact .inr ⟨_, _, _, _, rfl, rfl, .inl (.inl h), .inl (.inl h'), q _ (.bl _)⟩
    · cases hz
  · cases hz
theorem op2_lt2 {K : PySem.W.Frag} : Op2 K (fun x y H Q => rI0 (fun i j => .bl (decide (i < j))) x y H Q ∨ rLtT K x y H Q) fLt2 := .flat fun H x dx y dy z Q hx hy hz q => by
  unfold gOrd at hz
  split at hz
  · cases hz; cases hx; cases hy; exact .inl ⟨_, _, rfl, rfl, q _ (.bl _)⟩
  · split at hz
    · rename_i ns ms e1 e2
      cases hz
      have := ints?_some e1; subst this
      have := ints?_some e2; subst this
      cases hx with
      | tup h t => cases hy with
        | tup h' t' =>
          have := t.ints_inv; subst this
          have := t'.ints_inv; subst this
          exact .inr ⟨_, _, _, _, rfl, rfl, .inl (.inl h), .inl (.inl h'), q _ (.bl _)⟩
    · cases hz
  · cases hz
theorem hu1 {A : Around} (h : A.units + 64 < cLine) : A.units < cLine := Nat.lt_of_le_of_lt (Nat.le_add_right _ _) h
end DL

set_option Elab.async false
set_option linter.all false
set_option maxRecDepth 100000
set_option maxHeartbeats 4000000
/-! An owned list that is held still for a while. -/
namespace DL
open PySem PySem.Spec PyProof.Rows L2
section
variable {K : PySem.W.Frag} {G H : Hp} {σ : L2.St} {ρ : Env} {fp : Nat → List Addr} {i : Nat} {ss : List S}
theorem RelF.frz (R : RelF K G H σ ρ fp) (h : ρ[i]? = some (.tr (.own ss))) :
    ∃ v, σ[i]? = some (some v) ∧ Rep K H (.own ss) v (fp i) ∧ RelF K G H σ (ρ.set i (.fz v (S.dataL ss))) (fset fp i []) ∧ RelF K G H σ (ρ.set i (.sh (.lst (S.dataL ss)))) (fset fp i []) := by
  obtain ⟨v, hv, hr⟩ := R.sl i _ h
  have hk := R.kill1 i
  have hD : Dt K (hid H (fset fp i [])) v (.lst (S.dataL ss)) := by
    have lsk := hk.ls
    have := (hr.keep (H' := DL.hid H (fset fp i [])) ⟨?_, fun a m o e => ?_⟩).data
    · exact this
    · have h1 := stb_mono (stb_hid lsk)
      rw [stb_stb] at h1
      exact h1
    · rw [hid_at]
      · exact e
      · intro j mj
        by_cases hj : j = i
        · subst hj; rw [fset_self] at mj; cases mj
        · rw [fset_ne hj] at mj; exact hj (R.dj j i a mj m)
  have hl : i < ρ.length := (List.getElem?_eq_some_iff.mp h).1
  refine ⟨v, hv, hr, ⟨by simpa using R.len, hk.ex, hk.dj, hk.new, hk.ls, fun j s hs => ?_⟩, ⟨by simpa using R.len, hk.ex, hk.dj, hk.new, hk.ls, fun j s hs => ?_⟩⟩
  · by_cases hj : j = i
    · subst hj
      rw [List.getElem?_set_self hl] at hs; cases hs
      rw [fset_self]; exact ⟨rfl, hv, hD⟩
    · rw [List.getElem?_set_ne (Ne.symm hj)] at hs
      rw [fset_ne hj]
      exact SlOk.set (hid_less i) (Evl.Ex.refl H) (R.sl j s hs)
  · by_cases hj : j = i
    · subst hj
      rw [List.getElem?_set_self hl] at hs; cases hs
      rw [fset_self]; exact ⟨rfl, v, hv, hD⟩
    · rw [List.getElem?_set_ne (Ne.symm hj)] at hs
      rw [fset_ne hj]
      exact SlOk.set (hid_less i) (Evl.Ex.refl H) (R.sl j s hs)
/-- for good -/
def mFrz (i : Nat) (m : MS) : MS := fun ρ => match ρ[i]? with
  | some (.tr (.own ss)) => m (ρ.set i (.sh (.lst (S.dataL ss))))
  | _ => none
def calmSl : Sl → Bool
  | .dead => true
  | .ad _ => true
  | .dc _ => true
  | .tr _ => true
  | .sh x => imm x
  | _ => false
def Calm (i : Nat) (ρ : Env) : Prop := ∀ j s, j ≠ i → ρ[j]? = some s → calmSl s = true
/-- for one statement -/
def Thaws (i : Nat) (m : MS) (ρ : Env) (ss : List S) (ρ2 : Env) : Prop := i < ρ2.length ∧ Calm i ρ2 ∧ ∀ v, m (ρ.set i (.fz v (S.dataL ss))) = some (.nx (ρ2.set i (.fz v (S.dataL ss))))
open Classical in
noncomputable def mThaw (i : Nat) (m : MS) : MS := fun ρ => match ρ[i]? with
  | some (.tr (.own ss)) => if h : ∃ ρ2, Thaws i m ρ ss ρ2 then some (.nx (h.choose.set i (.tr (.own ss)))) else none
  | _ => none
theorem mThaw_eval {m : MS} {ρ2 : Env} (h : ρ[i]? = some (.tr (.own ss))) (t : Thaws i m ρ ss ρ2) : mThaw i m ρ = some (.nx (ρ2.set i (.tr (.own ss)))) := by
  unfold mThaw
  simp only [h]
  rw [dif_pos ⟨ρ2, t⟩]
  have t' := (⟨ρ2, t⟩ : ∃ ρ2, Thaws i m ρ ss ρ2).choose_spec
  generalize (⟨ρ2, t⟩ : ∃ ρ2, Thaws i m ρ ss ρ2).choose = ρ3 at t'
  have e := (t'.2.2 (V.ref 0)).symm.trans (t.2.2 (V.ref 0))
  simp only [Option.some.injEq, Out.nx.injEq] at e
  have e2 : (ρ3.set i (.fz (V.ref 0) (S.dataL ss))).set i (.tr (.own ss)) = (ρ2.set i (.fz (V.ref 0) (S.dataL ss))).set i (.tr (.own ss)) := by rw [e]
  rw [List.set_set, List.set_set] at e2
  rw [e2]
theorem sim_thaw {W : XK} {t : TS} {m : MS} (hs : SimS K W t m) : SimS K W t (mThaw i m) := by
  intro G H σ ρ fp o D R hm q
  unfold mThaw at hm
  split at hm
  rotate_left
  · cases hm
  rename_i ss hi
  split at hm
  rotate_left
  · cases hm
  rename_i hex
  cases hm
  have hsp := hex.choose_spec
  generalize hex.choose = ρ2 at hsp q
  obtain ⟨hl, hc, hv0⟩ := hsp
  obtain ⟨v, hv, hr, RF, _⟩ := R.frz hi
  obtain ⟨RB, eB⟩ := RF.toWall
  refine hs _ H σ _ _ _ D RB (hv0 v) fun σ2 H2 fp2 R2 => q σ2 H2 (fset fp2 i (fp i)) ?_
  have hF : ∀ a ∈ fp i, ∃ xs, H a = some (mo xs) ∧ DL.hid H (fset fp i []) a = some (mo xs) := fun a m => by
    obtain ⟨xs, e⟩ := R.ls i a m
    refine ⟨xs, e, ?_⟩
    rw [hid_at]
    · exact e
    · intro j mj
      by_cases hj : j = i
      · subst hj; rw [fset_self] at mj; cases mj
      · rw [fset_ne hj] at mj; exact hj (R.dj j i a mj m)
  have hn : ∀ a ∈ fp i, ∀ j, a ∉ fp2 j := fun a m j mj => by
    obtain ⟨xs, _, e⟩ := hF a m
    rw [R2.new j a mj] at e; cases e
  have lsN : ∀ j a, a ∈ fset fp2 i (fp i) j → ∃ xs, H2 a = some (mo xs) := fun j a m => by
    by_cases hj : j = i
    · subst hj; rw [fset_self] at m
      obtain ⟨xs, _, e⟩ := hF a m
      exact ⟨xs, R2.ex _ _ e⟩
    · rw [fset_ne hj] at m; exact R2.ls j a m
  refine ⟨by simpa using R2.len, eB.trans R2.ex, fun j k a m1 m2 => ?_, fun j a m => ?_, lsN, fun j s h => ?_⟩
  · by_cases hj : j = i
    · by_cases hk : k = i
      · rw [hj, hk]
      · subst hj; rw [fset_self] at m1; rw [fset_ne hk] at m2; exact (hn a m1 k m2).elim
    · rw [fset_ne hj] at m1
      by_cases hk : k = i
      · subst hk; rw [fset_self] at m2; exact (hn a m2 j m1).elim
      · rw [fset_ne hk] at m2; exact R2.dj j k a m1 m2
  · by_cases hj : j = i
    · subst hj; rw [fset_self] at m; exact R.new _ a m
    · rw [fset_ne hj] at m; exact Evl.fresh_back eB (R2.new j a m)
  · by_cases hj : j = i
    · subst hj
      rw [List.getElem?_set_self hl] at h; cases h
      rw [fset_self]
      obtain ⟨_, q1, _⟩ := R2.sl j (.fz v (S.dataL ss)) (by rw [List.getElem?_set_self hl])
      refine ⟨v, q1, hr.keep ⟨?_, fun a m o e => ?_⟩⟩
      · have h1 := stb_mono (stb_hid RF.ls)
        rw [stb_stb] at h1
        exact h1.trans (stb_mono R2.ex)
      · obtain ⟨xs, e1, e2⟩ := hF a m
        rw [e1] at e; cases e
        exact R2.ex _ _ e2
    · rw [List.getElem?_set_ne (Ne.symm hj)] at h
      rw [fset_ne hj]
      have q1 := R2.sl j s (by rw [List.getElem?_set_ne (Ne.symm hj)]; exact h)
      have hcs := hc j s hj h
      cases s with
      | dead => exact q1
      | ad a => exact q1
      | dc m => exact q1
      | fz w x => cases hcs
      | vw x => cases hcs
      | tr u => exact q1
      | sh x =>
        obtain ⟨q0, w, q1, q2⟩ := q1
        refine ⟨q0, w, q1, imm_hid lsN (q2.mono hid_ex) hcs⟩
theorem xs_thaw {X : Cx} {W : XK} {st : Stmt} {m : MS} (i : Nat) (h : XS X W st m) : XS X W st (mThaw i m) := let ⟨_, p, s⟩ := h; ⟨_, p, sim_thaw s⟩
theorem xss_frz {X : Cx} {W : XK} {st : List Stmt} {m : MS} (i : Nat) (h : XSs X W st m) : XSs X W st (mFrz i m) := by
  obtain ⟨t, p, s⟩ := h
  refine ⟨_, p, fun G H σ ρ fp o D R hm q => ?_⟩
  unfold mFrz at hm
  split at hm
  · rename_i ss hi
    obtain ⟨_, _, _, _, R'⟩ := R.frz hi
    exact s G H σ _ _ o D R' hm q
  · cases hm
end
end DL

set_option Elab.async false
set_option linter.all false
set_option maxRecDepth 100000
set_option maxHeartbeats 4000000
/-! Returns that hand on what names own. -/
namespace DL
open PySem PySem.Spec PyProof.Rows L2
open Evl (Ex)
abbrev MM := Env → Option S
abbrev MMs := Env → Option (List S)
def Own (H : Hp) (fp : Nat → List Addr) (ks : List Nat) (F : List Addr) : Prop := ∀ a ∈ F, (∃ i ∈ ks, a ∈ fp i) ∨ H a = none
def SimM (K : PySem.W.Frag) (ks : List Nat) (t : TE) (m : MM) : Prop := ∀ G H σ ρ fp s (Q : VK), RelF K G H σ ρ fp → m ρ = some s → (∀ v F H1, Ex H H1 → Rep K H1 s v F → Own H fp ks F → Q v H1) → t σ H Q
def SimMs (K : PySem.W.Frag) (ks : List Nat) (t : TA) (m : MMs) : Prop := ∀ G H σ ρ fp ss (Q : List V → Hp → Prop), RelF K G H σ ρ fp → m ρ = some ss → (∀ vs F H1, Ex H H1 → RepL K H1 ss vs F → Own H fp ks F → Q vs H1) → t σ H Q
structure XM (X : Cx) (e : Expr) (ks : List Nat) (m : MM) : Prop where
  sim : ∃ t, PE X e t ∧ SimM X.K ks t m
structure XMs (X : Cx) (es : List Expr) (ks : List Nat) (m : MMs) : Prop where
  sim : ∃ t, PA X es t ∧ SimMs X.K ks t m
/-- two parts share nothing -/
theorem Own.dj {H H1 : Hp} {fp : Nat → List Addr} {k1 k2 : List Nat} {F1 F2 : List Addr} (dj : ∀ i j a, a ∈ fp i → a ∈ fp j → i = j) (ls : ∀ i a, a ∈ fp i → ∃ xs, H a = some (mo xs)) (e : Ex H H1) (o1 : Own H fp k1 F1) (o2 : Own H1 fp k2 F2) (l1 : ∀ a ∈ F1, ∃ xs, H1 a = some (mo xs)) (hk : ∀ i ∈ k1, i ∉ k2) : ∀ a ∈ F1, a ∉ F2 := fun a m1 m2 => by
  rcases o2 a m2 with ⟨j, hj, mj⟩ | h2
  · rcases o1 a m1 with ⟨i, hi, mi⟩ | h1
    · rw [dj i j a mi mj] at hi; exact hk j hi hj
    · obtain ⟨xs, z⟩ := ls j a mj
      rw [h1] at z; cases z
  · obtain ⟨xs, z⟩ := l1 a m1
    rw [h2] at z; cases z
theorem Own.back {H H1 : Hp} {fp : Nat → List Addr} {k : List Nat} {F : List Addr} (e : Ex H H1) (o : Own H1 fp k F) : Own H fp k F := fun a m => (o a m).imp id fun h => Evl.fresh_back e h
theorem Own.app {H : Hp} {fp : Nat → List Addr} {k1 k2 : List Nat} {F1 F2 : List Addr} (o1 : Own H fp k1 F1) (o2 : Own H fp k2 F2) : Own H fp (k1 ++ k2) (F1 ++ F2) := fun a m => by
  rcases List.mem_append.mp m with m | m
  · exact (o1 a m).imp (fun ⟨i, h, z⟩ => ⟨i, List.mem_append_left _ h, z⟩) id
  · exact (o2 a m).imp (fun ⟨i, h, z⟩ => ⟨i, List.mem_append_right _ h, z⟩) id
section
variable {X : Cx} {e a b : Expr} {es : List Expr} {k k1 k2 : List Nat} {ma mb : MM} {ms : MMs} {m : ME} {pos : Pos}
def mmV (i : Nat) : MM := fun ρ => match ρ[i]? with
  | some (.tr s) => some s
  | _ => none
theorem xm_v (i : Nat) {x : Str} {pos : Pos} (hN : X.N[i]? = some x := by rfl) (hv : Vis X.env.scope x := by first | exact Or.inl rfl | exact Or.inr (Or.inl rfl) | exact Or.inr (Or.inr rfl)) (hd : (x == ("__debug__" : Str)) = false := by decide)
    (hcd : (x == ("__classdict__" : Str)) = false := by decide) : XM X (.Name x pos) [i] (mmV i) := by
  refine ⟨_, pe_var hN hv hd hcd, fun G H σ ρ fp s Q R hm q => ?_⟩
  unfold mmV at hm
  split at hm
  · rename_i s' hs; cases hm
    obtain ⟨v, h1, h2⟩ := R.sl i _ hs
    exact ⟨v, h1, q v _ H (Evl.Ex.refl H) h2 fun a z => .inl ⟨i, List.mem_singleton.mpr rfl, z⟩⟩
  · cases hm
def mmE (m : ME) : MM := fun ρ => match m ρ with
  | some r => r.tree
  | none => none
theorem xm_e (h : XE X e m) : XM X e [] (mmE m) := by
  obtain ⟨t, p, s⟩ := h
  refine ⟨_, p, fun G H σ ρ fp s' Q R hm q => ?_⟩
  unfold mmE at hm
  split at hm
  · rename_i r e1
    exact s G H σ ρ fp r _ R e1 fun v F H1 x1 o1 => q v F H1 x1 (o1.tree hm) fun a z => .inr (o1.fresh a z)
  · cases hm
def mmAdd (ma mb : MM) : MM := fun ρ => match ma ρ, mb ρ with
  | some (.own xs), some (.own ys) => if xs.length + ys.length ≤ 100000 then some (.own (xs ++ ys)) else none
  | _, _ => none
theorem xm_add (ha : XM X a k1 ma) (hb : XM X b k2 mb) (hk : ∀ i ∈ k1, i ∉ k2 := by decide) : XM X (.BinOp a .Add b pos) (k1 ++ k2) (mmAdd ma mb) := by
  obtain ⟨ta, p, s⟩ := ha
  obtain ⟨tb, p', s'⟩ := hb
  refine ⟨_, pe_op (op_add.or (op_add_str.or op_cat)) p p', fun G H σ ρ fp r Q R hm q => ?_⟩
  unfold mmAdd at hm
  split at hm
  · rename_i xs ys e1 e2
    split at hm
    · rename_i hl; cases hm
      refine s G H σ ρ fp _ _ R e1 fun v F1 H1 x1 r1 o1 => ?_
      refine s' G H1 σ ρ fp _ _ (R.grow x1) e2 fun w F2 H2 x2 r2 o2 => ?_
      have l1 := r1.ls
      cases r1 with
      | own h1 t1 n1 =>
        cases r2 with
        | own h2 t2 n2 =>
          have dj := Own.dj R.dj R.ls x1 o1 o2 l1 hk
          refine .inr (.inr ⟨_, _, _, _, rfl, rfl, x2 _ _ h1, h2, ?_, fun p hp => ?_⟩)
          · rw [← t1.len, ← t2.len]; exact Evl.sz_of hl
          · have x3 : ∀ zs, Ex H2 (upd H2 p (.lst zs)) := fun _ => Evl.Ex.new hp
            have t12 := (t1.mono x2).append t2 fun a m1 m2 => dj a (List.mem_cons_of_mem _ m1) (List.mem_cons_of_mem _ m2)
            have lt := t12.ls
            refine q _ _ _ (x1.trans (x2.trans (x3 _))) (.own upd_same (t12.mono (x3 _)) fun z => ?_) fun a m => ?_
            · obtain ⟨zs, e⟩ := lt p z; rw [hp] at e; cases e
            · rcases List.mem_cons.mp m with rfl | m
              · exact .inr (Evl.fresh_back x1 (Evl.fresh_back x2 hp))
              · exact (o1.app (o2.back x1)) a (by
                  rcases List.mem_append.mp m with m | m
                  · exact List.mem_append_left _ (List.mem_cons_of_mem _ m)
                  · exact List.mem_append_right _ (List.mem_cons_of_mem _ m))
    · cases hm
  · cases hm
def mmNil : MMs := fun _ => some []
def mmCons (m : MM) (ms : MMs) : MMs := fun ρ => match m ρ, ms ρ with
  | some s, some ss => some (s :: ss)
  | _, _ => none
theorem xmn_nil : XMs X [] [] mmNil := ⟨_, pa_nil, fun G H σ ρ fp r Q R hm q => by cases hm; exact q [] [] H (Evl.Ex.refl H) .nil fun a z => by cases z⟩
theorem xmn (h : XM X e k1 ma) (hs : XMs X es k2 ms) (hk : ∀ i ∈ k1, i ∉ k2 := by decide) (hst : starEach (e :: es) X.env = (false, eval e X.env) :: starEach es X.env := by rfl) : XMs X (e :: es) (k1 ++ k2) (mmCons ma ms) := by
  obtain ⟨te, p, s⟩ := h
  obtain ⟨t, p', s'⟩ := hs
  refine ⟨_, pa_cons p p' hst, fun G H σ ρ fp r Q R hm q => ?_⟩
  unfold mmCons at hm
  split at hm
  · rename_i s1 ss e1 e2; cases hm
    refine s G H σ ρ fp _ _ R e1 fun v F1 H1 x1 r1 o1 => ?_
    refine s' G H1 σ ρ fp _ _ (R.grow x1) e2 fun vs F2 H2 x2 r2 o2 => ?_
    exact q _ _ H2 (x1.trans x2) (.cons (r1.mono x2) r2 (Own.dj R.dj R.ls x1 o1 o2 r1.ls hk)) (o1.app (o2.back x1))
  · cases hm
def mmLst (ms : MMs) : MM := fun ρ => match ms ρ with
  | some ss => if ss.length ≤ 100000 then some (.own ss) else none
  | none => none
theorem xm_lst (h : XMs X es k ms) : XM X (.List es pos) k (mmLst ms) := by
  obtain ⟨t, p, s⟩ := h
  refine ⟨_, pe_lst p, fun G H σ ρ fp r Q R hm q => ?_⟩
  unfold mmLst at hm
  split at hm
  · rename_i ss e1
    split at hm
    · rename_i hl; cases hm
      refine s G H σ ρ fp ss _ R e1 fun vs F H1 x1 r1 o1 => ⟨?_, fun p hp => ?_⟩
      · rw [← r1.len]; exact Evl.sz_of hl
      · have x2 : Ex H1 (upd H1 p (.lst vs)) := Evl.Ex.new hp
        have lt := r1.ls
        refine q _ _ _ (x1.trans x2) (.own upd_same (r1.mono x2) fun z => ?_) fun a m => ?_
        · obtain ⟨zs, e⟩ := lt p z; rw [hp] at e; cases e
        · rcases List.mem_cons.mp m with rfl | m
          · exact .inr (Evl.fresh_back x1 hp)
          · exact o1 a m
    · cases hm
  · cases hm
/-- what is handed on -/
def mRetM (m : MM) : MS := fun ρ => (m ρ).map .rt
theorem xs_retM {W : XK} (h : XM X e k ma) : XS X W (.Return (some e) pos) (mRetM ma) := by
  obtain ⟨t, p, s⟩ := h
  refine ⟨_, ps_ret p, fun G H σ ρ fp o D R hm q => ?_⟩
  unfold mRetM at hm
  rw [Option.map_eq_some_iff] at hm
  obtain ⟨s', e2, rfl⟩ := hm
  refine s G H σ ρ fp s' _ R e2 fun v F H1 x1 r1 o1 => q v F H1 (R.ex.trans x1) r1 fun a m => ?_
  rcases o1 a m with ⟨i, _, z⟩ | z
  · exact R.new i a z
  · exact Evl.fresh_back R.ex z
end
end DL

set_option Elab.async false
set_option linter.all false
set_option maxRecDepth 100000
set_option maxHeartbeats 4000000
/-! Pure lemmas about the mirrors. -/
namespace DL
open PySem PySem.Spec PyProof.Rows L2
/-! a loop, by what holds between two turns -/
theorem forGo_inv {s : Bool} {g : MG} {body : MS} {ks : List Nat} (Inv : Nat → Env → Prop) {items : List D} {ρ0 : Env} (h0 : Inv 0 ρ0)
    (step : ∀ i d ρ, items[i]? = some d → Inv i ρ → ∃ ρ1 ρ2, g s d ρ = some ρ1 ∧ (body ρ1 = some (.nx ρ2) ∨ body ρ1 = some (.ct ρ2)) ∧ Inv (i + 1) (killE ks ρ2)) :
    ∃ ρ, forGo s g body ks items ρ0 = some (.nx ρ) ∧ Inv items.length ρ := by
  induction items generalizing Inv ρ0 with
  | nil => exact ⟨ρ0, rfl, h0⟩
  | cons d ds ih =>
    obtain ⟨ρ1, ρ2, h1, h2, h3⟩ := step 0 d ρ0 rfl h0
    obtain ⟨ρ, h4, h5⟩ := ih (fun i ρ => Inv (i + 1) ρ) h3 fun i d' ρ e hi => step (i + 1) d' ρ (by simpa using e) hi
    refine ⟨ρ, ?_, h5⟩
    show (match g s d ρ0 with
      | some ρ1 => match body ρ1 with
        | some (.nx ρ2) => forGo s g body ks ds (killE ks ρ2)
        | some (.ct ρ2) => forGo s g body ks ds (killE ks ρ2)
        | some (.bk ρ2) => some (.nx ρ2)
        | o => o
      | none => none) = _
    rw [h1]
    rcases h2 with h2 | h2
    · simp only [h2]; exact h4
    · simp only [h2]; exact h4
theorem forGo_append {s : Bool} {g : MG} {body : MS} {ks : List Nat} {xs ys : List D} {ρ0 ρ1 : Env} (h : forGo s g body ks xs ρ0 = some (.nx ρ1)) (nb : ∀ ρ ρ', body ρ ≠ some (.bk ρ')) : forGo s g body ks (xs ++ ys) ρ0 = forGo s g body ks ys ρ1 := by
  induction xs generalizing ρ0 with
  | nil => cases h; rfl
  | cons d ds ih =>
    have h' : (match g s d ρ0 with
      | some ρ1 => match body ρ1 with
        | some (.nx ρ2) => forGo s g body ks ds (killE ks ρ2)
        | some (.ct ρ2) => forGo s g body ks ds (killE ks ρ2)
        | some (.bk ρ2) => some (.nx ρ2)
        | o => o
      | none => none) = some (.nx ρ1) := h
    show (match g s d ρ0 with
      | some ρ1 => match body ρ1 with
        | some (.nx ρ2) => forGo s g body ks (ds ++ ys) (killE ks ρ2)
        | some (.ct ρ2) => forGo s g body ks (ds ++ ys) (killE ks ρ2)
        | some (.bk ρ2) => some (.nx ρ2)
        | o => o
      | none => none) = _
    cases h1 : g s d ρ0 with
    | none => rw [h1] at h'; cases h'
    | some ρ2 =>
      rw [h1] at h'
      cases h2 : body ρ2 with
      | none => simp only [h2] at h'; cases h'
      | some o =>
        cases o with
        | nx ρ3 => simp only [h2] at h' ⊢; exact ih h'
        | ct ρ3 => simp only [h2] at h' ⊢; exact ih h'
        | bk ρ3 => exact (nb _ _ h2).elim
        | rt s => simp only [h2] at h'; cases h'
        | ex C => simp only [h2] at h'; cases h'
/-- over pieces -/
theorem forGo_flat {α : Type} {s : Bool} {g : MG} {body : MS} {ks : List Nat} (Inv : Nat → Env → Prop) {L : List α} {f : α → List D} {ρ0 : Env} (nb : ∀ ρ ρ', body ρ ≠ some (.bk ρ')) (h0 : Inv 0 ρ0)
    (step : ∀ k a ρ, L[k]? = some a → Inv k ρ → ∃ ρ', forGo s g body ks (f a) ρ = some (.nx ρ') ∧ Inv (k + 1) ρ') : ∃ ρ, forGo s g body ks (L.flatMap f) ρ0 = some (.nx ρ) ∧ Inv L.length ρ := by
  induction L generalizing Inv ρ0 with
  | nil => exact ⟨ρ0, rfl, h0⟩
  | cons a as ih =>
    obtain ⟨ρ1, h1, h2⟩ := step 0 a ρ0 rfl h0
    obtain ⟨ρ, h4, h5⟩ := ih (fun i ρ => Inv (i + 1) ρ) h2 fun i d' ρ e hi => step (i + 1) d' ρ (by simpa using e) hi
    refine ⟨ρ, ?_, h5⟩
    rw [List.flatMap_cons, forGo_append h1 nb]
    exact h4
theorem gather_flat {α β : Type} {f : α → Option (List β)} {h : α → List β} : ∀ {xs : List α}, (∀ x ∈ xs, f x = some (h x)) → gather f xs = some (xs.flatMap h)
  | [], _ => rfl
  | x :: xs, hx => by
    have h1 := hx x List.mem_cons_self
    have h2 := gather_flat (f := f) (h := h) (xs := xs) fun y m => hx y (List.mem_cons_of_mem _ m)
    unfold gather
    rw [h1, h2]
    simp
theorem trees_map {α : Type} {xs : List α} {f : α → R} {F : α → S} (h : ∀ x ∈ xs, (f x).tree = some (F x)) : trees (xs.map f) = some (xs.map F) := by
  induction xs with
  | nil => rfl
  | cons x xs ih =>
    have h1 := h x List.mem_cons_self
    have h2 := ih fun y m => h y (List.mem_cons_of_mem _ m)
    unfold trees
    simp only [List.map_cons, h1, h2]
theorem nrm_tree {r : R} {s : S} (h : r.tree = some s) : (nrm r).tree = some s ∧ noVw (nrm r) = true := by
  cases r with
  | sh x => exact ⟨h, rfl⟩
  | tr t => exact ⟨h, rfl⟩
  | vw x =>
    have h : (if imm x = true then some (S.d x) else none) = some s := h
    by_cases i : imm x = true
    · rw [if_pos i] at h; cases h
      show (if imm x = true then R.sh x else R.vw x).tree = _ ∧ noVw (if imm x = true then R.sh x else R.vw x) = true
      rw [if_pos i]
      refine ⟨?_, rfl⟩
      show (if imm x = true then some (S.d x) else none) = _
      rw [if_pos i]
    · rw [if_neg i] at h; cases h
theorem lcRes_map {α : Type} {xs : List α} {f : α → R} {F : α → S} (h : ∀ x ∈ xs, (f x).tree = some (F x)) : lcRes (xs.map fun x => nrm (f x)) = some (.tr (.own (xs.map F))) := by
  unfold lcRes
  have h1 : (xs.map fun x => nrm (f x)).all noVw = true := by
    rw [List.all_eq_true]
    intro r m
    obtain ⟨x, hx, rfl⟩ := List.mem_map.mp m
    exact (nrm_tree (h x hx)).2
  rw [if_pos h1, trees_map (F := F) fun x hx => (nrm_tree (h x hx)).1]
theorem flatMap_if {α β : Type} (p : α → Bool) (f : α → β) : ∀ xs : List α, (xs.flatMap fun x => if p x = true then [f x] else []) = (xs.filter p).map f
  | [] => rfl
  | x :: xs => by
    rw [List.flatMap_cons, flatMap_if p f xs, List.filter_cons]
    by_cases h : p x = true
    · rw [if_pos h, if_pos h]; rfl
    · rw [if_neg h, if_neg h]; rfl
/-- a comprehension of one clause -/
theorem mLc_eval {mi : MI} {g : MG} {mt : MT} {me : ME} {vs : List Nat} {ρ : Env} {s : Bool} {items : List D} (p : D → Bool) (f : D → R) (F : D → S) (hi : mi ρ = some (s, items)) (hl : items.length ≤ 100000) (hd : vs.all (fun i => isDead ρ[i]?) = true)
    (ht : ∀ d ∈ items, ∃ ρ', g s d ρ = some ρ' ∧ mt ρ' = some (p d) ∧ (p d = true → me ρ' = some (f d) ∧ (f d).tree = some (F d))) : mLc mi g mt me vs ρ = some (.tr (.own ((items.filter p).map F))) := by
  unfold mLc
  simp only [hi]
  rw [if_pos ⟨hl, hd⟩]
  have h1 : gather (lcTurn s g mt me ρ) items = some (items.flatMap fun d => if p d = true then [nrm (f d)] else []) := gather_flat fun d m => by
    obtain ⟨ρ', h1, h2, h3⟩ := ht d m
    unfold lcTurn
    simp only [h1, h2]
    by_cases hp : p d = true
    · rw [hp, if_pos rfl]; simp only [(h3 hp).1]; rfl
    · have : p d = false := by simpa using hp
      rw [this]; rfl
  rw [h1]
  show lcRes _ = _
  rw [flatMap_if p fun d => nrm (f d)]
  refine lcRes_map fun x m => ?_
  rw [List.mem_filter] at m
  obtain ⟨ρ', h1, h2, h3⟩ := ht x m.1
  exact (h3 m.2).2
/-- of two clauses -/
theorem mLc2_eval {mi mi1 : MI} {g g1 : MG} {mt mt1 : MT} {me : ME} {vs vs1 : List Nat} {ρ : Env} {items : List D} (p1 : D → D → Bool) (its : D → List D) (f : D → D → R) (F : D → D → S) (hi : mi ρ = some (true, items)) (hd : vs.all (fun i => isDead (killVw ρ)[i]?) = true)
    (ht : ∀ d ∈ items, ∃ ρ', g true d (killVw ρ) = some ρ' ∧ mt ρ' = some true ∧ mi1 (killVw ρ') = some (true, its d) ∧ vs1.all (fun i => isDead (killVw ρ')[i]?) = true ∧
      ∀ d1 ∈ its d, ∃ ρ1, g1 true d1 (killVw ρ') = some ρ1 ∧ mt1 ρ1 = some (p1 d d1) ∧ (p1 d d1 = true → me ρ1 = some (f d d1) ∧ (f d d1).tree = some (F d d1)))
    (hl : (items.flatMap fun d => (its d).filter (p1 d)).length ≤ 100000) : mLc2 mi g mt mi1 g1 mt1 me vs vs1 ρ = some (.tr (.own (items.flatMap fun d => ((its d).filter (p1 d)).map (F d)))) := by
  unfold mLc2
  simp only [hi]
  rw [if_pos hd]
  have h1 : gather (lcTurn2 true g mt mi1 g1 mt1 me vs1 (killVw ρ)) items = some (items.flatMap fun d => ((its d).filter (p1 d)).map fun d1 => nrm (f d d1)) := gather_flat fun d m => by
    obtain ⟨ρ', h1, h2, h3, h4, h5⟩ := ht d m
    unfold lcTurn2
    simp only [h1, h2, h3]
    rw [if_pos h4, ← flatMap_if]
    refine gather_flat fun d1 m1 => ?_
    obtain ⟨ρ1, k1, k2, k3⟩ := h5 d1 m1
    unfold lcTurn
    simp only [k1, k2]
    by_cases hp : p1 d d1 = true
    · rw [hp, if_pos rfl]; simp only [(k3 hp).1]; rfl
    · have : p1 d d1 = false := by simpa using hp
      rw [this]; rfl
  rw [h1]
  have e : (items.flatMap fun d => ((its d).filter (p1 d)).map fun d1 => nrm (f d d1)) = (items.flatMap fun d => ((its d).filter (p1 d)).map fun d1 => (d, d1)).map fun x => nrm (f x.1 x.2) := by
    rw [List.map_flatMap]; simp [Function.comp_def]
  have e2 : (items.flatMap fun d => ((its d).filter (p1 d)).map (F d)) = (items.flatMap fun d => ((its d).filter (p1 d)).map fun d1 => (d, d1)).map fun x => F x.1 x.2 := by
    rw [List.map_flatMap]; simp [Function.comp_def]
  show (if _ then _ else _) = _
  rw [if_pos]
  · rw [e, e2]
    refine lcRes_map fun x m => ?_
    obtain ⟨d, hd1, hx⟩ := List.mem_flatMap.mp m
    obtain ⟨d1, hd2, rfl⟩ := List.mem_map.mp hx
    rw [List.mem_filter] at hd2
    obtain ⟨ρ', h1, h2, h3, h4, h5⟩ := ht d hd1
    obtain ⟨ρ1, k1, k2, k3⟩ := h5 d1 hd2.1
    exact (k3 hd2.2).2
  · refine Nat.le_trans (Nat.le_of_eq ?_) hl
    simp [List.length_flatMap]
/-! what may be compared, and how -/
mutual
/-- no text, no deeper than n -/
def flt : Nat → D → Bool
  | _, .non => true
  | _, .bl _ => true
  | _, .int _ => true
  | _, .str _ => false
  | 0, .lst _ => false
  | 0, .tup _ => false
  | _, .scr _ => false
  | _, .ktp _ => false
  | n + 1, .lst xs => fltL n xs
  | n + 1, .tup xs => fltL n xs
def fltL : Nat → List D → Bool
  | _, [] => true
  | n, x :: xs => flt n x && fltL n xs
end
mutual
theorem flt_py : ∀ (n : Nat) (d : D), flt n d = true → d.py.canLay0 = true ∧ d.py.depth ≤ n
  | n, .non, _ => by simp [D.py, PyData.canLay0, PyData.depth]
  | n, .bl _, _ => by simp [D.py, PyData.canLay0, PyData.depth]
  | n, .int _, _ => by simp [D.py, PyData.canLay0, PyData.depth]
  | n, .str _, h => by cases n <;> simp [flt] at h
  | n, .scr _, h => by cases n <;> simp [flt] at h
  | n, .ktp _, h => by cases n <;> simp [flt] at h
  | 0, .lst _, h => by simp [flt] at h
  | 0, .tup _, h => by simp [flt] at h
  | n + 1, .lst xs, h => by
    have := fltL_py n xs (by simpa [flt] using h)
    simp only [D.py, PyData.canLay0, PyData.depth]
    exact ⟨this.1, by omega⟩
  | n + 1, .tup xs, h => by
    have := fltL_py n xs (by simpa [flt] using h)
    simp only [D.py, PyData.canLay0, PyData.depth]
    exact ⟨this.1, by omega⟩
theorem fltL_py : ∀ (n : Nat) (ds : List D), fltL n ds = true → PyData.canLayAll0 (D.pyL ds) = true ∧ PyData.depthAll (D.pyL ds) ≤ n
  | n, [], _ => by simp [D.pyL, PyData.canLayAll0, PyData.depthAll]
  | n, d :: ds, h => by
    have h' : flt n d = true ∧ fltL n ds = true := by simpa [fltL] using h
    have h1 := flt_py n d h'.1
    have h2 := fltL_py n ds h'.2
    simp only [D.pyL, PyData.canLayAll0, PyData.depthAll, Bool.and_eq_true]
    exact ⟨⟨h1.1, h2.1⟩, by omega⟩
end
theorem ok_flt {n : Nat} {d : D} (h : flt n d = true) (hn : n ≤ 64) : d.ok = true := by
  have := flt_py n d h
  unfold D.ok SeqAt.shaped
  rw [this.1]
  simp
  omega
theorem fltL_all {n : Nat} : ∀ {ds : List D}, (∀ d ∈ ds, flt n d = true) → fltL n ds = true
  | [], _ => by simp [fltL]
  | d :: ds, h => by
    have := fltL_all (n := n) (ds := ds) fun x m => h x (List.mem_cons_of_mem _ m)
    simp [fltL, h d List.mem_cons_self, this]
theorem flt_int {n : Nat} {i : Int} : flt n (.int i) = true := by cases n <;> rfl
@[simp] theorem gEq_int (neg : Bool) (i j : Int) : gEq neg (.int i) (.int j) = some (.bl (if neg = true then !decide (i = j) else decide (i = j))) := by
  unfold gEq
  rw [ok_flt (n := 0) flt_int (by decide), ok_flt (n := 0) flt_int (by decide)]
  have e : D.eqv (.int i) (.int j) = decide (i = j) := by simp [D.eqv, D.py, PyData.eqv, Bool.beq_eq_decide_eq]
  rw [e]; rfl
/-- the equality of lists of such -/
theorem eqvAll_map {α : Type} [DecidableEq α] {f : α → D} (h : ∀ x y, D.eqv (f x) (f y) = decide (x = y)) : ∀ xs ys : List α, PyData.eqvAll (D.pyL (xs.map f)) (D.pyL (ys.map f)) = decide (xs = ys)
  | [], [] => by simp [D.pyL, PyData.eqvAll]
  | [], _ :: _ => by simp [D.pyL, PyData.eqvAll]
  | _ :: _, [] => by simp [D.pyL, PyData.eqvAll]
  | x :: xs, y :: ys => by
    have h1 : PyData.eqv (f x).py (f y).py = decide (x = y) := h x y
    simp only [List.map_cons, D.pyL, PyData.eqvAll, h1, eqvAll_map h xs ys]
    by_cases e : x = y <;> simp [e]
theorem eqv_int (i j : Int) : D.eqv (.int i) (.int j) = decide (i = j) := by simp [D.eqv, D.py, PyData.eqv, Bool.beq_eq_decide_eq]
theorem eqv_lst {α : Type} [DecidableEq α] {f : α → D} (h : ∀ x y, D.eqv (f x) (f y) = decide (x = y)) (xs ys : List α) : D.eqv (.lst (xs.map f)) (.lst (ys.map f)) = decide (xs = ys) := by
  have := eqvAll_map h xs ys
  simpa [D.eqv, D.py, PyData.eqv] using this
theorem eqv_tup {α : Type} [DecidableEq α] {f : α → D} (h : ∀ x y, D.eqv (f x) (f y) = decide (x = y)) (xs ys : List α) : D.eqv (.tup (xs.map f)) (.tup (ys.map f)) = decide (xs = ys) := by
  have := eqvAll_map h xs ys
  simpa [D.eqv, D.py, PyData.eqv] using this
/-! rows and tables -/
def dRow (r : List Int) : D := .lst (r.map .int)
def dTab (t : List (List Int)) : D := .lst (t.map dRow)
def sRow (r : List Int) : S := .own (r.map fun n => .d (.int n))
def sTab (t : List (List Int)) : S := .own (t.map sRow)
theorem sRow_data (r : List Int) : (sRow r).data = dRow r := by
  unfold sRow dRow
  simp [S.data, S.dataL_map, Function.comp_def]
theorem sTab_data (t : List (List Int)) : (sTab t).data = dTab t := by
  unfold sTab dTab
  simp [S.data, S.dataL_map, Function.comp_def, sRow_data]
theorem eqv_tab (t u : List (List Int)) : D.eqv (dTab t) (dTab u) = decide (t = u) := eqv_lst (eqv_lst eqv_int) t u
theorem flt_row {n : Nat} (r : List Int) : flt (n + 1) (dRow r) = true := by
  show fltL n (r.map .int) = true
  exact fltL_all fun d m => by obtain ⟨i, _, rfl⟩ := List.mem_map.mp m; exact flt_int
theorem flt_tab (t : List (List Int)) : flt 2 (dTab t) = true := by
  show fltL 1 (t.map dRow) = true
  exact fltL_all fun d m => by obtain ⟨r, _, rfl⟩ := List.mem_map.mp m; exact flt_row r
theorem gEq_tab (neg : Bool) (t u : List (List Int)) : gEq neg (dTab t) (dTab u) = some (.bl (if neg = true then !decide (t = u) else decide (t = u))) := by
  unfold gEq
  rw [ok_flt (flt_tab t) (by decide), ok_flt (flt_tab u) (by decide), eqv_tab]; rfl
/-! items -/
@[simp] theorem atI_int_lt {α : Type} {xs : List α} {i : Nat} {x : α} (h : xs[i]? = some x) : atI xs (i : Int) = some x := atI_nat h
theorem imm_ints (ns : List Int) : immL (ns.map .int) = true := immL_iff.mpr fun d m => by obtain ⟨i, _, rfl⟩ := List.mem_map.mp m; rfl
end DL

set_option Elab.async false
set_option linter.all false
set_option maxRecDepth 100000
set_option maxHeartbeats 4000000
/-! Dicts held by a name; texts; x += e. -/
namespace DL
open PySem PySem.Spec PyProof.Rows L2
open Evl (Ex)
/-! ### x += e -/
section
variable {X : Cx} {W : XK} {e k v o : Expr} {ma mb mk mv me : ME} {pos : Pos} {x : Str}
def mAug (i : Nat) (f : Int → Int → Int) (m : ME) : MS := fun ρ => match ρ[i]?, m ρ with
  | some (.sh (.int a)), some r => match r.data with
    | .int b => some (.nx (ρ.set i (.sh (.int (f a b)))))
    | _ => none
  | _, _ => none
theorem sim_aug {K : PySem.W.Frag} {te : TE} {i : Nat} {f : Int → Int → Int} (s : SimE K te ma) : SimS K W (tAug i te (ipI f)) (mAug i f ma) := fun G H σ ρ fp o D R hm q => by
  unfold mAug at hm
  split at hm
  · rename_i a r h0 h1
    split at hm
    · rename_i b h2; cases hm
      obtain ⟨_, v, h3, h4⟩ := R.sl i _ h0
      cases h4
      refine ⟨_, h3, s G H σ ρ fp r _ R h1 fun w F H1 x1 o1 => ?_⟩
      have z := o1.data
      rw [h2] at z; cases z
      exact ⟨a, b, rfl, rfl, q _ H1 _ (R.set x1 (Fl.int (f a b)).rok)⟩
    · cases hm
  · cases hm
theorem xs_augAdd {i : Nat} {pos' : Pos} (hN : X.N.Nodup) (hi : X.N[i]? = some x) (hx : Loc X.env.scope x) (he : XE X e ma) (hf : X.fn x = true ∨ X.env.scope.names.lookup x = some .local := by first | exact .inl rfl | exact .inr rfl | assumption) :
    XS X W (.AugAssign (.Name x pos') .Add e pos) (mAug i (fun a b => a + b) ma) := by
  obtain ⟨t, p, s⟩ := he
  exact ⟨_, ps_aug hN hi hx p ip_add hf, sim_aug s⟩
theorem xs_augSub {i : Nat} {pos' : Pos} (hN : X.N.Nodup) (hi : X.N[i]? = some x) (hx : Loc X.env.scope x) (he : XE X e ma) (hf : X.fn x = true ∨ X.env.scope.names.lookup x = some .local := by first | exact .inl rfl | exact .inr rfl | assumption) :
    XS X W (.AugAssign (.Name x pos') .Sub e pos) (mAug i (fun a b => a - b) ma) := by
  obtain ⟨t, p, s⟩ := he
  exact ⟨_, ps_aug hN hi hx p ip_sub hf, sim_aug s⟩

/-! ### texts -/
def strs? : List D → Option (List Str)
  | [] => some []
  | .str x :: r => (strs? r).map (x :: ·)
  | _ => none
theorem strs?_inv {K : PySem.W.Frag} {H : Hp} : ∀ {ds : List D} {vs : List V} {xs : List Str}, DtL K H vs ds → strs? ds = some xs → vs = xs.map V.str
  | [], _, _, h, e => by cases h; cases e; rfl
  | .str x :: r, _, _, h, e => by
    simp only [strs?, Option.map_eq_some_iff] at e
    obtain ⟨ys, e, rfl⟩ := e
    cases h with
    | cons h1 h2 => cases h1; rw [strs?_inv h2 e]; rfl
/-- sep.join(xs), a list of texts -/
def mJoin (ma mb : ME) : ME := fun ρ => match ma ρ, mb ρ with
  | some x, some y => match x.data, y.data with
    | .str a, .lst ds => match strs? ds with
      | some ys => if (ys.map (·.length)).sum + ys.length * a.length ≤ 16777216 then some (.sh (.str (Txt.join a ys))) else none
      | none => none
    | _, _ => none
  | _, _ => none
theorem x_join {apos : Pos} (ho : XE X o ma) (he : XE X e mb) (hs : starEach [e] X.env = [(false, eval e X.env)] := by rfl) (hbase : attributeBase o "join" X.env (eval o X.env) = eval o X.env := by rfl) (hline : (apos.endLine == pos.line) = true := by rfl) :
    XE X (.Call (.Attribute o "join" apos) [e] [] pos) (mJoin ma mb) := by
  obtain ⟨t, p, s⟩ := ho
  obtain ⟨u, p2, s2⟩ := he
  refine ⟨_, pe_join p p2 hs hbase hline, fun G H σ ρ fp r Q R hm q => ?_⟩
  unfold mJoin at hm
  split at hm
  · rename_i x y e1 e2
    split at hm
    · rename_i a ds e3 e4
      split at hm
      · rename_i ys e5
        split at hm
        · rename_i hl; cases hm
          refine s G H σ ρ fp x _ R e1 fun v F H1 x1 o1 => ?_
          have z := o1.data
          rw [e3] at z; cases z
          refine ⟨⟨_, rfl⟩, s2 G H1 σ ρ fp y _ (R.grow x1) e2 fun w F2 H2 x2 o2 => ?_⟩
          have z := o2.data
          rw [e4] at z
          cases z with
          | lst h t =>
            have := strs?_inv t e5; subst this
            exact ⟨a, _, ys, rfl, rfl, .inl (SqL.of h), hl, q _ [] H2 (x1.trans x2) (Fl.str _).rok⟩
        · cases hm
      · cases hm
    · cases hm
  · cases hm
/-- s.count(t) -/
def mCount (ma mb : ME) : ME := fun ρ => match ma ρ, mb ρ with
  | some x, some y => match x.data, y.data with
    | .str a, .str b => some (.sh (.int (Txt.count a b)))
    | _, _ => none
  | _, _ => none
theorem x_count {apos : Pos} (ho : XE X o ma) (he : XE X e mb) (hs : starEach [e] X.env = [(false, eval e X.env)] := by rfl) (hbase : attributeBase o "count" X.env (eval o X.env) = eval o X.env := by rfl) (hline : (apos.endLine == pos.line) = true := by rfl) :
    XE X (.Call (.Attribute o "count" apos) [e] [] pos) (mCount ma mb) := by
  obtain ⟨t, p, s⟩ := ho
  obtain ⟨u, p2, s2⟩ := he
  refine ⟨_, pe_m1 F.slot_str_count F.type_str_count mt_count p p2 hs hbase hline, fun G H σ ρ fp r Q R hm q => ?_⟩
  unfold mCount at hm
  split at hm
  · rename_i x y e1 e2
    split at hm
    · rename_i a b e3 e4; cases hm
      refine s G H σ ρ fp x _ R e1 fun v F H1 x1 o1 => ?_
      have z := o1.data
      rw [e3] at z; cases z
      refine ⟨⟨_, rfl⟩, s2 G H1 σ ρ fp y _ (R.grow x1) e2 fun w F2 H2 x2 o2 => ?_⟩
      have z := o2.data
      rw [e4] at z; cases z
      exact ⟨a, b, rfl, rfl, q _ [] H2 (x1.trans x2) (Fl.int _).rok⟩
    · cases hm
  · cases hm

/-! ### dicts -/
def keyD : D → Option Key
  | .int i => some (.inl i)
  | .str x => some (.inr x)
  | _ => none
def keysD : List D → Option (List Key)
  | [] => some []
  | d :: r => match keyD d, keysD r with
    | some k, some ks => some (k :: ks)
    | _, _ => none
theorem keyD_inv {K : PySem.W.Frag} {H : Hp} {v : V} {d : D} {k : Key} (h : Dt K H v d) (e : keyD d = some k) : v = kV k := by
  cases h <;> cases e <;> rfl
theorem keysD_inv {K : PySem.W.Frag} {H : Hp} : ∀ {ds : List D} {vs : List V} {ks : List Key}, DtL K H vs ds → keysD ds = some ks → vs = ks.map kV
  | [], _, _, h, e => by cases h; cases e; rfl
  | d :: r, _, _, h, e => by
    unfold keysD at e
    split at e
    · rename_i k ks e1 e2; cases e
      cases h with
      | cons h1 h2 => rw [keyD_inv h1 e1, keysD_inv h2 e2]; rfl
    · cases e
/-- what stands in it at a key; none: it is no key for it -/
def getM (m : Mu) (d : D) : Option (Option V) := match m, d with
  | .k kvs, .int i => some (valV kvs (.inl i))
  | .k kvs, .str x => some (valV kvs (.inr x))
  | .t kvs, .tup ds => (keysD ds).map fun k => valV kvs k
  | _, _ => none
def putM (m : Mu) (d : D) (v : V) : Option Mu := match m, d with
  | .k kvs, .int i => if kvs.length < 100000 then some (.k (putK kvs (.inl i) v)) else none
  | .k kvs, .str x => if kvs.length < 100000 then some (.k (putK kvs (.inr x) v)) else none
  | .t kvs, .tup ds => match keysD ds with
    | some k => if kvs.length < 100000 then some (.t (putK kvs k v)) else none
    | none => none
  | _, _ => none
theorem getM_ok {K : PySem.W.Frag} {H : Hp} {a : Addr} {m : Mu} {y : V} {d : D} {r : Option V} (ha : H a = some (mo m)) (h : Dt K H y d) (e : getM m d = some r) : DGet H a y r := by
  unfold getM at e
  split at e
  · cases e; cases h; exact DGet.k (k := Sum.inl _) ha
  · cases e; cases h; exact DGet.k (k := Sum.inr _) ha
  · rw [Option.map_eq_some_iff] at e
    obtain ⟨k, e, rfl⟩ := e
    cases h with
    | tup h t =>
      have := keysD_inv t e; subst this
      exact DGet.t ha h
  · cases e
theorem size100 {n : Nat} (h : n < 100000) : n < sizeLine := Nat.lt_of_lt_of_le h (by decide)
theorem putM_ok {K : PySem.W.Frag} {H : Hp} {a : Addr} {m m' : Mu} {y v : V} {d : D} (ha : H a = some (mo m)) (h : Dt K H y d) (e : putM m d v = some m') : DPut H a y v (upd H a (mo m')) := by
  unfold putM at e
  split at e
  · split at e
    · rename_i hl; cases e; cases h; exact DPut.k (k := Sum.inl _) ha (size100 hl)
    · cases e
  · split at e
    · rename_i hl; cases e; cases h; exact DPut.k (k := Sum.inr _) ha (size100 hl)
    · cases e
  · split at e
    · rename_i k e1
      split at e
      · rename_i hl; cases e
        cases h with
        | tup h t =>
          have := keysD_inv t e1; subst this
          exact DPut.t ha h (size100 hl)
      · cases e
    · cases e
  · cases e
/-- k in d, k not in d; d a name -/
def mIn (neg : Bool) (mk : ME) (i : Nat) : ME := fun ρ => match ρ[i]?, mk ρ with
  | some (.dc m), some r => (getM m r.data).map fun o => .sh (.bl (neg != o.isSome))
  | _, _ => none
theorem mo_grow {H H' : Hp} {a : Addr} {m : Mu} (e : Ex H H') (h : H a = some (mo m)) : H' a = some (mo m) := e _ _ h
theorem x_in {i : Nat} {p : Pos} (hu : X.A.units + 1 < cLine) (hk : XE X k mk) (hN : X.N[i]? = some x := by rfl) (hv : Vis X.env.scope x := by first | exact Or.inl rfl | exact Or.inr (Or.inl rfl) | exact Or.inr (Or.inr rfl)) (hd : (x == ("__debug__" : Str)) = false := by decide)
    (hcd : (x == ("__classdict__" : Str)) = false := by decide) : XE X (.Compare k [.In] [.Name x p] pos) (mIn false mk i) := by
  obtain ⟨t, pk, s⟩ := hk
  refine ⟨_, pe_cmp (pc_din hu pk (pe_var hN hv hd hcd)), fun G H σ ρ fp r Q R hm q => ?_⟩
  unfold mIn at hm
  split at hm
  · rename_i m r' h0 e1
    rw [Option.map_eq_some_iff] at hm
    obtain ⟨o, e2, rfl⟩ := hm
    obtain ⟨a, h1, h2, h3⟩ := R.sl i _ h0
    refine s G H σ ρ fp r' _ R e1 fun v F H1 x1 o1 => ⟨.ref a, h1, a, o, rfl, getM_ok (mo_grow x1 h3) o1.data e2, ?_⟩
    have : (false != o.isSome) = o.isSome := by cases o <;> rfl
    rw [← this]
    exact q _ [] H1 x1 (Fl.bl _).rok
  · cases hm
theorem x_notin {i : Nat} {p : Pos} (hu : X.A.units + 1 < cLine) (hk : XE X k mk) (hN : X.N[i]? = some x := by rfl) (hv : Vis X.env.scope x := by first | exact Or.inl rfl | exact Or.inr (Or.inl rfl) | exact Or.inr (Or.inr rfl)) (hd : (x == ("__debug__" : Str)) = false := by decide)
    (hcd : (x == ("__classdict__" : Str)) = false := by decide) : XE X (.Compare k [.NotIn] [.Name x p] pos) (mIn true mk i) := by
  obtain ⟨t, pk, s⟩ := hk
  refine ⟨_, pe_cmp (pc_dnotin hu pk (pe_var hN hv hd hcd)), fun G H σ ρ fp r Q R hm q => ?_⟩
  unfold mIn at hm
  split at hm
  · rename_i m r' h0 e1
    rw [Option.map_eq_some_iff] at hm
    obtain ⟨o, e2, rfl⟩ := hm
    obtain ⟨a, h1, h2, h3⟩ := R.sl i _ h0
    refine s G H σ ρ fp r' _ R e1 fun v F H1 x1 o1 => ⟨.ref a, h1, a, o, rfl, getM_ok (mo_grow x1 h3) o1.data e2, ?_⟩
    have : (true != o.isSome) = !o.isSome := by cases o <;> rfl
    rw [← this]
    exact q _ [] H1 x1 (Fl.bl _).rok
  · cases hm
theorem xt_in {i : Nat} {p : Pos} (hu : X.A.units + 1 < cLine) (hk : XE X k mk) (hN : X.N[i]? = some x := by rfl) (hv : Vis X.env.scope x := by first | exact Or.inl rfl | exact Or.inr (Or.inl rfl) | exact Or.inr (Or.inr rfl)) (hd : (x == ("__debug__" : Str)) = false := by decide)
    (hcd : (x == ("__classdict__" : Str)) = false := by decide) : XT X (.Compare k [.In] [.Name x p] pos) (mTst (mIn false mk i)) := by
  obtain ⟨t, pk, s⟩ := hk
  refine ⟨_, pt_cmp (pc_din hu pk (pe_var hN hv hd hcd)), sim_B fun G H σ ρ fp r Q R hm q => ?_⟩
  unfold mIn at hm
  split at hm
  · rename_i m r' h0 e1
    rw [Option.map_eq_some_iff] at hm
    obtain ⟨o, e2, rfl⟩ := hm
    obtain ⟨a, h1, h2, h3⟩ := R.sl i _ h0
    refine s G H σ ρ fp r' _ R e1 fun v F H1 x1 o1 => ⟨.ref a, h1, a, o, rfl, getM_ok (mo_grow x1 h3) o1.data e2, ?_⟩
    have : (false != o.isSome) = o.isSome := by cases o <;> rfl
    rw [← this]
    exact q _ [] H1 x1 (Fl.bl _).rok
  · cases hm
theorem xt_notin {i : Nat} {p : Pos} (hu : X.A.units + 1 < cLine) (hk : XE X k mk) (hN : X.N[i]? = some x := by rfl) (hv : Vis X.env.scope x := by first | exact Or.inl rfl | exact Or.inr (Or.inl rfl) | exact Or.inr (Or.inr rfl)) (hd : (x == ("__debug__" : Str)) = false := by decide)
    (hcd : (x == ("__classdict__" : Str)) = false := by decide) : XT X (.Compare k [.NotIn] [.Name x p] pos) (mTst (mIn true mk i)) := by
  obtain ⟨t, pk, s⟩ := hk
  refine ⟨_, pt_cmp (pc_dnotin hu pk (pe_var hN hv hd hcd)), sim_B fun G H σ ρ fp r Q R hm q => ?_⟩
  unfold mIn at hm
  split at hm
  · rename_i m r' h0 e1
    rw [Option.map_eq_some_iff] at hm
    obtain ⟨o, e2, rfl⟩ := hm
    obtain ⟨a, h1, h2, h3⟩ := R.sl i _ h0
    refine s G H σ ρ fp r' _ R e1 fun v F H1 x1 o1 => ⟨.ref a, h1, a, o, rfl, getM_ok (mo_grow x1 h3) o1.data e2, ?_⟩
    have : (true != o.isSome) = !o.isSome := by cases o <;> rfl
    rw [← this]
    exact q _ [] H1 x1 (Fl.bl _).rok
  · cases hm
/-- what is flat -/
def flD : V → Option D
  | .non => some .non
  | .bl b => some (.bl b)
  | .int i => some (.int i)
  | .str x => some (.str x)
  | _ => none
theorem flD_ok {v : V} {d : D} (e : flD v = some d) : Fl v d := by
  unfold flD at e
  split at e <;> cases e <;> constructor
def flV : D → Option V
  | .non => some .non
  | .bl b => some (.bl b)
  | .int i => some (.int i)
  | .str x => some (.str x)
  | _ => none
theorem flV_ok {K : PySem.W.Frag} {H : Hp} {v w : V} {d : D} (h : Dt K H v d) (e : flV d = some w) : v = w := by
  cases h <;> cases e <;> rfl
/-- d[k], d a name -/
def mDGet (i : Nat) (mk : ME) : ME := fun ρ => match ρ[i]?, mk ρ with
  | some (.dc m), some r => match getM m r.data with
    | some (some v) => (flD v).map .sh
    | _ => none
  | _, _ => none
theorem x_dget {i : Nat} {p : Pos} (hu : X.A.units + 1 < cLine) (hk : XE X k mk) (hs : NoSl k := by exact fun _ _ => rfl) (hN : X.N[i]? = some x := by rfl) (hv : Vis X.env.scope x := by first | exact Or.inl rfl | exact Or.inr (Or.inl rfl) | exact Or.inr (Or.inr rfl)) (hd : (x == ("__debug__" : Str)) = false := by decide)
    (hcd : (x == ("__classdict__" : Str)) = false := by decide) : XE X (.Subscript (.Name x p) k pos) (mDGet i mk) := by
  obtain ⟨t, pk, s⟩ := hk
  refine ⟨_, pe_dget hu (pe_var hN hv hd hcd) pk hs, fun G H σ ρ fp r Q R hm q => ?_⟩
  unfold mDGet at hm
  split at hm
  · rename_i m r' h0 e1
    split at hm
    · rename_i v e2
      rw [Option.map_eq_some_iff] at hm
      obtain ⟨d, e3, rfl⟩ := hm
      obtain ⟨a, h1, h2, h3⟩ := R.sl i _ h0
      refine ⟨.ref a, h1, s G H σ ρ fp r' _ R e1 fun w F H1 x1 o1 => ⟨a, v, rfl, getM_ok (mo_grow x1 h3) o1.data e2, ?_⟩⟩
      exact q _ [] H1 x1 (flD_ok e3).rok
    · cases hm
  · cases hm
theorem stb_updm {H : Hp} {D : Addr} {m m' : Mu} (h : H D = some (mo m)) : Ex (stb H) (stb (upd H D (mo m'))) := fun a o e => by
  have n : a ≠ D := fun z => by
    subst z
    unfold stb at e; rw [h] at e; cases m <;> cases e
  unfold stb at e ⊢
  rw [upd_ne n]; exact e
theorem RelF.dput {K : PySem.W.Frag} {G H0 H : Hp} {σ : L2.St} {ρ : Env} {fp : Nat → List Addr} {i : Nat} {m m' : Mu} {a : Addr} (R : RelF K G H0 σ ρ fp) (e : Ex H0 H) (hs : ρ[i]? = some (.dc m)) (h1 : σ[i]? = some (some (.ref a))) (h2 : fp i = [a]) (h3 : H0 a = some (mo m)) :
    RelF K G (upd H a (mo m')) σ ((killVw ρ).set i (.dc m')) fp := by
  have mi : a ∈ fp i := by rw [h2]; exact List.mem_singleton_self _
  have hni : ∀ j, j ≠ i → a ∉ fp j := fun j hj m => hj (R.dj j i a m mi)
  have es : Ex (stb H) (stb (upd H a (mo m'))) := stb_updm (e _ _ h3)
  have hx : Ex (hid H0 fp) (hid (upd H a (mo m')) fp) := fun b o h => by
    obtain ⟨n1, h⟩ := hid_some h
    rw [hid_at n1, upd_ne (by rintro rfl; exact n1 i mi)]; exact e _ _ h
  refine ⟨by simpa [killVw] using R.len, fun b o h => ?_, R.dj, R.new, fun j b x => ?_, fun j t h => ?_⟩
  · rw [upd_ne]
    · exact e _ _ (R.ex _ _ h)
    · rintro rfl; rw [R.new i b mi] at h; cases h
  · by_cases hb : b = a
    · subst hb; exact ⟨m', upd_same⟩
    · obtain ⟨xs, h⟩ := R.ls j b x
      exact ⟨xs, by rw [upd_ne hb]; exact e _ _ h⟩
  · by_cases hj : j = i
    · subst hj
      have hl : j < (killVw ρ).length := by
        have := (List.getElem?_eq_some_iff.mp h).1
        simpa using this
      rw [List.getElem?_set_self hl] at h
      cases h
      exact ⟨a, h1, h2, upd_same⟩
    · rw [List.getElem?_set_ne (Ne.symm hj)] at h
      unfold killVw at h
      rw [List.getElem?_map, Option.map_eq_some_iff] at h
      obtain ⟨t0, h0, h1⟩ := h
      have q := R.sl j t0 h0
      cases t0 with
      | dead => cases h1; exact q
      | ad a => cases h1; exact q
      | dc m =>
        cases h1
        obtain ⟨b, q1, q2, q3⟩ := q
        exact ⟨b, q1, q2, by rw [upd_ne (fun z => hni j hj (by rw [q2, ← z]; exact List.mem_singleton_self _))]; exact e _ _ q3⟩
      | sh x => cases h1; obtain ⟨q0, w, q1, q2⟩ := q; exact ⟨q0, w, q1, q2.mono hx⟩
      | fz w x => cases h1; obtain ⟨q0, q1, q2⟩ := q; exact ⟨q0, q1, q2.mono hx⟩
      | vw x => cases h1; exact q.1
      | tr u =>
        cases h1
        obtain ⟨w, q1, q2⟩ := q
        exact ⟨w, q1, (q2.mono e).keep ⟨es, fun b m o h => by rw [upd_ne (by rintro rfl; exact hni j hj m)]; exact h⟩⟩
/-- d[k] = v, d a name -/
def mDPut (i : Nat) (mk mv : ME) : MS := fun ρ => match ρ[i]?, mk ρ, mv ρ with
  | some (.dc m), some r, some z => match flV z.data with
    | some v => (putM m r.data v).map fun m' => .nx ((killVw ρ).set i (.dc m'))
    | none => none
  | _, _, _ => none
theorem xs_dput {i : Nat} {p pos' : Pos} (hu : X.A.units + 1 < cLine) (hk : XE X k mk) (hv' : XE X v mv) (hsw : swapsWith v (some (.Subscript (.Name x p) k pos')) pos.line X.env = pure false := by rfl) (hN : X.N[i]? = some x := by rfl) (hv : Vis X.env.scope x := by first | exact Or.inl rfl | exact Or.inr (Or.inl rfl) | exact Or.inr (Or.inr rfl)) (hd : (x == ("__debug__" : Str)) = false := by decide)
    (hcd : (x == ("__classdict__" : Str)) = false := by decide) : XS X W (.Assign [.Subscript (.Name x p) k pos'] v pos) (mDPut i mk mv) := by
  obtain ⟨t, pk, s⟩ := hk
  obtain ⟨u, pv, s2⟩ := hv'
  refine ⟨_, ps_dput hu (pe_var hN hv hd hcd) pk pv hsw, fun G H σ ρ fp o D R hm q => ?_⟩
  unfold mDPut at hm
  split at hm
  · rename_i m r z h0 e1 e2
    split at hm
    · rename_i w e3
      rw [Option.map_eq_some_iff] at hm
      obtain ⟨m', e4, rfl⟩ := hm
      obtain ⟨a, h1, h2, h3⟩ := R.sl i _ h0
      refine s2 G H σ ρ fp z _ R e2 fun y F H1 x1 o1 => ⟨.ref a, h1, s G H1 σ ρ fp r _ (R.grow x1) e1 fun y2 F2 H2 x2 o2 => ?_⟩
      have := flV_ok o1.data e3; subst this
      exact ⟨a, _, rfl, putM_ok (mo_grow (x1.trans x2) h3) o2.data e4, q σ _ fp (R.dput (x1.trans x2) h0 h1 h2 h3)⟩
    · cases hm
  · cases hm
theorem RelF.dnew {K : PySem.W.Frag} {G H : Hp} {σ : L2.St} {ρ : Env} {fp : Nat → List Addr} {i : Nat} {m : Mu} {a : Addr} (R : RelF K G H σ ρ fp) (ha : H a = none) : RelF K G (upd H a (mo m)) (σ.set i (some (.ref a))) (ρ.set i (.dc m)) (fset fp i [a]) := by
  have e : Ex H (upd H a (mo m)) := Evl.Ex.new ha
  have hx : Ex (hid H fp) (hid (upd H a (mo m)) (fset fp i [a])) := hid_fset (fun b mb => by rw [List.mem_singleton.mp mb]; exact ha) e i
  refine ⟨by simpa using R.len, R.ex.trans e, fun j k b m1 m2 => ?_, fun j b m1 => ?_, fun j b m1 => ?_, fun j s h => ?_⟩
  · by_cases hj : j = i
    · by_cases hk : k = i
      · rw [hj, hk]
      · subst hj; rw [fset_self] at m1; rw [fset_ne hk] at m2
        obtain ⟨xs, z⟩ := R.ls k b m2
        rw [List.mem_singleton.mp m1, ha] at z; cases z
    · rw [fset_ne hj] at m1
      by_cases hk : k = i
      · subst hk; rw [fset_self] at m2
        obtain ⟨xs, z⟩ := R.ls j b m1
        rw [List.mem_singleton.mp m2, ha] at z; cases z
      · rw [fset_ne hk] at m2; exact R.dj j k b m1 m2
  · by_cases hj : j = i
    · subst hj; rw [fset_self] at m1; rw [List.mem_singleton.mp m1]; exact Evl.fresh_back R.ex ha
    · rw [fset_ne hj] at m1; exact R.new j b m1
  · by_cases hj : j = i
    · subst hj; rw [fset_self] at m1; rw [List.mem_singleton.mp m1]; exact ⟨m, upd_same⟩
    · rw [fset_ne hj] at m1; exact (R.grow e).ls j b m1
  · by_cases hj : j = i
    · subst hj
      have hl : j < ρ.length := by
        have := (List.getElem?_eq_some_iff.mp h).1
        simpa using this
      have hl2 : j < σ.length := by rw [R.len]; exact hl
      rw [List.getElem?_set_self hl] at h
      cases h
      rw [fset_self, List.getElem?_set_self hl2]
      exact ⟨a, rfl, rfl, upd_same⟩
    · rw [List.getElem?_set_ne (Ne.symm hj)] at h
      rw [fset_ne hj, List.getElem?_set_ne (Ne.symm hj)]
      exact SlOk.set hx e (R.sl j s h)
/-- d = {} -/
def mSetM (i : Nat) (m : Mu) : MS := fun ρ => some (.nx (ρ.set i (.dc m)))
theorem xs_setDT {i : Nat} {dpos pos' : Pos} (hN : X.N.Nodup) (hi : X.N[i]? = some x) (hx : Loc X.env.scope x) (hs : swapsWith (.Dict [] [] dpos) (some (.Name x pos')) pos.line X.env = pure false := by rfl) (hf : X.fn x = true ∨ X.env.scope.names.lookup x = some .local := by first | exact .inl rfl | exact .inr rfl | assumption) :
    XS X W (.Assign [.Name x pos'] (.Dict [] [] dpos) pos) (mSetM i (.t [])) :=
  ⟨_, ps_set hN hi hx pe_dnewT hs hf, fun G H σ ρ fp o D R hm q => by cases hm; exact fun a ha => q _ _ _ (R.dnew (m := .t []) ha)⟩
theorem xs_setDK {i : Nat} {dpos pos' : Pos} (hN : X.N.Nodup) (hi : X.N[i]? = some x) (hx : Loc X.env.scope x) (hs : swapsWith (.Dict [] [] dpos) (some (.Name x pos')) pos.line X.env = pure false := by rfl) (hf : X.fn x = true ∨ X.env.scope.names.lookup x = some .local := by first | exact .inl rfl | exact .inr rfl | assumption) :
    XS X W (.Assign [.Name x pos'] (.Dict [] [] dpos) pos) (mSetM i (.k [])) :=
  ⟨_, ps_set hN hi hx pe_dnewK hs hf, fun G H σ ρ fp o D R hm q => by cases hm; exact fun a ha => q _ _ _ (R.dnew (m := .k []) ha)⟩
end
end DL

set_option Elab.async false
set_option linter.all false
set_option maxRecDepth 100000
set_option maxHeartbeats 4000000
/-! try .. except X as n; isinstance of what is caught; x in xs; xs.extend(ys). -/
namespace DL
open PySem PySem.Spec PyProof.Rows L2
open Evl (Ex)
/-! ### x in xs -/
def gIn (neg : Bool) : D → D → Option D := fun a b => match b with
  | .lst ds => if a.ok && (D.lst ds).ok then some (.bl (neg != ds.any fun z => D.eqv z a)) else none
  | _ => none
def fIn := flat2 (gIn false)
def fNotIn := flat2 (gIn true)
theorem pyL_any (a : D) : ∀ ds : List D, (D.pyL ds).any (fun z => PyData.eqv z a.py) = ds.any fun z => D.eqv z a
  | [] => rfl
  | d :: ds => by simp [D.pyL, pyL_any a ds, D.eqv]
theorem op2_in {K : PySem.W.Frag} : Op2 K (rInD K) fIn := .flat fun H x dx y dy z Q hx hy hz q => by
  unfold gIn at hz
  split at hz
  · split at hz
    · rename_i ds h; rw [Bool.and_eq_true] at h; cases hz
      refine ⟨_, D.pyL ds, hx.dp, hy.dp, h.1, h.2, q _ ?_⟩
      rw [pyL_any]
      have : (false != ds.any fun z => D.eqv z dx) = ds.any fun z => D.eqv z dx := by cases (ds.any fun z => D.eqv z dx) <;> rfl
      rw [this]; exact .bl _
    · cases hz
  · cases hz
theorem op2_notin {K : PySem.W.Frag} : Op2 K (rNotInD K) fNotIn := .flat fun H x dx y dy z Q hx hy hz q => by
  unfold gIn at hz
  split at hz
  · split at hz
    · rename_i ds h; rw [Bool.and_eq_true] at h; cases hz
      refine ⟨_, D.pyL ds, hx.dp, hy.dp, h.1, h.2, q _ ?_⟩
      rw [pyL_any]
      have : (true != ds.any fun z => D.eqv z dx) = !(ds.any fun z => D.eqv z dx) := by cases (ds.any fun z => D.eqv z dx) <;> rfl
      rw [this]; exact .bl _
    · cases hz
  · cases hz
theorem hu65 {k : Nat} {A : Around} (r : Room k A) : A.units + 65 < cLine := by have := r.un; omega
section
variable {X : Cx} {W : XK} {o e : Expr} {ma me : ME} {mp : MP} {pos apos cpos : Pos} {x n : Str}
/-! ### xs.extend(ys), ys of what can't change -/
def mExtend (mp : MP) (me : ME) : MS := fun ρ => match mp ρ, me ρ with
  | some (i, p), some r => match ρ[i]?, r.data with
    | some (.tr s), .lst ds => match S.get p s with
      | some (.own ss) => if immL ds = true ∧ ss.length + ds.length ≤ 100000 then some (.nx ((killVw ρ).set i (.tr (S.put (.own (ss ++ ds.map .d)) p s)))) else none
      | _ => none
    | _, _ => none
  | _, _ => none
theorem xs_extend (ho : XP X o mp) (he : XE X e ma)
    (hbase : attributeBase o "extend" X.env (eval o X.env) = eval o X.env := by rfl)
    (hfew : ((backTo cpos (starEach (e :: []) X.env)).all (fun x => !x.1) && (backToKw cpos (keywordEach [] X.env)).all (fun x => x.1.isSome)
      && decide ((e :: ([] : List Expr)).length + ([] : List Keyword).length + (if ([] : List Keyword).isEmpty then 0 else 1) < 30)) = true := by rfl)
    (hline : (apos.endLine == cpos.line) = true := by rfl) (hs : starEach (e :: []) X.env = (false, eval e X.env) :: starEach [] X.env := by rfl) (hplain : (backTo cpos (starEach [] X.env)).any (·.1) = false := by rfl)
    (hsw : swapsWith (.Call (.Attribute o "extend" apos) [e] [] cpos) none pos.line X.env = pure false := by rfl) : XS X W (.Expr (.Call (.Attribute o "extend" apos) [e] [] cpos) pos) (mExtend mp ma) := by
  obtain ⟨to, po, so⟩ := ho
  obtain ⟨te, pe, se⟩ := he
  refine ⟨_, ps_expr (pe_bm PySem.F.plainAttrs_list PySem.F.slot_list_extend PySem.F.type_list_extend mt_extend po (pa_cons pe pa_nil hs) hbase hfew hline hs hplain) hsw, fun G H σ ρ fp oo D R hm q => ?_⟩
  unfold mExtend at hm
  split at hm
  rotate_left
  · cases hm
  rename_i i p r e1 e2
  split at hm
  rotate_left
  · cases hm
  rename_i s ds e3 e4
  split at hm
  rotate_left
  · cases hm
  rename_i ss e5
  split at hm
  rotate_left
  · cases hm
  rename_i hl
  cases hm
  refine so G H σ ρ fp i p _ R e1 fun v a H1 s' ss' g1 g2 g3 x1 at1 => ?_
  rw [e3] at g1; cases g1
  have R1 := R.grow x1
  obtain ⟨v', h1, h2⟩ := R1.sl i _ e3
  rw [g3] at h1; cases h1
  obtain ⟨vs1, Fa1, ha1, hL1, _⟩ := h2.mut at1 e5
  refine ⟨.inl ⟨rfl, _, SqL.of ha1⟩, ?_⟩
  refine se G H1 σ ρ fp r _ R1 e2 fun w F H2 x2 o2 => ?_
  obtain ⟨vs2, Fa2, ha2, hL2, hn2, hsub2, hai, hmut⟩ := R1.mutate x2 e3 g3 (at1.mono x2) e5
  have z := o2.data
  rw [e4] at z
  cases z with
  | lst hb hd =>
    rename_i b zs
    refine ⟨a, b, vs2, zs, rfl, rfl, ha2, hb, ?_, ?_⟩
    · rw [← hL2.len, hd.len]; exact Evl.sz_of hl.2
    · have es : Ex (stb H2) (stb (upd H2 a (.lst (vs2 ++ zs)))) := stb_upd ha2
      have hd2 : DtL X.K (stb (upd H2 a (.lst (vs2 ++ zs)))) zs ds := (hd.stb hl.1).mono es
      have r1 : RepL X.K (upd H2 a (.lst (vs2 ++ zs))) (ss ++ ds.map .d) (vs2 ++ zs) (Fa2 ++ []) :=
        (hL2.keep ⟨es, fun b m u h => by rw [upd_ne (by rintro rfl; exact hn2 m)]; exact h⟩).append (RepL.leaves hd2) fun _ _ m => by cases m
      obtain ⟨fp', R'⟩ := hmut _ _ _ r1 (fun z => hn2 (by simpa using z)) (fun b m => .inl (by simpa using m))
      exact q _ _ fp' R'
/-! ### what is caught -/
/-- a def whose argument is the exception that is handled; it raises nothing -/
structure FnP (P : Program) (w : World) (K : PySem.W.Frag) (mg : Str → Option Value) (base : Heap) (a : Addr) (oe : Obj) (k : Nat) (f : Addr) (fd : FuncData) (ps : List Str) (sp : Sp) : Prop where
  len : ∀ vs H Q E, sp vs H Q E → vs.length = ps.length
  run : ∀ (A : Around) (outer : List PySem.Env) (s : Shared) (H : Hp) (args : Args) (us : List Value) (vs : List V) (Q : VK) (E : XK), L2H.RoomH k A → L2H.PinOk outer H s (a, oe) → Env0 P w K mg base A outer s H → BindsTo s fd args (ps.zip us) → Vals vs us → sp vs H Q E →
    codeAny (model P w) A (.call (.ref f) args) (CR (L2.CX P w) outer P w H s Q E) s
theorem fnP {P : Program} {w : World} {K : PySem.W.Frag} {mg : Str → Option Value} {base : Heap} {x qual : Str} {st : Stmt} {f : Addr} {fd : FuncData} {N ps : List Str} {k : Nat} {a : Addr} {oe : Obj} {m : MS} {s0 : S} {nn : Nat} (F : Fun K x qual st f fd) (S : FnScope N ps (defScope st)) (hn : ps.length = 1) (hN : N.length = nn)
    (hbody : ∀ (cdv : Value) (A : Around) (outer : List PySem.Env) (s : Shared) (H : Hp) (E : XK), L2H.RoomH k (A.deeper (envOfC qual (defScope st) s.heap.objs.size f cdv)) →
      XSs (L2H.cxH (L2.CX P w) P w K mg base N qual (defScope st) f cdv A outer s H E (a, oe)) E (defBody st) m)
    (hm : m (.ad a :: List.replicate (nn - 1) .dead) = some (.rt s0)) :
    FnP P w K mg base a oe (k + 1) f fd ps (fun vs H Q _ => vs = [.ref a] ∧ ∀ v F H', Ex H H' → Rep K H' s0 v F → (∀ b ∈ F, H b = none) → Q v H') := by
  obtain ⟨oc, od, kV, doc, pm, an, cdv, ct, osl, rfl, lk, hcd⟩ := F.ex
  refine ⟨fun vs H Q E h => by rw [h.1, hn]; rfl, fun A outer s H args us vs Q E hr hpin e0 hb r hsp => ?_⟩
  have hl : vs.length = ps.length := by rw [hsp.1, hn]; rfl
  have KX : K.In s.heap := e0.mod.kin.keeps fun b o e => (e0.bs b o e).1
  have lim : s.heap.NoLimit := e0.mod.nolimit.keeps fun b o e => (e0.bs b o e).1
  have hkind : ∀ y ∈ ps.zip us, (defScope st).names.lookup y.1 = some .local ∨ ((defScope st).names.lookup y.1 = some .cell ∧ ((cellsFrom (s.heap.objs.size + 1) (defScope st).names []).lookup y.1).isSome = true) := fun ⟨n, v⟩ hy => by
    rcases S.par n (List.of_mem_zip hy).1 with q | q
    · exact .inl q
    · exact .inr ⟨q, PySem.W.cellsFrom_some _ _ _ (.inl q)⟩
  refine codeAny_call_function hr.depth (KX _ _ lk) rfl S.co S.gen rfl (PySem.W.codeRec_of KX hcd) (hb _ _ _ _ ?_)
  refine wpAny_newFunctionEnv_cells S.kind hkind fun env he s1 x => ?_
  subst he
  refine ⟨lim.keeps x.toInCall.keep, codeAny_func ?_⟩
  obtain ⟨t, ht, sim⟩ := (hbody cdv A outer s H E (hr.deeper _)).sim
  have I : Inv (L2H.cxH (L2.CX P w) P w K mg base N qual (defScope st) f cdv A outer s H E (a, oe)) [] (L2.start N vs) H s1 := L2H.inv_startH S hpin e0 hl r x
  obtain ⟨e1, hq⟩ := hsp
  subst e1
  have hN1 : 1 ≤ N.length := by
    have := congrArg List.length S.pre
    rw [List.length_take, hn] at this; omega
  have R0 : RelF K H H (L2.start N [.ref a]) (.ad a :: List.replicate (nn - 1) .dead) fun _ => [] := by
    refine ⟨by unfold L2.start; simp; omega, Evl.Ex.refl H, (fun i j b m => by cases m), (fun i b m => by cases m), (fun i b m => by cases m), fun i sl hs => ?_⟩
    cases i with
    | zero => cases hs; exact ⟨rfl, rfl⟩
    | succ i =>
      rw [List.getElem?_cons_succ, List.getElem?_replicate] at hs
      split at hs
      · cases hs; rfl
      · cases hs
  have hq2 : t { nx := fun _ H' => Q .non H', rt := Q } (L2.start N [.ref a]) H := sim H H _ _ _ _ _ R0 hm fun v F H' x r f => hq v F H' x r f
  refine wpAny_mono (ht.run [] s1 (L2.start N [.ref a]) H _ I hq2) (fun fl s' hs => ?_) fun e s' hs => hs
  have fin : ∀ {σ' : L2.St} {H' : Hp} {v : V} {u : Value}, Inv (L2H.cxH (L2.CX P w) P w K mg base N qual (defScope st) f cdv A outer s H E (a, oe)) [] σ' H' s' → RelV v u → Q v H' → CE outer P w H s Q u s' :=
    fun {σ' H' v u} J rv q => ⟨v, H', J.os, J.bare, J.base, J.hok, rv, q⟩
  cases fl with
  | ret u =>
    obtain ⟨v, σ', H', J, rv, q⟩ := hs
    exact fin J rv q
  | next =>
    obtain ⟨σ', H', J, q⟩ := hs
    exact fin (v := V.non) (u := Value.none) J rfl q
  | brk =>
    obtain ⟨_, _, _, q⟩ := hs
    exact False.elim q
  | cont =>
    obtain ⟨_, _, _, q⟩ := hs
    exact False.elim q
/-- f(e), e what is handled -/
def mCP (i : Nat) (a : Addr) (ss : List S) : ME := fun ρ => match ρ[i]? with
  | some (.ad b) => if b = a then some (.tr (.own ss)) else none
  | _ => none
theorem x_callP {i k : Nat} {f a : Addr} {oe : Obj} {fd : FuncData} {ps : List Str} {ss : List S} {y : Str} {q p : Pos} (F : FnP X.prog X.w X.K X.mg X.base a oe k f fd ps (fun vs H Q _ => vs = [.ref a] ∧ ∀ v F H', Ex H H' → Rep X.K H' (.own ss) v F → (∀ b ∈ F, H b = none) → Q v H'))
    (hr : L2H.RoomH k X.A) (hp : (a, oe) ∈ X.pn) (hg : Gl X x) (hm : X.mg x = some (.ref f)) (hk : PySem.W.keepIn X.K (.ref f) = true) (hb : Binds X.K fd ps []) (hx : ∀ σ, PassesAt (L2.CX X.prog X.w) X σ fun _ _ _ => False)
    (hN : X.N[i]? = some y := by rfl) (hv : Vis X.env.scope y := by first | exact Or.inl rfl | exact Or.inr (Or.inl rfl) | exact Or.inr (Or.inr rfl)) (hd : (y == ("__debug__" : Str)) = false := by decide) (hcd : (y == ("__classdict__" : Str)) = false := by decide)
    (hdb : (x == ("__debug__" : Str)) = false := by decide) (he : starEach [.Name y p] X.env = (false, eval (.Name y p) X.env) :: starEach [] X.env := by rfl) (hpl : (backTo pos (starEach [] X.env)).any (·.1) = false := by rfl) :
    XE X (.Call (.Name x q) [.Name y p] [] pos) (mCP i a ss) := by
  have pe : PE X (.Call (.Name x q) [.Name y p] [] pos) (fun σ H Q => tVar i σ H fun v H1 => v = .ref a ∧ ∀ v F H', Ex H1 H' → Rep X.K H' (.own ss) v F → (∀ b ∈ F, H1 b = none) → Q v H') := by
    refine ⟨fun pins s σ H Q I h => ?_⟩
    refine wpAny_Call_Name_kw (ld_glob I hg hm ?_ hdb)
    have pa := pa_cons (pe_var (X := X) (i := i) (pos := p) hN hv hd hcd) pa_nil he
    refine PySem.W.callWith_K (h₀ := X.base) I.ok.mod.kin hk (thn (pa.run pos pins s σ H (fun vs H1 => vs = [.ref a] ∧ ∀ v F H', Ex H1 H' → Rep X.K H' (.own ss) v F → (∀ b ∈ F, H1 b = none) → Q v H') I ?_) fun us s1 ⟨vs, H1, I1, r, q⟩ => ⟨I1.kIn, ?_⟩) he hpl
    · obtain ⟨v, h1, h2, h3⟩ := h
      exact ⟨v, h1, by rw [h2], h3⟩
    · have hl : us.length = ps.length := by rw [← r.length]; exact F.len vs H1 Q (fun _ _ _ => False) q
      have b := hb s1 us I1.kIn (by rw [List.append_nil]; exact hl)
      rw [List.append_nil] at b
      have P1 := I1.pin (a, oe) (List.mem_append_left _ hp)
      have hpin : L2H.PinOk X.stack H1 s1 (a, oe) := ⟨P1.1, P1.2.1, fun hm => (List.mem_cons.mp (I1.stkSub a hm)).elim P1.2.2.1 P1.2.2.2.1, P1.2.2.2.2⟩
      refine wpAny_call (codeAny_mono (F.run X.A X.stack s1 H1 ⟨us, []⟩ us vs Q (fun _ _ _ => False) hr hpin I1.env0 b r q) fun r s' hq => ?_)
      cases r with
      | error e => exact hx σ pins H1 s1 e s' I1 hq
      | ok fl =>
        cases fl with
        | ret u => exact I1.after hq
        | next => exact False.elim hq
        | brk => exact False.elim hq
        | cont => exact False.elim hq
  refine ⟨_, pe, fun G H σ ρ fp r Q R hm q => ?_⟩
  unfold mCP at hm
  split at hm
  · rename_i b e1
    split at hm
    · rename_i hb; subst hb; cases hm
      obtain ⟨_, h1⟩ := R.sl i _ e1
      exact ⟨_, h1, rfl, fun v F H' x r f => q v F H' x ⟨r, f⟩⟩
    · cases hm
  · cases hm
/-- isinstance(e, C), e what is handled -/
theorem call_isP {X : Cx} {a C : Addr} {oe : Obj} (hp : (a, oe) ∈ X.pn) (T : ExcC X.K C) (hz : Zc (.ref C) none oe) (hf : ∃ vs, oe.data = .fields vs) : CallR X (.builtin "isinstance") (rIsE X.K C a) := by
  intro pins s σ H xs us Q I r h
  obtain ⟨c, cv, b, rfl, hcv, e, q⟩ := h
  cases r with
  | cons rx rr =>
    cases rr with
    | cons rt rr =>
      cases rr
      cases rx
      have ec := hcv _ rt
      subst ec
      obtain ⟨hget, _⟩ := I.pin (a, oe) (List.mem_append_left _ hp)
      obtain ⟨vs, hv⟩ := hf
      have J : PySem.W.InstAt s.heap a oe C none := by
        obtain ⟨oc, od, oda, osl⟩ := oe
        obtain ⟨h1, h2⟩ := hz
        dsimp only at h1 h2 hv
        subst h1 h2 hv
        exact ⟨hget, rfl, rfl, trivial⟩
      exact PySem.W.kia_one (PySem.W.handS_kitx_exc T.hg T.hk T.hs T.hd T.ha T.hn T.ht T.hm) I.kIn J e (fun z => nomatch z) fun tk => ⟨.bl b, H, I.kept (t' := tk) fun _ _ z => z, rfl, q⟩
def mIsE (i : Nat) (a : Addr) (b : Bool) : ME := fun ρ => match ρ[i]? with
  | some (.ad c) => if c = a then some (.sh (.bl b)) else none
  | _ => none
theorem x_isE0 {i : Nat} {a C : Addr} {oe : Obj} {b : Bool} {y z : Str} {v : V} {cv : Value} {p p2 p3 : Pos} (hp : (a, oe) ∈ X.pn) (T : ExcC X.K C) (hz : Zc (.ref C) none oe) (hf : ∃ vs, oe.data = .fields vs) (hg : Gl X "isinstance") (hm : X.mg "isinstance" = none)
    (hc : PE X (.Name z p2) (tC v)) (hcv : ∀ u, RelV v u → u = cv) (hk : PySem.W.kitOne X.K (.ref C) cv = some b)
    (hN : X.N[i]? = some y := by rfl) (hv : Vis X.env.scope y := by first | exact Or.inl rfl | exact Or.inr (Or.inl rfl) | exact Or.inr (Or.inr rfl)) (hd : (y == ("__debug__" : Str)) = false := by decide) (hcd : (y == ("__classdict__" : Str)) = false := by decide)
    (he : starEach [.Name y p3, .Name z p2] X.env = (false, eval (.Name y p3) X.env) :: starEach [.Name z p2] X.env := by rfl) (he2 : starEach [.Name z p2] X.env = (false, eval (.Name z p2) X.env) :: starEach [] X.env := by rfl)
    (hpl : (backTo pos (starEach [.Name z p2] X.env)).any (·.1) = false := by rfl) :
    XE X (.Call (.Name "isinstance" p) [.Name y p3, .Name z p2] [] pos) (mIsE i a b) := by
  refine ⟨_, pe_callB (call_isP hp T hz hf) hg hm PyProof.Rows.boot_isinstance (pa_cons (pe_var (X := X) (i := i) (pos := p3) hN hv hd hcd) (pa_cons hc pa_nil he2) he) (by decide) (by decide) he hpl, fun G H σ ρ fp r Q R hm q => ?_⟩
  unfold mIsE at hm
  split at hm
  · rename_i c e1
    split at hm
    · rename_i hb; subst hb; cases hm
      obtain ⟨_, h1⟩ := R.sl i _ e1
      exact ⟨_, h1, v, cv, b, rfl, hcv, hk, q _ [] H (Evl.Ex.refl H) (Fl.bl _).rok⟩
    · cases hm
  · cases hm
theorem x_isE {i : Nat} {a C D : Addr} {oe : Obj} {b : Bool} {y z : Str} {p p2 p3 : Pos} (hp : (a, oe) ∈ X.pn) (T : ExcC X.K C) (hz : Zc (.ref C) none oe) (hf : ∃ vs, oe.data = .fields vs) (hg : Gl X "isinstance") (hm : X.mg "isinstance" = none)
    (hg2 : Gl X z) (hm2 : X.mg z = some (.ref D)) (hk : PySem.W.kitOne X.K (.ref C) (.ref D) = some b) (hdb : (z == ("__debug__" : Str)) = false := by decide)
    (hN : X.N[i]? = some y := by rfl) (hv : Vis X.env.scope y := by first | exact Or.inl rfl | exact Or.inr (Or.inl rfl) | exact Or.inr (Or.inr rfl)) (hd : (y == ("__debug__" : Str)) = false := by decide) (hcd : (y == ("__classdict__" : Str)) = false := by decide)
    (he : starEach [.Name y p3, .Name z p2] X.env = (false, eval (.Name y p3) X.env) :: starEach [.Name z p2] X.env := by rfl) (he2 : starEach [.Name z p2] X.env = (false, eval (.Name z p2) X.env) :: starEach [] X.env := by rfl)
    (hpl : (backTo pos (starEach [.Name z p2] X.env)).any (·.1) = false := by rfl) :
    XE X (.Call (.Name "isinstance" p) [.Name y p3, .Name z p2] [] pos) (mIsE i a b) :=
  x_isE0 hp T hz hf hg hm (pe_glob (v := .ref D) hg2 hm2 rfl hdb) (fun u r => r) hk hN hv hd hcd he he2 hpl
theorem x_isEV {i : Nat} {a C : Addr} {oe : Obj} {b : Bool} {y : Str} {p p2 p3 : Pos} (hp : (a, oe) ∈ X.pn) (T : ExcC X.K C) (hz : Zc (.ref C) none oe) (hf : ∃ vs, oe.data = .fields vs) (hg : Gl X "isinstance") (hm : X.mg "isinstance" = none)
    (hg2 : Gl X "ValueError") (hm2 : X.mg "ValueError" = none) (hk : PySem.W.kitOne X.K (.ref C) (.type "ValueError") = some b)
    (hN : X.N[i]? = some y := by rfl) (hv : Vis X.env.scope y := by first | exact Or.inl rfl | exact Or.inr (Or.inl rfl) | exact Or.inr (Or.inr rfl)) (hd : (y == ("__debug__" : Str)) = false := by decide) (hcd : (y == ("__classdict__" : Str)) = false := by decide)
    (he : starEach [.Name y p3, .Name "ValueError" p2] X.env = (false, eval (.Name y p3) X.env) :: starEach [.Name "ValueError" p2] X.env := by rfl) (he2 : starEach [.Name "ValueError" p2] X.env = (false, eval (.Name "ValueError" p2) X.env) :: starEach [] X.env := by rfl)
    (hpl : (backTo pos (starEach [.Name "ValueError" p2] X.env)).any (·.1) = false := by rfl) :
    XE X (.Call (.Name "isinstance" p) [.Name y p3, .Name "ValueError" p2] [] pos) (mIsE i a b) :=
  x_isE0 hp T hz hf hg hm (pe_bltn (v := .ty "ValueError") hg2 hm2 (by decide +kernel) rfl) (fun u r => r) hk hN hv hd hcd he he2 hpl
theorem passLA {X : Cx} (σ : L2.St) : PassesAt (L2.CX X.prog X.w) X σ fun _ _ _ => False := fun pins H s e s' I c => passL pins σ H s e s' I c
theorem roomH_mark {k : Nat} {A : Around} {v : Option Value} (r : Room k A) : L2H.RoomH k (A.mark v) := ⟨r.dp, r.un⟩
theorem kit_eq {K : PySem.W.Frag} {a : Addr} : PySem.W.kitOne K (.ref a) (.ref a) = some true := if_pos (by simp)
theorem kit_ne {K : PySem.W.Frag} {a b : Addr} {v : Bool} (hn : (Value.ref a == Value.ref b) = false) (hd : PySem.W.hasDictIn K b = true) (ht : PySem.W.typeIn K (.ref b) = some (.type "type")) (h : PySem.W.subIn K (.ref a) (.ref b) = some v) : PySem.W.kitOne K (.ref a) (.ref b) = some v := by
  obtain ⟨cd, hc, _⟩ := PySem.W.any_some hd
  unfold PySem.W.kitOne
  rw [hn, if_neg Bool.false_ne_true]
  show (if ((PySem.W.clsIn K b).isSome && PySem.W.typeIn K (.ref b) == some (.type "type")) = true then PySem.W.subIn K (.ref a) (.ref b) else none) = _
  rw [hc, ht, if_pos (by rfl)]
  exact h
theorem kit_VE {K : PySem.W.Frag} {a : Addr} {v : Bool} (h : PySem.W.subIn K (.ref a) (.type "ValueError") = some v) : PySem.W.kitOne K (.ref a) (.type "ValueError") = some v := by
  unfold PySem.W.kitOne
  rw [show (Value.ref a == Value.type "ValueError") = false from rfl, if_neg Bool.false_ne_true]
  show (if PySem.W.kitMeta "ValueError" = true then PySem.W.subIn K (.ref a) (.type "ValueError") else none) = _
  rw [if_pos (by decide +kernel)]
  exact h
/-! ### try -/
def canS (K : PySem.W.Frag) (W : XK) (m : MS) : TS := fun D σ H => ∃ G ρ fp o, RelF K G H σ ρ fp ∧ m ρ = some o ∧ OutOk K G W D o
theorem XSs.can {b : List Stmt} {m : MS} (h : XSs X W b m) : PSs X b (canS X.K W m) := by
  obtain ⟨t, p, s⟩ := h
  exact ⟨fun pins s' σ H D I ⟨G, ρ, fp, o, R, hm, q⟩ => p.run pins s' σ H D I (s G H σ ρ fp o D R hm q)⟩
theorem takes_len {W : WX} (t : Takes X W) : Takes X fun c d _ H => ∀ σ : L2.St, σ.length = X.N.length → W c d σ H := fun u s' h => by
  obtain ⟨a, B, sI, pins, σ, H, cls, d, e, I, nb, up, sky, na, os, ag, w⟩ := h
  exact t u s' ⟨a, B, sI, pins, σ, H, cls, d, e, I, nb, up, sky, na, os, ag, w σ I.len⟩
def mTry (m : MS) (C : Addr) (s : S) : MS := fun ρ => match m ρ with
  | some (.ex C') => if C' = C then some (.rt s) else none
  | o => o
open Classical in
theorem xs_try {c : Value} {C : Addr} {s : S} {i : Nat} {body suite : List Stmt} {b₀ : Stmt} {np pos pos' : Pos} {m : MS} {m2 : Addr → MS} (hs : X.stack = X.env :: X.outer) (hf : X.env.frame = some X.env.locals) (hN : X.N.Nodup) (hi : X.N[i]? = some n) (hln : X.env.kindOf n = some .local) (hc : Names X x c)
    (hex : PySem.W.exmOne X.K (.ref C) c = some true) (tk : Takes X fun c d _ H => W c d H)
    (hb : ∀ (W' : XK) (pn : List (Addr × Obj)) (xe : Value → Shared → Prop), Takes (X.tr pn xe) (fun c d _ H => W' c d H) → PassesOwn (model X.prog X.w) X.A X.env xe → XSs (X.tr pn xe) W' body m)
    (hsu : ∀ (a : Addr) (oe : Obj) (pn : List (Addr × Obj)), Zc (.ref C) none oe → (∃ vs, oe.data = .fields vs) → XSs (X.suite a ((a, oe) :: pn)) (fun _ _ _ => False) (b₀ :: suite) (m2 a))
    (hm2 : ∀ a, m2 a ((List.replicate X.N.length .dead).set i (.ad a)) = some (.rt s)) :
    XS X W (.Try body [.ExceptHandler (some (.Name x np)) (some n) (b₀ :: suite) pos'] [] [] pos) (mTry m C s) := by
  let ts : Addr → Value → Option Addr → TS := fun a cls d => if cls = .ref C ∧ d = none then canS X.K (fun _ _ _ => False) (m2 a) else fun _ _ _ => False
  refine ⟨_, ps_try_as (i := i) (tb := fun W0 => canS X.K (fun c d H => ∀ σ : L2.St, σ.length = X.N.length → W0 c d σ H) m) (ts := ts) hs hf hN hi hln hc tk (fun W0 pn xe tk0 po => (hb _ pn xe (takes_len tk0) po).can) (fun a oe cls d pn hz hv => ?_), fun G H σ ρ fp o D R hm q => ?_⟩
  · show PSs _ _ (if cls = .ref C ∧ d = none then _ else _)
    by_cases hcd : cls = .ref C ∧ d = none
    · rw [if_pos hcd]
      obtain ⟨rfl, rfl⟩ := hcd
      exact (hsu a oe pn hz hv).can
    · rw [if_neg hcd]
      exact ⟨fun pins s' σ H D I h => h.elim⟩
  · unfold mTry at hm
    split at hm
    · rename_i C' e1
      split at hm
      · rename_i hC; subst hC; cases hm
        refine ⟨G, ρ, fp, _, R, e1, fun H' x => ?_⟩
        intro σ' hl
        refine ⟨true, hex, fun _ a ha => ?_, fun z => nomatch z⟩
        rw [show ts a (Value.ref C') none = canS X.K (fun _ _ _ => False) (m2 a) from if_pos ⟨rfl, rfl⟩]
        refine ⟨H', _, fun _ => [], _, ?_, hm2 a, fun v F H'' x2 r f => q v F H'' (x.trans x2) r fun b m => Evl.fresh_back x (f b m)⟩
        refine ⟨by simpa using hl, Evl.Ex.refl H', (fun i j b m => by cases m), (fun i b m => by cases m), (fun i b m => by cases m), fun j sl hsl => ?_⟩
        have hil : i < X.N.length := (List.getElem?_eq_some_iff.mp hi).1
        by_cases hj : j = i
        · subst hj
          rw [List.getElem?_set_self (by simpa using hil)] at hsl
          cases hsl
          exact ⟨rfl, by rw [List.getElem?_set_self (by omega)]⟩
        · rw [List.getElem?_set_ne (Ne.symm hj), List.getElem?_replicate] at hsl
          split at hsl
          · cases hsl; rfl
          · cases hsl
      · cases hm
    · rename_i o' hne
      refine ⟨G, ρ, fp, o, R, hm, ?_⟩
      cases o with
      | nx ρ => exact q
      | rt s => exact q
      | bk ρ => exact q
      | ct ρ => exact q
      | ex C' => exact (hne C' hm).elim
end
end DL

set_option Elab.async false
set_option linter.all false
set_option maxRecDepth 100000
set_option maxHeartbeats 4000000
/-! sorted: tuples of a text and two ints; ints. -/
namespace SrtT
open PySem PyProof.Rows Srt SrtO
abbrev K3 := Str × Int × Int
def key3 (k : K3) : List (Int ⊕ List Nat) := [.inr k.1.cps.toList, .inl k.2.1, .inl k.2.2]
def lt3 (a b : K3) : Bool := lexLt itemOrd (key3 a) (key3 b)
def sh3 : Nat → Bool := fun i => i == 0
theorem swo3 {α : Type} (k : α → K3) : Swo fun x y => lt3 (k x) (k y) := by
  refine ⟨fun x y h => ?_, fun x y z h1 h2 => ?_⟩
  · rcases bcase (lt3 (k y) (k x)) with q | q
    · have := lex_trans (O := itemOrd) _ _ _ h q
      rw [lex_irrefl] at this; cases this
    · exact q
  · rcases bcase (lt3 (k z) (k x)) with q | q
    · rcases lex_negTrans (O := itemOrd) _ (key3 (k y)) _ q with r | r
      · rw [show lt3 (k z) (k y) = true from r] at h2; cases h2
      · rw [show lt3 (k y) (k x) = true from r] at h1; cases h1
    · exact q
def IsTri (h : Heap) (v : Value) (k : K3) : Prop := ∃ a o t1 t2 t3 n, v = .ref a ∧ h.get? a = some o ∧ o.cls = .type "tuple" ∧ o.data = .seq #[.str k.1 t1, .int k.2.1 t2, .int k.2.2 t3] n
theorem IsTri.keeps {h h' : Heap} {v : Value} {k : K3} (p : IsTri h v k) (e : ∀ b o, h.get? b = some o → o.cls = .type "tuple" → h'.get? b = some o) : IsTri h' v k := by
  obtain ⟨a, o, t1, t2, t3, n, q, ho, hc, hd⟩ := p
  exact ⟨a, o, t1, t2, t3, n, q, e a o ho hc, hc, hd⟩
theorem IsTri.key {h : Heap} {v : Value} {k : K3} (p : IsTri h v k) : tupKey h sh3 v = some (key3 k) := by
  obtain ⟨a, o, t1, t2, t3, n, rfl, ho, hc, hd⟩ := p
  unfold tupKey
  dsimp only
  rw [ho]
  dsimp only
  rw [hd]
  rfl
theorem tups_of {h : Heap} : ∀ {vs : List Value}, (∀ v ∈ vs, ∃ k, IsTri h v k) → ∃ fs, fs.length = vs.length ∧ TupsOf h sh3 vs fs
  | [], _ => ⟨[], rfl, .nil⟩
  | v :: vs, hv => by
    obtain ⟨fs, h1, h2⟩ := tups_of fun u m => hv u (List.mem_cons_of_mem _ m)
    obtain ⟨k, a, o, t1, t2, t3, n, e, ho, hc, hd⟩ := hv v List.mem_cons_self
    exact ⟨.str k.1 t1 :: fs, by simp [h1], .cons ⟨a, o, _, n, e, ho, hc, hd, rfl, fun q => absurd q (by decide), fun _ => ⟨_, _, rfl⟩⟩ h2⟩
section
variable {prog : Program} {w : World} {A : Around} {E : Value → Shared → Prop} {s : Shared}
theorem tri_cmp {vs : List Value} {k : Value → K3} (hp : ∀ v ∈ vs, IsTri s.heap v (k v)) : Cmp prog w A s (tuples' true) (fun p => p.1 ∈ vs) (lt2 fun v u => lt3 (k v) (k u)) := by
  intro p q hm hm'
  exact tup_ltAt (shape := sh3) true A _ p.1 q.1 _ _ (hp _ hm).key (hp _ hm').key ⟨rfl, rfl⟩
theorem tris_sortableO {a : Addr} {vs : List Value} {k : Value → K3} (h0 : 0 < vs.length) (hp : ∀ v ∈ vs, IsTri s.heap v (k v)) (ha : ∀ o, s.heap.get? a = some o → o.cls ≠ .type "tuple") : SortableO prog w A s a vs fun v u => lt3 (k v) (k u) := by
  intro h' keep
  have hp' : ∀ v ∈ vs, IsTri h' v (k v) := fun v hm => (hp v hm).keeps fun b o e c => keep b o (fun z => by subst z; exact ha o e c) e
  obtain ⟨fs, h1, h2⟩ := tups_of fun v hm => ⟨_, hp' v hm⟩
  exact ⟨tuples' true, fun Q E hq => tup_kind (by omega) h2 hq, tri_cmp (s := { s with heap := h' }) hp'⟩
theorem sorted_trisO {l : Addr} {vs : List Value} {k : Value → K3} {Q : Value → Shared → Prop} (hl : s.heap.IsList l vs.toArray) (hz : vs.length ≤ sizeLine) (hp : ∀ v ∈ vs, IsTri s.heap v (k v))
    (h : ∀ (h' : Heap) (d : Addr) (out : List Value), Srtd (fun v u => lt3 (k v) (k u)) out → Stb (fun v u => lt3 (k v) (k u)) out vs → (∀ b o, s.heap.get? b = some o → h'.get? b = some o) → s.heap.objs.size ≤ d → (∃ n, h'.get? d = some (seqObj "list" out.toArray n)) → Q (.ref d) { s with heap := h' }) :
    wpAny (model prog w) A (call (.builtin "sorted") [.ref l]) Q E s := by
  refine sorted_ord (swo3 k) hl hz (fun h2 h₁ a ha kk => ?_) fun out hs hb => ?_
  · refine tris_sortableO (s := { s with heap := h₁ }) (by omega) (fun v hm => (hp v hm).keeps fun b o e _ => (kk b o e).2) fun o e => ?_
    have e' : some o = some (seqObj "list" vs.toArray 0) := e.symm.trans ha
    cases e'
    intro c
    exact absurd (Value.type.inj c) (by decide)
  · exact h _ _ out hs hb (fun b o e => sortedAll_old e) (Nat.le_succ _) (sortedAll_at s.heap vs out.toArray)
end
end SrtT
namespace L2
open PySem PySem.Spec PyProof.Rows
open SrtT (K3 lt3 swo3 sorted_trisO)
abbrev ltT (k : V → K3) (x y : V) : Bool := lt3 (k x) (k y)
/-- sorted(xs), xs a list of tuples of a text and two ints (k says which) -/
def rSortedTO (K : PySem.W.Frag) : List V → Hp → VK → Prop := fun vs H Q => ∃ (a : Addr) (xs : List V) (k : V → K3), vs = [V.ref a] ∧ SqL K H a xs ∧ (∀ x ∈ xs, ∃ t, x = V.ref t ∧ H t = some (.tup [.str (k x).1, .int (k x).2.1, .int (k x).2.2])) ∧
  ∀ ys p, SrtO.Srtd (ltT k) ys → SrtO.Stb (ltT k) ys xs → H p = none → Q (.ref p) (upd H p (.lst ys))
section
variable {X : Cx}
theorem cr_sortedTO : CallR X (.builtin "sorted") (rSortedTO X.K) := by
  intro pins s σ H vs us Q I r h
  obtain ⟨a, xs, k, rfl, hs, hx, q⟩ := h
  obtain ⟨its, rv, hl, hz⟩ := I.list hs
  obtain ⟨u, rfl, ru⟩ := vals1 r
  obtain rfl : u = Value.ref a := ru
  obtain ⟨e1, e2⟩ := refs_back rv fun x m => by
    obtain ⟨t, e, _⟩ := hx x m
    exact ⟨t, e⟩
  refine sorted_trisO (k := fun u => k (backV u)) hl.isList (by rw [← rv.length]; exact hz) (fun v hv => ?_) fun h' d out h1 h2 kp hd hn => ?_
  · obtain ⟨t, rfl⟩ := e2 v hv
    have hm : V.ref t ∈ xs := by rw [e1]; exact List.mem_map.mpr ⟨_, hv, rfl⟩
    obtain ⟨t', e, ht⟩ := hx _ hm
    cases e
    obtain ⟨_, its2, r2, o, ho, hc, n, hd⟩ := I.hok _ _ ht
    cases r2 with
    | cons ri r2 =>
      cases r2 with
      | cons rj r2 =>
        cases r2 with
        | cons rk r2 =>
          cases r2
          obtain ⟨t1, rfl⟩ := ri
          obtain ⟨t2, rfl⟩ := rj
          obtain ⟨t3, rfl⟩ := rk
          exact ⟨t, o, t1, t2, t3, n, rfl, ho, hc, hd⟩
  · have h3 : ∀ u ∈ out, ∃ a, u = Value.ref a := fun u hu => e2 u (h2.perm.mem_iff.mp hu)
    obtain ⟨n, hn⟩ := hn
    have hb : SrtO.Stb (ltT k) (out.map backV) xs := by
      rw [e1]
      exact SrtO.Stb.map (swo3 k) backV h2
    refine ⟨.ref d, upd H d (.lst (out.map backV)), I.laid (t' := s.toks) kp hd ⟨?_, out, n, vals_back h3, hn⟩, rfl, q _ d (SrtO.srtd_map h1) hb (I.hok.fresh hd)⟩
    rw [hb.len]
    exact hz
end
end L2

set_option Elab.async false
set_option linter.all false
set_option maxRecDepth 100000
set_option maxHeartbeats 4000000
/-! sorted and enumerate over data. -/
namespace DL
open PySem PySem.Spec PyProof.Rows L2
open Evl (Ex)
open SrtT (K3 lt3 key3 swo3)
def le3 (a b : K3) : Bool := !lt3 b a
theorem le3_iff {a b : K3} : le3 a b = true ↔ lt3 b a = false := by unfold le3; cases lt3 b a <;> simp
theorem le3_trans (a b c : K3) (h1 : le3 a b = true) (h2 : le3 b c = true) : le3 a c = true :=
  le3_iff.mpr ((swo3 (fun x : K3 => x)).tr a b c (le3_iff.mp h1) (le3_iff.mp h2))
theorem le3_total (a b : K3) : (le3 a b || le3 b a) = true := by
  unfold le3
  cases h : lt3 b a with
  | false => rfl
  | true => rw [(swo3 (fun x : K3 => x)).asym b a h]; rfl
theorem str_eq {x y : Str} (h : x.cps.toList = y.cps.toList) : x = y := by
  cases x; cases y
  have := Array.toList_inj.mp h
  simp_all
theorem key3_inj {a b : K3} (h : key3 a = key3 b) : a = b := by
  obtain ⟨x, i, j⟩ := a
  obtain ⟨y, k, l⟩ := b
  unfold key3 at h
  simp only [List.cons.injEq, Sum.inr.injEq, Sum.inl.injEq] at h
  obtain ⟨h1, h2, h3, _⟩ := h
  rw [str_eq h1, h2, h3]
theorem le3_anti {a b : K3} (h1 : le3 a b = true) (h2 : le3 b a = true) : a = b :=
  key3_inj (lex_total _ _ (le3_iff.mp h2) (le3_iff.mp h1))
/-- sorted -/
def srt3 (ks : List K3) : List K3 := ks.mergeSort le3
theorem srt3_perm (ks : List K3) : (srt3 ks).Perm ks := List.mergeSort_perm _ _
theorem srt3_pw (ks : List K3) : (srt3 ks).Pairwise fun a b => le3 a b = true := List.pairwise_mergeSort le3_trans le3_total ks
theorem srt3_uniq {l ks : List K3} (h : l.Pairwise fun a b => le3 a b = true) (p : l.Perm ks) : l = srt3 ks :=
  List.Perm.eq_of_pairwise (fun a b _ _ h1 h2 => le3_anti h1 h2) h (srt3_pw ks) (p.trans (srt3_perm ks).symm)
theorem srt3_congr {a b : List K3} (p : a.Perm b) : srt3 a = srt3 b := srt3_uniq (srt3_pw a) ((srt3_perm a).trans p)
def triD (k : K3) : D := .tup [.str k.1, .int k.2.1, .int k.2.2]
def tris? : List D → Option (List K3)
  | [] => some []
  | .tup [.str x, .int i, .int j] :: ds => (tris? ds).map ((x, i, j) :: ·)
  | _ => none
theorem tris?_some : ∀ {ds : List D} {ks : List K3}, tris? ds = some ks → ds = ks.map triD := by
  intro ds
  induction ds with
  | nil => intro ks h; cases h; rfl
  | cons d ds ih =>
    intro ks h
    unfold tris? at h
    split at h
    · rename_i e; cases e
    · rename_i x i j ds' e
      obtain ⟨rfl, rfl⟩ := List.cons.inj e
      rw [Option.map_eq_some_iff] at h
      obtain ⟨m, h1, rfl⟩ := h
      rw [ih h1]; rfl
    · cases h
@[simp] theorem tris?_map (ks : List K3) : tris? (ks.map triD) = some ks := by
  induction ks with
  | nil => rfl
  | cons k r ih => simp [tris?, triD, ih]
def srtI (ns : List Int) : List Int := ns.mergeSort fun a b => decide (a ≤ b)
theorem srtI_perm (ns : List Int) : (srtI ns).Perm ns := List.mergeSort_perm _ _
theorem srtI_pw (ns : List Int) : (srtI ns).Pairwise (· ≤ ·) := by
  have := List.pairwise_mergeSort (le := fun a b : Int => decide (a ≤ b)) (fun a b c h1 h2 => by simp at *; omega) (fun a b => by simp; omega) ns
  exact this.imp fun h => by simpa using h
theorem srtI_uniq {l ns : List Int} (h : l.Pairwise (· ≤ ·)) (p : l.Perm ns) : l = srtI ns :=
  List.Perm.eq_of_pairwise (fun a b _ _ h1 h2 => Int.le_antisymm h1 h2) h (srtI_pw ns) (p.trans (srtI_perm ns).symm)
def gSort : List D → Option R
  | [.lst ds] => match ints? ds with
    | some ns => some (newL ((srtI ns).map .int))
    | none => match tris? ds with
      | some ks => some (newL ((srt3 ks).map triD))
      | none => none
  | [.scr ns] => some (newL ((srtI ns).map .int))
  | _ => none
/-- what a value is as a tuple of the heap -/
def k3of (H : Hp) : V → K3
  | .ref t => match H t with
    | some (.tup [.str x, .int i, .int j]) => (x, i, j)
    | _ => (⟨#[]⟩, 0, 0)
  | _ => (⟨#[]⟩, 0, 0)
section
variable {K : PySem.W.Frag} {H : Hp}
theorem tri_dt {v : V} {k : K3} (h : Dt K H v (triD k)) : ∃ t, v = .ref t ∧ H t = some (.tup [.str k.1, .int k.2.1, .int k.2.2]) := by
  unfold triD at h
  cases h with
  | tup h t =>
    cases t with
    | cons h1 t =>
      cases t with
      | cons h2 t =>
        cases t with
        | cons h3 t =>
          cases t; cases h1; cases h2; cases h3
          exact ⟨_, rfl, h⟩
theorem tri_k3 {v : V} {k : K3} (h : Dt K H v (triD k)) : k3of H v = k := by
  obtain ⟨t, rfl, e⟩ := tri_dt h
  unfold k3of
  dsimp only
  rw [e]
theorem tris_dt : ∀ {xs : List V} {ks : List K3}, DtL K H xs (ks.map triD) → xs.map (k3of H) = ks ∧ ∀ x ∈ xs, Dt K H x (triD (k3of H x))
  | _, [], h => by cases h; exact ⟨rfl, fun x m => by cases m⟩
  | _, k :: ks, h => by
    cases h with
    | cons h1 t =>
      obtain ⟨h2, h3⟩ := tris_dt t
      have e := tri_k3 h1
      refine ⟨by rw [List.map_cons, e, h2], fun x m => ?_⟩
      rcases List.mem_cons.mp m with rfl | m
      · rw [e]; exact h1
      · exact h3 x m
theorem dtL_tris : ∀ {xs : List V}, (∀ x ∈ xs, Dt K H x (triD (k3of H x))) → DtL K H xs ((xs.map (k3of H)).map triD)
  | [], _ => .nil
  | x :: xs, h => .cons (h x List.mem_cons_self) (dtL_tris fun y m => h y (List.mem_cons_of_mem _ m))
theorem ints_vals : ∀ {xs : List V} {ns : List Int}, DtL K H xs (ns.map D.int) → xs = ns.map V.int
  | _, [], h => by cases h; rfl
  | _, n :: ns, h => by
    cases h with
    | cons h1 t => cases dt_int h1; rw [ints_vals t]; rfl
end
theorem ok_sort {K : PySem.W.Frag} : CallOk K (fun xs H Q => rSortedTO K xs H Q ∨ rSortedI K xs H Q) gSort := by
  intro H H1 fp vs ds z Q h ls ex hz q
  unfold gSort at hz
  split at hz
  · rename_i ds
    cases h with
    | cons h1 t =>
      cases t
      cases h1 with
      | lst h2 t2 =>
        split at hz
        · rename_i ns e; cases hz
          have := ints?_some e
          subst this
          cases ints_vals t2
          refine .inr ⟨_, ns, rfl, SqL.of h2, fun ns' p pm pw hp => ?_⟩
          rw [srtI_uniq pw pm]
          obtain ⟨F, o⟩ := newL_ok (fp := fp) hp ex (DtL.ints (srtI ns))
          exact q _ F _ (Evl.Ex.new hp) o
        · split at hz
          · rename_i ks e; cases hz
            have := tris?_some e
            subst this
            obtain ⟨e1, e2⟩ := tris_dt t2
            refine .inl ⟨_, _, k3of H1, rfl, SqL.of h2, fun x m => ?_, fun ys p s st hp => ?_⟩
            · obtain ⟨t, e3, e4⟩ := tri_dt (e2 x m)
              exact ⟨t, e3, e4⟩
            · have d2 := dtL_tris (K := K) (H := H1) (xs := ys) fun x m => e2 x (st.perm.mem_iff.mp m)
              have e5 : ys.map (k3of H1) = srt3 ks := by
                refine srt3_uniq (List.pairwise_map.mpr (List.Pairwise.imp (fun h => le3_iff.mpr h) s)) ?_
                rw [← e1]; exact st.perm.map _
              rw [e5] at d2
              obtain ⟨F, o⟩ := newL_ok (fp := fp) hp ex d2
              exact q _ F _ (Evl.Ex.new hp) o
          · cases hz
  · rename_i ns; cases hz
    cases h with
    | cons h1 t =>
      cases t
      cases h1 with
      | scr h2 t2 =>
        refine .inr ⟨_, ns, rfl, h2, fun ns' p pm pw hp => ?_⟩
        rw [srtI_uniq pw pm]
        obtain ⟨F, o⟩ := newL_ok (fp := fp) hp ex (DtL.ints (srtI ns))
        exact q _ F _ (Evl.Ex.new hp) o
  · cases hz
theorem cr_sort {X : Cx} : CallR X (.builtin "sorted") (fun xs H Q => rSortedTO X.K xs H Q ∨ rSortedI X.K xs H Q) := by
  intro pins s σ H vs us Q I r h
  rcases h with h | h
  · exact cr_sortedTO pins s σ H vs us Q I r h
  · exact cr_sortedI pins s σ H vs us Q I r h
end DL

set_option Elab.async false
set_option linter.all false
set_option maxRecDepth 100000
set_option maxHeartbeats 4000000
/-! enumerate over a list. -/
namespace DL
open PySem PySem.Spec PyProof.Rows L2
open Evl (Ex)
def enumD (ds : List D) : List D := ds.mapIdx fun i d => .tup [.int (i : Nat), d]
section
variable {K : PySem.W.Frag} {B : Hp} {a : Addr} {ds : List D}
theorem ite_ok (h : Dt K B (.ref a) (.lst ds)) : ItOk K B (Ite K a) (enumD ds) := by
  cases h with
  | lst h t =>
    rename_i xs
    refine fun i H' e => ⟨fun d hd => ?_, fun hl => ⟨xs, SqL.of (e _ _ h), ?_⟩⟩
    · unfold enumD at hd
      rw [List.getElem?_mapIdx, Option.map_eq_some_iff] at hd
      obtain ⟨d', hd', rfl⟩ := hd
      obtain ⟨v, h1, h2⟩ := t.get hd'
      refine ⟨⟨xs, v, SqL.of (e _ _ h), h1⟩, fun x H'' y => ?_⟩
      obtain ⟨T, x', rfl, nT, rfl, f⟩ := y
      have := f xs (SqL.of (e _ _ h))
      rw [h1] at this; cases this
      exact ⟨Evl.Ex.new nT, fun B2 e2 e3 => .tup (e3 _ _ (stb_tup upd_same)) (.cons (.int _) (.cons (h2.mono e2) .nil))⟩
    · rw [t.len]
      unfold enumD at hl
      rwa [List.length_mapIdx] at hl
end
section
variable {X : Cx} {elts : List Expr} {kk : Nat} {e : Expr} {ma : MA} {p pos tpos : Pos}
def mEnum (ma : MA) : MI := fun ρ => match ma ρ with
  | some [r] => match r.data with
    | .lst ds => some (r.fixed, enumD ds)
    | _ => none
  | _ => none
theorem xi_enum (hg : Gl X "enumerate") (hm : X.mg "enumerate" = none) (ha : XA X [e] ma) (hs : starEach [e] X.env = [(false, eval e X.env)] := by rfl) :
    XI X (.Tuple elts kk tpos) (.Call (.Name "enumerate" p) [e] [] pos) (mEnum ma) := by
  obtain ⟨t, pa, s⟩ := ha
  refine ⟨_, pi_enum hg hm pa hs, fun G H σ ρ fp fx items Q R hm q => ?_⟩
  unfold mEnum at hm
  split at hm
  · rename_i r e1
    refine s G H σ ρ fp _ _ R e1 fun vs F H1 x1 o1 => ?_
    cases o1 with
    | cons o t _ =>
      cases t
      split at hm
      · rename_i ds e2; cases hm
        have w := ROk.wall R.ls x1 o
        rw [e2] at w
        have w' := o.data; rw [e2] at w'
        cases w' with
        | lst h t => exact ⟨_, _, rfl, SqL.of h, q _ H1 x1 (ite_ok w)⟩
      · cases hm
  · cases hm
end
section
variable {X : Cx} {tg e : Expr} {ma : ME}
/-- a list or a tuple -/
def mILT (m : ME) : MI := fun ρ => match m ρ with
  | some r => match r.data with
    | .lst ds => some (r.fixed, ds)
    | .tup ds => some (r.fixed, ds)
    | _ => none
  | none => none
theorem xi_lt (h : XE X e ma) : XI X tg e (mILT ma) := by
  obtain ⟨t, p, s⟩ := h
  refine ⟨_, DL.PI.or (pi_list p) (pi_tup p), fun G H σ ρ fp fx items Q R hm q => ?_⟩
  unfold mILT at hm
  split at hm
  · rename_i r e1
    split at hm
    · rename_i ds e2; cases hm
      refine .inl (s G H σ ρ fp r _ R e1 fun v F H1 x1 o1 => ?_)
      have w := ROk.wall R.ls x1 o1
      rw [e2] at w
      have w' := o1.data; rw [e2] at w'
      cases w' with
      | lst h t => exact ⟨_, rfl, ⟨_, SqL.of h⟩, q _ H1 x1 (itl_ok w)⟩
    · rename_i ds e2; cases hm
      refine .inr (s G H σ ρ fp r _ R e1 fun v F H1 x1 o1 => ?_)
      have w := ROk.wall R.ls x1 o1
      rw [e2] at w
      have w' := o1.data; rw [e2] at w'
      cases w' with
      | tup h t => exact ⟨_, rfl, ⟨_, .inl (.inl h)⟩, q _ H1 x1 (itt_ok (tupD w))⟩
    · cases hm
  · cases hm
end
end DL

set_option Elab.async false
set_option linter.all false
set_option maxRecDepth 100000
set_option maxHeartbeats 4000000
/-! enumerate(zip(*rows)): the target a tuple. -/
namespace ZE
open PySem PySem.Spec PyProof.Rows
open Sem (wp)
open ZN
section
variable {prog : Program} {w : World} {A : Around} {E : Value → Shared → Prop} {s : Shared}
theorem nextOf_zip {z TI TO : Addr} {its ls : List Addr} {cols : List (Array Value)} {kept us : List Value} {f0 f1 : Value} {i : Nat} {Q : Value → Shared → Prop} (D : Ap z TI TO its ls)
    (hf0 : f0 = .none ∨ ∃ T : Addr, f0 = rawInt T)
    (hz : IsZ s.heap z TI TO f0 f1) (hTI : IsTu s.heap TI (its.map Value.ref)) (hTO : IsTu s.heap TO kept) (hk : kept.length = its.length) (hne : its ≠ []) (hlen : its.length ≤ 100) (hc : cols.length = its.length)
    (hg : Good its ls cols (fun _ => i) s.heap) (hus : Row cols i us)
    (hQ : ∀ h' f0' f1' kept', (f0' = .none ∨ ∃ T : Addr, f0' = rawInt T) → IsZ h' z TI TO f0' f1' → IsTu h' TO kept' → kept'.length = its.length → Good its ls cols (fun _ => i + 1) h' → IsTu h' s.heap.objs.size us → h'.objs.size = s.heap.objs.size + 1 → Chg z TO its s.heap h' → Q (.ref s.heap.objs.size) { s with heap := h' }) :
    wpAny (model prog w) A (Builtin.SmallTypes.nextOf (.ref z)) Q E s := by
  have hT : s.TypeIs (.ref z) "zip" := ⟨_, hz, rfl⟩
  unfold Builtin.SmallTypes.nextOf
  exact wpAny_bind (wpAny_callSpecial?_slot (name := Str.ofString "__next__") hT F.slot_zip_next
    (wpAny_call_entry F.slot_zip_next hT F.entry_zip_next
      (next_item D hf0 hz hTI hTO hk hne hlen hc hg hus fun h' a b c a0 a1 a2 a3 a4 a5 a6 a7 => wpAny_pure (hQ h' a b c a0 a1 a2 a3 a4 a5 a6 a7)) (F.args_zip_next_1 _)))
theorem nextOf_zip_end {z TI TO : Addr} {its ls : List Addr} {kept : List Value} {f0 f1 : Value} {i : Nat} {Q : Value → Shared → Prop} (hh : A.handled = none) (D : Ap z TI TO its ls)
    (hf0 : f0 = .none ∨ ∃ T : Addr, f0 = rawInt T)
    (hz : IsZ s.heap z TI TO f0 f1) (hTI : IsTu s.heap TI (its.map Value.ref)) (hTO : IsTu s.heap TO kept) {p l : Addr} {r : List Addr} {xs : Array Value} (hir : its = p :: r)
    (h1 : ls[0]? = some l) (h3 : s.heap.IsListIter p l i) (h4 : s.heap.IsList l xs) (hx : xs[i]? = none)
    (hE : ∀ h' e, Chg z TO its s.heap h' → (∃ o, h'.get? e = some o ∧ o.cls = .type "StopIteration") → E (.ref e) { s with heap := h' }) :
    wpAny (model prog w) A (Builtin.SmallTypes.nextOf (.ref z)) Q E s := by
  have hT : s.TypeIs (.ref z) "zip" := ⟨_, hz, rfl⟩
  unfold Builtin.SmallTypes.nextOf
  exact wpAny_bind (wpAny_callSpecial?_slot (name := Str.ofString "__next__") hT F.slot_zip_next
    (wpAny_call_entry F.slot_zip_next hT F.entry_zip_next (next_end hh D hf0 hz hTI hTO hir h1 h3 h4 hx fun h' e hk he => hE h' e hk he) (F.args_zip_next_1 _)))
/-- the cells of the enumerate object lie apart from the zip's -/
structure Eap (e z TI TO : Addr) (its ls : List Addr) : Prop where
  z : e ≠ z
  TI : e ≠ TI
  TO : e ≠ TO
  it : e ∉ its
  l : e ∉ ls
theorem enum_item {e z TI TO : Addr} {its ls : List Addr} {cols : List (Array Value)} {kept us : List Value} {f0 f1 : Value} {i : Nat} {old : Value} {Q : Value → Shared → Prop} (D : Ap z TI TO its ls) (P : Eap e z TI TO its ls)
    (he : IsEnum s.heap e z i old) (hf0 : f0 = .none ∨ ∃ T : Addr, f0 = rawInt T)
    (hz : IsZ s.heap z TI TO f0 f1) (hTI : IsTu s.heap TI (its.map Value.ref)) (hTO : IsTu s.heap TO kept) (hk : kept.length = its.length) (hne : its ≠ []) (hlen : its.length ≤ 100) (hc : cols.length = its.length)
    (hg : Good its ls cols (fun _ => i) s.heap) (hus : Row cols i us)
    (hQ : ∀ h1 f0' f1' kept', (f0' = .none ∨ ∃ T : Addr, f0' = rawInt T) → IsZ h1 z TI TO f0' f1' → IsTu h1 TO kept' → kept'.length = its.length → Good its ls cols (fun _ => i + 1) h1 → IsTu h1 s.heap.objs.size us → h1.objs.size = s.heap.objs.size + 1 → Chg z TO its s.heap h1 →
      ∀ h', IsEnumOut h' e z ((i : Int) + 1) (.ref s.heap.objs.size) h1.objs.size → h'.get? h1.objs.size = some { cls := .type "tuple", data := .seq #[.int i s.toks, .ref s.heap.objs.size] } → h'.objs.size = h1.objs.size + 1 →
      (∀ b o, b ≠ e → h1.get? b = some o → h'.get? b = some o) → Q (.ref h1.objs.size) { s with heap := h', toks := s.toks + 1 }) :
    wpAny (model prog w) A (Builtin.«enumerate.__next__» ⟨[.ref e], []⟩) (fun fin s' => ∃ v, fin = .done (.ret v) ∧ Q v s') E s := by
  obtain ⟨hp, g, d, tk, os⟩ := s
  show wpAny _ _ (field (.ref e) 2 >>= _) _ _ _
  refine wpAny_bind (wpAny_field he rfl (x := .ref z) rfl ?_)
  refine wpAny_bind (nextOf_zip D hf0 hz hTI hTO hk hne hlen hc hg hus fun h₁ f0' f1' kept' a0 a1 a2 a3 a4 a5 a6 a7 => ?_)
  have he₁ : IsEnum h₁ e z i old := a7 e _ P.z P.TO P.it he
  replace hQ := hQ h₁ f0' f1' kept' a0 a1 a2 a3 a4 a5 a6 a7
  show wpAny _ _ (field (.ref e) 3 >>= _) _ _ ⟨h₁, g, d, tk, os⟩
  refine wpAny_bind (wpAny_field he₁ rfl (x := rawInt i) rfl ?_)
  show wpAny _ _ (field (.ref e) 4 >>= _) _ _ ⟨h₁, g, d, tk, os⟩
  refine wpAny_bind (wpAny_field he₁ rfl (x := .none) rfl ?_)
  show wpAny _ _ (mkInt i >>= _) _ _ ⟨h₁, g, d, tk, os⟩
  refine wpAny_bind (wpAny_mkInt ?_)
  show wpAny _ _ (setField (.ref e) 3 (rawInt ((i : Int) + 1)) >>= _) _ _ ⟨h₁, g, d, tk + 1, os⟩
  refine wpAny_bind (wpAny_setField_rec he₁ (by simp) fun h₂ he₂ hs₂ => ?_)
  replace hs₂ : Heap.SameBut e h₁ h₂ := hs₂
  replace he₂ : IsEnum h₂ e z ((i : Int) + 1) old := he₂
  show wpAny _ _ (setField (.ref e) 4 .none >>= _) _ _ ⟨h₂, g, d, tk + 1, os⟩
  refine wpAny_bind (wpAny_setField_rec he₂ (by simp) fun h₃ he₃ hs₃ => ?_)
  replace hs₃ : Heap.SameBut e h₂ h₃ := hs₃
  replace he₃ : IsEnum h₃ e z ((i : Int) + 1) old := he₃
  show wpAny _ _ (newTuple [.int i tk, .ref hp.objs.size] >>= _) _ _ ⟨h₃, g, d, tk + 1, os⟩
  refine wpAny_bind (wpAny_newTuple ?_)
  have he₄ : IsEnum (h₃.push { cls := .type "tuple", data := .seq #[.int i tk, .ref hp.objs.size] }) e z ((i : Int) + 1) old := Heap.get?_push_of_some _ he₃
  generalize hh₄ : h₃.push { cls := .type "tuple", data := .seq #[.int i tk, .ref hp.objs.size] } = h₄ at he₄
  have hsz : h₃.objs.size = h₁.objs.size := by rw [hs₃.1, hs₂.1]
  have hel : e < h₁.objs.size := Heap.lt_size he₁
  have ht₄ : h₄.get? h₁.objs.size = some { cls := .type "tuple", data := .seq #[.int i tk, .ref hp.objs.size] } := by rw [← hh₄, ← hsz]; exact Heap.get?_push_size _ rfl
  have hz₄ : h₄.objs.size = h₁.objs.size + 1 := by rw [← hh₄, Heap.size_push, hsz]
  have hk₄ : ∀ b o, b ≠ e → h₁.get? b = some o → h₄.get? b = some o := fun b o hbe hb => by
    rw [← hh₄]; exact Heap.get?_push_of_some _ (hs₃.extBut b o hbe (hs₂.extBut b o hbe hb))
  show wpAny _ _ (Builtin.SmallTypes.ownedTupleIsFree (.ref e) >>= _) _ _ ⟨h₄, g, d, tk + 1, os⟩
  rw [hsz]
  clear hh₄ he₃ hs₃ he₂ hs₂ hsz h₃ h₂
  refine wpAny_bind ?_
  · unfold Builtin.SmallTypes.ownedTupleIsFree
    refine wpAny_bind (wpAny_field he₄ rfl (x := .none) rfl (wpAny_pure ?_))
    simp only [if_true]
    refine wpAny_bind (wpAny_rule ?_)
    refine wpAny_bind (wpAny_field he₄ rfl (x := old) rfl ?_)
    refine wpAny_bind (wpAny_setField_rec he₄ (by simp) fun h₅ he₅ hs₅ => ?_)
    replace hs₅ : Heap.SameBut e h₄ h₅ := hs₅
    replace he₅ : IsEnum h₅ e z ((i : Int) + 1) (.ref hp.objs.size) := he₅
    show wpAny _ _ (Builtin.SmallTypes.ownedTupleHandOut (.ref e) (.ref h₁.objs.size) >>= _) _ _ ⟨h₅, g, d, tk + 1, os⟩
    refine wpAny_bind ?_
    · unfold Builtin.SmallTypes.ownedTupleHandOut
      refine wpAny_bind (wpAny_setField_rec he₅ (by simp) fun h₆ he₆ hs₆ => ?_)
      replace hs₆ : Heap.SameBut e h₅ h₆ := hs₆
      replace he₆ : IsEnumOut h₆ e z ((i : Int) + 1) (.ref hp.objs.size) h₁.objs.size := he₆
      refine wpAny_setField_rec he₆ (by simp) fun h₇ he₇ hs₇ => ?_
      replace hs₇ : Heap.SameBut e h₆ h₇ := hs₇
      replace he₇ : IsEnumOut h₇ e z ((i : Int) + 1) (.ref hp.objs.size) h₁.objs.size := he₇
      refine wpAny_bind (wpAny_letGo (wpAny_pure ⟨_, rfl, hQ h₇ he₇ ?_ ?_ ?_⟩))
      · exact hs₇.extBut _ _ (Nat.ne_of_gt hel) (hs₆.extBut _ _ (Nat.ne_of_gt hel) (hs₅.extBut _ _ (Nat.ne_of_gt hel) ht₄))
      · rw [hs₇.1, hs₆.1, hs₅.1, hz₄]
      · exact fun b o hbe hb => hs₇.extBut b o hbe (hs₆.extBut b o hbe (hs₅.extBut b o hbe (hk₄ b o hbe hb)))
theorem pyNext_enum_item {e z TI TO : Addr} {its ls : List Addr} {cols : List (Array Value)} {kept us : List Value} {f0 f1 : Value} {i : Nat} {old : Value} {Q : Option Value → Shared → Prop} (D : Ap z TI TO its ls) (P : Eap e z TI TO its ls)
    (he : IsEnum s.heap e z i old) (hf0 : f0 = .none ∨ ∃ T : Addr, f0 = rawInt T)
    (hz : IsZ s.heap z TI TO f0 f1) (hTI : IsTu s.heap TI (its.map Value.ref)) (hTO : IsTu s.heap TO kept) (hk : kept.length = its.length) (hne : its ≠ []) (hlen : its.length ≤ 100) (hc : cols.length = its.length)
    (hg : Good its ls cols (fun _ => i) s.heap) (hus : Row cols i us)
    (hQ : ∀ h1 f0' f1' kept', (f0' = .none ∨ ∃ T : Addr, f0' = rawInt T) → IsZ h1 z TI TO f0' f1' → IsTu h1 TO kept' → kept'.length = its.length → Good its ls cols (fun _ => i + 1) h1 → IsTu h1 s.heap.objs.size us → h1.objs.size = s.heap.objs.size + 1 → Chg z TO its s.heap h1 →
      ∀ h', IsEnumOut h' e z ((i : Int) + 1) (.ref s.heap.objs.size) h1.objs.size → h'.get? h1.objs.size = some { cls := .type "tuple", data := .seq #[.int i s.toks, .ref s.heap.objs.size] } → h'.objs.size = h1.objs.size + 1 →
      (∀ b o, b ≠ e → h1.get? b = some o → h'.get? b = some o) → Q (some (.ref h1.objs.size)) { s with heap := h', toks := s.toks + 1 }) :
    wpAny (model prog w) A (pyNext (.ref e)) Q E s := by
  have hT : s.TypeIs (.ref e) "enumerate" := ⟨_, he, rfl⟩
  unfold pyNext
  exact wpAny_bind (wpAny_attempt (wpAny_callSpecial?_slot (name := Str.ofString "__next__") hT F.slot_enumerate_next
    (wpAny_call_entry F.slot_enumerate_next hT F.entry_enumerate_next
      (enum_item D P he hf0 hz hTI hTO hk hne hlen hc hg hus fun h1 a b c a0 a1 a2 a3 a4 a5 a6 a7 h' b0 b1 b2 b3 => wpAny_pure (hQ h1 a b c a0 a1 a2 a3 a4 a5 a6 a7 h' b0 b1 b2 b3)) (F.args_enumerate_next_1 _))))
theorem pyNext_enum_end {e z TI TO : Addr} {its ls : List Addr} {kept : List Value} {f0 f1 : Value} {i : Nat} {c : Int} {old : Value} {Q : Option Value → Shared → Prop} (hh : A.handled = none) (D : Ap z TI TO its ls)
    (he : IsEnum s.heap e z c old) (hf0 : f0 = .none ∨ ∃ T : Addr, f0 = rawInt T)
    (hz : IsZ s.heap z TI TO f0 f1) (hTI : IsTu s.heap TI (its.map Value.ref)) (hTO : IsTu s.heap TO kept) {p l : Addr} {r : List Addr} {xs : Array Value} (hir : its = p :: r)
    (h1 : ls[0]? = some l) (h3 : s.heap.IsListIter p l i) (h4 : s.heap.IsList l xs) (hx : xs[i]? = none)
    (hQ : ∀ h', Chg z TO its s.heap h' → Q none { s with heap := h' }) : wpAny (model prog w) A (pyNext (.ref e)) Q E s := by
  have hT : s.TypeIs (.ref e) "enumerate" := ⟨_, he, rfl⟩
  unfold pyNext
  refine wpAny_bind (wpAny_attempt (wpAny_callSpecial?_slot (name := Str.ofString "__next__") hT F.slot_enumerate_next
    (wpAny_call_entry F.slot_enumerate_next hT F.entry_enumerate_next ?_ (F.args_enumerate_next_1 _))))
  show wpAny _ _ (field (.ref e) 2 >>= _) _ _ _
  refine wpAny_bind (wpAny_field he rfl (x := .ref z) rfl ?_)
  refine wpAny_bind (nextOf_zip_end hh D hf0 hz hTI hTO hir h1 h3 h4 hx fun h' x he' hx' => ?_)
  obtain ⟨o, ho, hc⟩ := hx'
  refine wpAny_bind (wpAny_isInstance (T := "StopIteration") (b := true) ⟨o, ho, hc⟩ isSubtype_stop ?_)
  exact wpAny_pure (hQ _ he')
end
theorem meets_new (z : Addr) (TI TO : Addr) (f0 f1 : Value) :
    Meets (Builtin.«enumerate.__new__» ⟨[.type "enumerate", .ref z], []⟩) (fun _ R s => IsZ s.heap z TI TO f0 f1 ∧
      R (.ok (.ret (.ref s.heap.objs.size)))
        { s with heap := s.heap.push { cls := .type "enumerate", data := .fields #[.none, .bool false, .ref z, rawInt 0, .none, .none] } }) :=
  .of_wp fun prog w A R s h => by
    obtain ⟨hp, g, d, tk, os⟩ := s; obtain ⟨hl, h⟩ := h
    have hsub := sub_enumerate
    have q1 : ∀ {A' : Around} {E : Value → Shared → Prop} {Q : Value → Shared → Prop}, Q (.ref z) ⟨hp, g, d, tk, os⟩ → wpAny (model prog w) A' (pyIter (.ref z)) Q E ⟨hp, g, d, tk, os⟩ := fun q => pyIter_zip (s := ⟨hp, g, d, tk, os⟩) hl q
    wp_walk using AutoSeq1.wpAny_loadPart' hl
    refine wpAny_stack_any fun st => wpAny_pure ?_
    split
    · rename_i c _ _ _ _ _
      cases (c == Value.type "enumerate")
      · wp_walk using AutoSeq1.wpAny_loadPart' hl, q1
        exact ⟨_, rfl, h⟩
      · wp_walk using AutoSeq1.wpAny_loadPart' hl, q1
        exact ⟨_, rfl, h⟩
    · wp_walk using AutoSeq1.wpAny_loadPart' hl, q1
      exact ⟨_, rfl, h⟩
section
variable {prog : Program} {w : World} {A : Around} {E : Value → Shared → Prop} {s : Shared}
theorem call_enum_zip {z TI TO : Addr} {f0 f1 : Value} {Q : Value → Shared → Prop} (hz : IsZ s.heap z TI TO f0 f1)
    (h : ∀ h', IsEnum h' s.heap.objs.size z 0 .none → (∀ b o, s.heap.get? b = some o → h'.get? b = some o) → Q (.ref s.heap.objs.size) { s with heap := h' }) :
    wpAny (model prog w) A (call (.type "enumerate") [.ref z]) Q E s := by
  refine callType_new F.called_enumerate (by decide) (F.typeCall_enumerate_1 _) (F.newCall_enumerate_1 _) (fun obj => F.args_object_init_2 obj _) F.entry_enumerate_new
    (meets_new z TI TO f0 f1) ⟨hz, ?_⟩
  have he : IsEnum (s.heap.push { cls := .type "enumerate", data := .fields #[.none, .bool false, .ref z, rawInt 0, .none, .none] }) s.heap.objs.size z 0 .none := Heap.get?_push_size _ rfl
  exact ⟨⟨_, he, rfl⟩, h _ he fun b o x => Heap.get?_push_of_some _ x⟩
end
end ZE

set_option Elab.async false
set_option linter.all false
set_option maxRecDepth 100000
set_option maxHeartbeats 4000000
/-! enumerate(zip(*rows)) as what is walked. -/
namespace ZE
open PySem PySem.Spec PyProof.Rows L2
open Sem (wp)
open ZN
def ItzE (K : PySem.W.Frag) (as : List Addr) : It :=
  ⟨fun i H => ∃ row, Cols K H i as row,
    fun i H x H' => ∃ (T T2 : Addr) (row : List V), x = .ref T2 ∧ H T = none ∧ upd H T (.tup row) T2 = none ∧ H' = upd (upd H T (.tup row)) T2 (.tup [.int (i : Nat), .ref T]) ∧ ∀ row', Cols K H i as row' → row = row',
    fun i H => ∃ a r xs, as = a :: r ∧ SqL K H a xs ∧ xs.length ≤ i⟩
theorem turn_enumZip {P : Program} {w : World} {K : PySem.W.Frag} {elts : List Expr} {kk : Nat} {tpos : Pos} {as its : List Addr} {e z TI TO : Addr} (D : Ap z TI TO its as) (Pe : Eap e z TI TO its as) (hl : its.length = as.length) (hne : as ≠ []) (h6 : as.length ≤ 6) :
    Turn P w K (.Tuple elts kk tpos) (ItzE K as) (e :: z :: TI :: TO :: its) e (fun i h => (∃ old, IsEnum h e z ((i : Nat) : Int) old) ∧ Tn z TI TO its as i h) where
  mem := by simp
  obj := fun i h st c hc => by
    obtain ⟨⟨old, he⟩, ⟨f0, f1, _, hz⟩, hTI, ⟨kept, hTO, _⟩, hit⟩ := st
    have e' : c = e ∨ c = z ∨ c = TI ∨ c = TO ∨ c ∈ its := by simpa using hc
    rcases e' with q | q | q | q | q
    · rw [q]; exact ⟨_, he, fun v q => nomatch q⟩
    · rw [q]; exact ⟨_, hz, fun v q => nomatch q⟩
    · rw [q]; exact ⟨_, hTI, fun v q => nomatch q⟩
    · rw [q]; exact ⟨_, hTO, fun v q => nomatch q⟩
    · obtain ⟨j, hj⟩ := List.getElem?_of_mem q
      have hj2 := (List.getElem?_eq_some_iff.mp hj).1
      obtain ⟨o, e1, _, d1⟩ := hit j c as[j] hj (List.getElem?_eq_getElem (by omega))
      exact ⟨o, e1, fun v q => by rw [d1] at q; cases q⟩
  keep := fun i h h' st k => by
    obtain ⟨⟨old, he⟩, ⟨f0, f1, hf, hz⟩, hTI, ⟨kept, hTO, hk⟩, hit⟩ := st
    exact ⟨⟨old, k e (by simp) _ he⟩, ⟨f0, f1, hf, k z (by simp) _ hz⟩, k TI (by simp) _ hTI, ⟨kept, k TO (by simp) _ hTO, hk⟩, fun j p l hj hl => (hit j p l hj hl).at fun o q => k p (by simp [List.mem_of_getElem? hj]) o q⟩
  item := by
    intro X hP hw hK hc i pins s σ H E I hf st hg
    subst hP hw hK
    obtain ⟨⟨old, he⟩, ⟨f0, f1, hf0, hz⟩, hTI, ⟨kept, hTO, hk⟩, hit⟩ := st
    obtain ⟨row, hcol⟩ := hg
    obtain ⟨cols, us, hc1, hv, hrow, hls⟩ := hcol.vals I
    have hne2 : its ≠ [] := fun q => hne (by rw [q] at hl; exact List.length_eq_zero_iff.mp hl.symm)
    have good : Good its as cols (fun _ => i) s.heap := fun j p e => by
      have hj := (List.getElem?_eq_some_iff.mp e).1
      have h1 : as[j]? = some as[j] := List.getElem?_eq_getElem (by omega)
      have h2 : cols[j]? = some cols[j] := List.getElem?_eq_getElem (by omega)
      exact ⟨_, _, h1, h2, hit j p _ e h1, hls j _ _ h1 h2⟩
    have lt3 : ∀ c, c ∈ e :: z :: TI :: TO :: its → c < s.heap.objs.size := fun c hcm => by
      have e' : c = e ∨ c = z ∨ c = TI ∨ c = TO ∨ c ∈ its := by simpa using hcm
      rcases e' with q | q | q | q | q
      · rw [q]; exact Heap.lt_size he
      · rw [q]; exact Heap.lt_size hz
      · rw [q]; exact Heap.lt_size hTI
      · rw [q]; exact Heap.lt_size hTO
      · obtain ⟨j, hj⟩ := List.getElem?_of_mem q
        obtain ⟨_, _, _, _, ⟨o, e1, _⟩, _⟩ := good j c hj
        exact Heap.lt_size e1
    refine pyNext_enum_item D Pe he hf0 hz hTI hTO hk hne2 (by omega) (by omega) good hrow fun h1 f0' f1' kept' hf' z' TO' hk' good' hT hsz hch h' ho hT2 hsz2 hch2 => ?_
    refine ⟨_, rfl, wpAny_letOwnedTupleGo_enum (s := { s with heap := h', toks := s.toks + 1 }) ho fun h'' he' sb => ?_⟩
    have new : ObjOk X.prog X.w (upd H s.heap.objs.size (.tup row)) h1 s.heap.objs.size (.tup row) :=
      ⟨by rw [hcol.len]; exact Nat.le_trans h6 (by decide), us, hv, ⟨_, hT, rfl, _, rfl⟩⟩
    have I1 : Inv X pins σ (upd H s.heap.objs.size (.tup row)) { s with heap := h1 } :=
      I.turnedNew (t' := s.toks) (ch := z :: TI :: TO :: its) (fun c o hb q => hch c o (fun q' => hb (by simp [q'])) (fun q' => hb (by simp [q'])) (fun q' => hb (by simp [q'])) q) (fun b m => hf b (List.mem_cons_of_mem _ m)) (Nat.le_refl _) new
    have hsz' : h1.objs.size ≠ e := by
      rw [hsz]; exact Nat.ne_of_gt (Nat.lt_succ_of_lt (lt3 e (by simp)))
    have hT3 : h''.get? h1.objs.size = some { cls := .type "tuple", data := .seq #[.int i s.toks, .ref s.heap.objs.size] } := (sb.2 _ hsz').trans hT2
    have up : ∀ b o, b ≠ e → h1.get? b = some o → h''.get? b = some o := fun b o hb q => (sb.2 b hb).trans (hch2 b o hb q)
    have new2 : ObjOk X.prog X.w (upd (upd H s.heap.objs.size (.tup row)) h1.objs.size (.tup [.int (i : Nat), .ref s.heap.objs.size])) h'' h1.objs.size (.tup [.int (i : Nat), .ref s.heap.objs.size]) :=
      ⟨by show 2 ≤ sizeLine; decide, [.int i s.toks, .ref s.heap.objs.size], .cons ⟨_, rfl⟩ (.cons rfl .nil), ⟨_, hT3, rfl, _, rfl⟩⟩
    have fpe : FpOk X pins (upd H s.heap.objs.size (.tup row)) e := by
      obtain ⟨f0, f1, f2, f3, f4, f5⟩ := hf e (by simp)
      exact ⟨by rw [upd_ne (Nat.ne_of_lt (lt3 e (by simp)))]; exact f0, f1, f2, f3, f4, f5⟩
    have I2 : Inv X pins σ (upd (upd H s.heap.objs.size (.tup row)) h1.objs.size (.tup [.int (i : Nat), .ref s.heap.objs.size])) { s with heap := h'', toks := s.toks + 1 } :=
      I1.turnedNew (t' := s.toks + 1) (ch := [e]) (fun c o hb q => up c o (fun q' => hb (by simp [q'])) q) (fun b m => by rw [List.mem_singleton.mp m]; exact fpe) (Nat.le_refl _) new2
    refine ⟨.ref h1.objs.size, _, I2, rfl, ⟨_, _, row, rfl, I.hok.fresh (Nat.le_refl _), I1.hok.fresh (Nat.le_refl _), rfl, fun row' h => hcol.inj I h⟩, ⟨⟨.ref s.heap.objs.size, ?_⟩, ⟨f0', f1', hf', up z _ (Ne.symm Pe.z) z'⟩, up _ _ (Ne.symm Pe.TI) (hch _ _ D.TIz D.TITO D.TIi hTI), ⟨kept', up _ _ (Ne.symm Pe.TO) TO', hk'⟩, fun j p l hj hl' => ?_⟩, fun c hcm => ?_⟩
    · have e1 : ((i + 1 : Nat) : Int) = (i : Int) + 1 := by omega
      rw [e1]; exact he'
    · obtain ⟨l2, xs, q1, q2, q3, _⟩ := good' j p hj
      rw [hl'] at q1; cases q1
      have hpe : p ≠ e := fun q => Pe.it (q ▸ List.mem_of_getElem? hj)
      exact q3.at fun o q => up p o hpe q
    · have hlt := lt3 c hcm
      rw [upd_ne (by rw [hsz]; exact Nat.ne_of_lt (Nat.lt_succ_of_lt hlt)), upd_ne (Nat.ne_of_lt hlt)]
      exact (hf c hcm).1
  done := by
    intro X hP hw hK hc i pins s σ H E I hf st hg
    subst hP hw hK
    obtain ⟨⟨old, he⟩, ⟨f0, f1, hf0, hz⟩, hTI, ⟨kept, hTO, hk⟩, hit⟩ := st
    obtain ⟨a, r, xs, rfl, hqx, hend⟩ := hg
    obtain ⟨vs, rv, p, _⟩ := I.list hqx
    have l1 := rv.length
    obtain ⟨q, its', rfl⟩ : ∃ q its', its = q :: its' := by
      cases its with
      | nil => simp at hl
      | cons q its' => exact ⟨q, its', rfl⟩
    exact pyNext_enum_end (I.ok.hd hc) D he hf0 hz hTI hTO rfl (l := a) rfl (hit 0 q a rfl rfl) p.isList (by simp; omega) fun h' hch => ⟨rfl, I.turnedL (t' := s.toks) (ch := e :: z :: TI :: TO :: q :: its') (fun c o hb e =>
      hch c o (fun q' => hb (by simp [q'])) (fun q' => hb (by simp [q'])) (fun q' => hb (by
        have : c = q ∨ c ∈ its' := by simpa using q'
        rcases this with z | z <;> simp [z])) e) hf⟩
  self := fun A i s Q E st h => by
    obtain ⟨⟨old, he⟩, _⟩ := st
    exact wpAny_pyIter_enum he h
def iEnumZip (K : PySem.W.Frag) (te : TE) : TI := fun σ H R => te σ H fun x H1 => ∃ (l : Addr) (as : List Addr), x = .ref l ∧ SqL K H1 l (as.map V.ref) ∧ as ≠ [] ∧ as.length ≤ 6 ∧ (∀ a ∈ as, ∃ xs, SqL K H1 a xs) ∧ R (ItzE K as) H1
theorem pi_enumZip {X : Cx} {e : Expr} {te : TE} {elts : List Expr} {kk : Nat} {p p0 p2 pos pos0 tpos : Pos} (hg0 : Gl X "enumerate") (hm0 : X.mg "enumerate" = none) (hg : Gl X "zip") (hm : X.mg "zip" = none) (he : PE X e te) (hs : starEach [.Starred e p2] X.env = [(true, eval e X.env)] := by rfl)
    (hs0 : starEach [.Call (.Name "zip" p) [.Starred e p2] [] pos] X.env = [(false, eval (.Call (.Name "zip" p) [.Starred e p2] [] pos) X.env)] := by rfl) :
    PI X (.Tuple elts kk tpos) (.Call (.Name "enumerate" p0) [.Call (.Name "zip" p) [.Starred e p2] [] pos] [] pos0) (iEnumZip X.K te) := by
  refine ⟨fun pins s σ H R I h => ?_⟩
  refine Call_name1 hs0 (ld_blt I hg0 hm0 boot_enumerate (PySem.callWith_type1 ?_))
  refine Call_ (ld_blt I hg hm PyProof.Rows.boot_zip (callWith_tyS (thn (he.run pins s σ H _ I h) fun v s1 ⟨x, H1, I1, r1, q1⟩ => ?_) hs))
  obtain ⟨l, as, rfl, hl, hne, h6, hlists, q⟩ := q1
  obtain rfl : v = Value.ref l := r1
  refine StX.star_lst I1 hl fun us s2 I2 rv => ?_
  have hus := vals_refs rv
  subst hus
  have hcols : ∀ as' : List Addr, (∀ a ∈ as', ∃ xs, SqL X.K H1 a xs) → ∃ cols : List (Array Value), cols.length = as'.length ∧ ∀ (j : Nat) (a : Addr) (xs : Array Value), as'[j]? = some a → cols[j]? = some xs → s2.heap.IsList a xs := by
    intro as'
    induction as' with
    | nil => exact fun _ => ⟨[], rfl, fun j a xs h => by simp at h⟩
    | cons a r ih =>
      intro h
      obtain ⟨cols, h1, h2⟩ := ih fun b m => h b (List.mem_cons_of_mem _ m)
      obtain ⟨xs, hx⟩ := h a List.mem_cons_self
      obtain ⟨its, _, p, _⟩ := I2.list hx
      refine ⟨its.toArray :: cols, by simp [h1], fun j b ys e1 e2 => ?_⟩
      cases j with
      | zero => simp at e1 e2; subst e1 e2; exact p.isList
      | succ j => exact h2 j b ys (by simpa using e1) (by simpa using e2)
  obtain ⟨cols, hc1, hc2⟩ := hcols as hlists
  refine call_zip h6 hc1 hc2 fun h' z TI TO its D hz hTI hTO hil good g1 g2 g3 g4 hch => ?_
  refine call_enum_zip (s := { s2 with heap := h' }) hz fun h'' hen hch2 => wpAny_pyIter_enum hen ?_
  have I3 : Inv X pins σ H1 { s2 with heap := h'' } := I2.kept (t' := s2.toks) fun c o q => hch2 c o (hch c o q)
  have lt : ∀ c o, h'.get? c = some o → c ≠ h'.objs.size := fun c o q => Nat.ne_of_lt (Heap.lt_size q)
  have Pe : Eap h'.objs.size z TI TO its as := by
    refine ⟨Ne.symm (lt _ _ hz), Ne.symm (lt _ _ hTI), fun q => ?_, fun m => ?_, fun m => ?_⟩
    · obtain ⟨kept, hTO, _⟩ := hTO
      exact lt _ _ hTO q.symm
    · obtain ⟨j, hj⟩ := List.getElem?_of_mem m
      obtain ⟨l2, xs, q1, q2, ⟨o, q3, _⟩, _⟩ := good j _ hj
      exact lt _ _ q3 rfl
    · obtain ⟨j, hj⟩ := List.getElem?_of_mem m
      have hj2 := (List.getElem?_eq_some_iff.mp hj).1
      obtain ⟨o, ho, _⟩ := hc2 j _ cols[j] hj (List.getElem?_eq_getElem (by omega))
      exact lt _ _ (hch _ _ ho) rfl
  have hsz : s2.heap.objs.size ≤ h'.objs.size := Nat.le_of_lt (Nat.lt_of_le_of_lt g1 (Heap.lt_size hz))
  refine ⟨h'.objs.size, h'.objs.size :: z :: TI :: TO :: its, _, _, H1, rfl, I3, turn_enumZip D Pe hil hne h6, ⟨⟨.none, hen⟩, ⟨_, _, .inl rfl, hch2 _ _ hz⟩, hch2 _ _ hTI, ?_, fun j p l hj hl' => ?_⟩, fun c hcm => ?_, q⟩
  · obtain ⟨kept, hTO, hk⟩ := hTO
    exact ⟨kept, hch2 _ _ hTO, hk⟩
  · obtain ⟨l2, xs, q1, q2, q3, _⟩ := good j p hj
    rw [hl'] at q1; cases q1
    exact q3.at fun o q => hch2 p o q
  · have e' : c = h'.objs.size ∨ c = z ∨ c = TI ∨ c = TO ∨ c ∈ its := by simpa using hcm
    have hle : s2.heap.objs.size ≤ c := by
      rcases e' with q | q | q | q | q
      · rw [q]; exact hsz
      · rw [q]; exact g1
      · rw [q]; exact g2
      · rw [q]; exact g3
      · exact g4 c q
    exact I2.fpOk hle (I2.hok.fresh hle)
end ZE
namespace DL
open PySem PySem.Spec PyProof.Rows L2
open Evl (Ex)
open ZE (ItzE iEnumZip pi_enumZip)
section
variable {K : PySem.W.Frag} {B : Hp}
theorem itzE_ok {as : List Addr} {xss : List (List V)} {rs : List (List D)} {n : Nat} (h : Rws K B as xss rs) (hne : rs ≠ []) (hn : ∀ r ∈ rs, r.length = n) : ItOk K B (ItzE K as) (enumD (colsD rs n)) := by
  refine fun i H' e => ⟨fun d hd => ?_, fun hl => ?_⟩
  · unfold enumD at hd
    rw [List.getElem?_mapIdx, Option.map_eq_some_iff] at hd
    obtain ⟨d', hd, rfl⟩ := hd
    have hi : i < n := by
      have := (List.getElem?_eq_some_iff.mp hd).1
      unfold colsD at this
      simpa using this
    obtain ⟨row, h1, h2⟩ := h.cols hi e hn
    refine ⟨⟨row, h1⟩, fun x H'' y => ?_⟩
    obtain ⟨T, T2, row', rfl, nT, nT2, rfl, u⟩ := y
    have := u row h1
    subst this
    refine ⟨(Evl.Ex.new nT).trans (Evl.Ex.new nT2), fun B2 e2 e3 => ?_⟩
    unfold colsD at hd
    rw [List.getElem?_map, List.getElem?_range hi] at hd
    cases hd
    have hTT : T ≠ T2 := fun q => by subst q; rw [upd_same] at nT2; cases nT2
    refine .tup (e3 _ _ (stb_tup upd_same)) (.cons (.int _) (.cons (.tup (e3 _ _ (stb_tup ?_)) (h2.mono e2)) .nil))
    rw [upd_ne hTT]; exact upd_same
  · cases h with
    | nil => exact absurd rfl hne
    | cons h t r =>
      rename_i ds as' xss' dss
      refine ⟨_, _, _, rfl, SqL.of (e _ _ h), ?_⟩
      rw [t.len, hn ds List.mem_cons_self]
      unfold enumD colsD at hl
      simpa using hl
end
section
variable {X : Cx} {e : Expr} {ma : ME} {p p0 p2 pos pos0 tpos : Pos} {elts : List Expr} {kk : Nat}
def mEnumZip (m : ME) : MI := fun ρ => match mZipN m ρ with
  | some (f, items) => some (f, enumD items)
  | none => none
theorem xi_enumZip (hg0 : Gl X "enumerate") (hm0 : X.mg "enumerate" = none) (hg : Gl X "zip") (hm : X.mg "zip" = none) (he : XE X e ma) (hs : starEach [.Starred e p2] X.env = [(true, eval e X.env)] := by rfl)
    (hs0 : starEach [.Call (.Name "zip" p) [.Starred e p2] [] pos] X.env = [(false, eval (.Call (.Name "zip" p) [.Starred e p2] [] pos) X.env)] := by rfl) :
    XI X (.Tuple elts kk tpos) (.Call (.Name "enumerate" p0) [.Call (.Name "zip" p) [.Starred e p2] [] pos] [] pos0) (mEnumZip ma) := by
  obtain ⟨t, pt, s⟩ := he
  refine ⟨_, pi_enumZip hg0 hm0 hg hm pt hs hs0, fun G H σ ρ fp fx items Q R hm q => ?_⟩
  unfold mEnumZip mZipN at hm
  split at hm
  rotate_left
  · cases hm
  rename_i f0 items0 hm0'
  cases hm
  split at hm0'
  rotate_left
  · cases hm0'
  rename_i r e1
  split at hm0'
  rotate_left
  · cases hm0'
  rename_i ds e2
  split at hm0'
  rotate_left
  · cases hm0'
  rename_i r0 rs e3
  split at hm0'
  rotate_left
  · cases hm0'
  rename_i hc
  obtain ⟨hc5, hcl⟩ := hc
  cases hm0'
  refine s G H σ ρ fp r _ R e1 fun v F H1 x1 o1 => ?_
  have w := ROk.wall R.ls x1 o1
  have d := o1.data
  rw [e2, rows?_some e3] at w d
  cases w with
  | lst h0 t0 =>
    cases d with
    | lst h1 t1 =>
      rename_i a xs ys
      have e4 : Ex (wallOf r.fixed H1 fp) H1 := by
        cases r.fixed with
        | true => rw [wall_t]; exact hid_ex
        | false => rw [wall_f]; exact Evl.Ex.refl H1
      obtain ⟨as, xss, rfl, hr⟩ := Rws.of t0
      have hlen := hr.len
      refine ⟨a, as, rfl, SqL.of (e4 _ _ h0), fun z => ?_, ?_, fun b m => ?_, q _ H1 x1 (itzE_ok hr (fun z => by cases z) fun x m => ?_)⟩
      · subst z; simp at hlen
      · simp at hlen; omega
      · obtain ⟨xs, hx⟩ := hr.lists b m; exact ⟨xs, Evl.ex_l e4 hx⟩
      · rcases List.mem_cons.mp m with z | m
        · rw [z]
        · exact of_decide_eq_true (List.all_eq_true.mp hcl x m)
end
end DL

set_option Elab.async false
set_option linter.all false
set_option maxRecDepth 100000
set_option maxHeartbeats 4000000
/-! extend by a tuple; sorted of texts. -/
namespace PySem
open Sem (wp)
open AutoSeq1 (wpAny_loadPart')
theorem extend_tuple_any (l : Addr) (items : Array Value) (n : Nat) (b : Addr) (items2 : Array Value) (n2 : Nat) (dct : Option Addr) (sl : Array (Option Value)) (hs0 : ¬(!items.isEmpty && Builtin.List.listTooLong (items.size + items2.size)) = true) (hs1 : items.size ≤ sizeLine) (hs2 : items.size + items2.size ≤ sizeLine + 1) :
    Meets (Builtin.«list.extend» ⟨[.ref l, .ref b], []⟩) (fun _ R s => s.heap.get? l = some { cls := .type "list", dict := none, data := .seq items n, slots := #[] } ∧ s.heap.get? b = some { cls := .type "tuple", dict := dct, data := .seq items2 n2, slots := sl } ∧ R (.ok (.ret Value.none)) { s with heap := s.heap.update l (Obj.mapSeq fun x => x ++ items2), toks := s.toks }) :=
  .of_wp fun prog w A R s h => by
    obtain ⟨hp, g, d, tk, os⟩ := s; obtain ⟨hl, hb, h⟩ := h; have f1 := AutoSeq1.idx_int; have f2 := AutoSeq1.sub_tuple_tuple; have f3 := AutoSeq1.sub_list_list; have f4 := AutoSeq1.sub_tuple_list; have f5 := AutoSeq1.sub_list_tuple;
    have hz' : (items ++ items2).size ≤ sizeLine + 1 := by rw [Array.size_append]; exact hs2
    wp_walk using (wpAny_updateSeq hl rfl (hz := hs1) (_hz' := hz')), wpAny_loadPart' hl, wpAny_loadPart' hb; exact ⟨_, rfl, h⟩
end PySem
namespace L2
open PySem PySem.Spec PyProof.Rows
def rExtendT : V → List V → Hp → VK → Prop := fun x vs H Q => ∃ l b xs zs, x = .ref l ∧ vs = [.ref b] ∧ H l = some (.lst xs) ∧ H b = some (.tup zs) ∧ xs.length + zs.length ≤ sizeLine ∧ Q .non (upd H l (.lst (xs ++ zs)))
theorem mt_extendT {X : Cx} : MtM X "list.extend" rExtendT := by
  intro pins s σ H x vs v us Q I rx rv h
  obtain ⟨l, b, xs, zs, rfl, rfl, hH, hB, hz, q⟩ := h
  cases rx
  obtain ⟨u, rfl, ru⟩ := rv.one
  cases ru
  obtain ⟨z, its, n, r, hl, e⟩ := I.lstM hH
  obtain ⟨z2, its2, r2, o, e2, hc, n2, hd⟩ := I.hok b _ hB
  obtain ⟨c, dct, dt, sl⟩ := o
  replace hc : c = .type "tuple" := hc
  replace hd : dt = .seq its2.toArray n2 := hd
  subst hc hd
  have hl2 := r2.length
  have hsz : its.toArray.size + its2.toArray.size ≤ sizeLine := by rw [List.size_toArray, List.size_toArray]; omega
  have hlong : ¬ (!its.toArray.isEmpty && Builtin.List.listTooLong (its.toArray.size + its2.toArray.size)) = true := by
    rw [notLongL hsz, Bool.and_false]
    exact Bool.false_ne_true
  refine call_meets F.slot_list_extend ⟨_, e, rfl⟩ F.entry_list_extend (F.args_list_extend_2 _ _)
    (PySem.extend_tuple_any l its.toArray n b its2.toArray n2 dct sl hlong (by rw [List.size_toArray]; omega) (by omega)) ⟨e, e2, ?_⟩
  refine ⟨.non, _, I.lset (its' := its ++ its2) hH e (by simp) (r.append r2) ?_, rfl, q⟩
  rw [List.length_append]
  omega
end L2
namespace DL
open PySem PySem.Spec PyProof.Rows L2
open Evl (Ex)
section
variable {X : Cx} {W : XK} {o e : Expr} {ma me : ME} {mp : MP} {pos apos cpos : Pos} {x n : Str}
/-! ### xs.extend(t), t a tuple of what can't change -/
def mExtendT (mp : MP) (me : ME) : MS := fun ρ => match mp ρ, me ρ with
  | some (i, p), some r => match ρ[i]?, r.data with
    | some (.tr s), .tup ds => match S.get p s with
      | some (.own ss) => if immL ds = true ∧ ss.length + ds.length ≤ 100000 then some (.nx ((killVw ρ).set i (.tr (S.put (.own (ss ++ ds.map .d)) p s)))) else none
      | _ => none
    | _, _ => none
  | _, _ => none
theorem xs_extendT (ho : XP X o mp) (he : XE X e ma)
    (hbase : attributeBase o "extend" X.env (eval o X.env) = eval o X.env := by rfl)
    (hfew : ((backTo cpos (starEach (e :: []) X.env)).all (fun x => !x.1) && (backToKw cpos (keywordEach [] X.env)).all (fun x => x.1.isSome)
      && decide ((e :: ([] : List Expr)).length + ([] : List Keyword).length + (if ([] : List Keyword).isEmpty then 0 else 1) < 30)) = true := by rfl)
    (hline : (apos.endLine == cpos.line) = true := by rfl) (hs : starEach (e :: []) X.env = (false, eval e X.env) :: starEach [] X.env := by rfl) (hplain : (backTo cpos (starEach [] X.env)).any (·.1) = false := by rfl)
    (hsw : swapsWith (.Call (.Attribute o "extend" apos) [e] [] cpos) none pos.line X.env = pure false := by rfl) : XS X W (.Expr (.Call (.Attribute o "extend" apos) [e] [] cpos) pos) (mExtendT mp ma) := by
  obtain ⟨to, po, so⟩ := ho
  obtain ⟨te, pe, se⟩ := he
  refine ⟨_, ps_expr (pe_bm PySem.F.plainAttrs_list PySem.F.slot_list_extend PySem.F.type_list_extend mt_extendT po (pa_cons pe pa_nil hs) hbase hfew hline hs hplain) hsw, fun G H σ ρ fp oo D R hm q => ?_⟩
  unfold mExtendT at hm
  split at hm
  rotate_left
  · cases hm
  rename_i i p r e1 e2
  split at hm
  rotate_left
  · cases hm
  rename_i s ds e3 e4
  split at hm
  rotate_left
  · cases hm
  rename_i ss e5
  split at hm
  rotate_left
  · cases hm
  rename_i hl
  cases hm
  refine so G H σ ρ fp i p _ R e1 fun v a H1 s' ss' g1 g2 g3 x1 at1 => ?_
  rw [e3] at g1; cases g1
  have R1 := R.grow x1
  obtain ⟨v', h1, h2⟩ := R1.sl i _ e3
  rw [g3] at h1; cases h1
  obtain ⟨vs1, Fa1, ha1, hL1, _⟩ := h2.mut at1 e5
  refine ⟨.inl ⟨rfl, _, SqL.of ha1⟩, ?_⟩
  refine se G H1 σ ρ fp r _ R1 e2 fun w F H2 x2 o2 => ?_
  obtain ⟨vs2, Fa2, ha2, hL2, hn2, hsub2, hai, hmut⟩ := R1.mutate x2 e3 g3 (at1.mono x2) e5
  have z := o2.data
  rw [e4] at z
  cases z with
  | tup hb hd =>
    rename_i b zs
    refine ⟨a, b, vs2, zs, rfl, rfl, ha2, hb, ?_, ?_⟩
    · rw [← hL2.len, hd.len]; exact Evl.sz_of hl.2
    · have es : Ex (stb H2) (stb (upd H2 a (.lst (vs2 ++ zs)))) := stb_upd ha2
      have hd2 : DtL X.K (stb (upd H2 a (.lst (vs2 ++ zs)))) zs ds := (hd.stb hl.1).mono es
      have r1 : RepL X.K (upd H2 a (.lst (vs2 ++ zs))) (ss ++ ds.map .d) (vs2 ++ zs) (Fa2 ++ []) :=
        (hL2.keep ⟨es, fun b m u h => by rw [upd_ne (by rintro rfl; exact hn2 m)]; exact h⟩).append (RepL.leaves hd2) fun _ _ m => by cases m
      obtain ⟨fp', R'⟩ := hmut _ _ _ r1 (fun z => hn2 (by simpa using z)) (fun b m => .inl (by simpa using m))
      exact q _ _ fp' R'
end
/-! ### sorted of texts -/
def leS (a b : Str) : Bool := !strKind.blt b.cps.toList a.cps.toList
theorem leS_iff {a b : Str} : leS a b = true ↔ strKind.blt b.cps.toList a.cps.toList = false := by unfold leS; cases strKind.blt b.cps.toList a.cps.toList <;> simp
theorem leS_trans (a b c : Str) (h1 : leS a b = true) (h2 : leS b c = true) : leS a c = true := by
  rw [leS_iff] at *
  cases h : strKind.blt c.cps.toList a.cps.toList with
  | false => rfl
  | true =>
    rcases strKind.negTrans _ b.cps.toList _ h with q | q
    · rw [q] at h2; cases h2
    · rw [q] at h1; cases h1
theorem leS_total (a b : Str) : (leS a b || leS b a) = true := by
  unfold leS
  cases h : strKind.blt b.cps.toList a.cps.toList with
  | false => rfl
  | true =>
    cases h2 : strKind.blt a.cps.toList b.cps.toList with
    | false => rfl
    | true =>
      have := strKind.trans _ _ _ h h2
      rw [strKind.irrefl] at this; cases this
theorem leS_anti {a b : Str} (h1 : leS a b = true) (h2 : leS b a = true) : a = b := str_eq (strKind.total _ _ (leS_iff.mp h2) (leS_iff.mp h1))
def srtS (xs : List Str) : List Str := xs.mergeSort leS
theorem srtS_perm (xs : List Str) : (srtS xs).Perm xs := List.mergeSort_perm _ _
theorem srtS_pw (xs : List Str) : (srtS xs).Pairwise fun a b => leS a b = true := List.pairwise_mergeSort leS_trans leS_total xs
theorem srtS_uniq {l xs : List Str} (h : l.Pairwise fun a b => leS a b = true) (p : l.Perm xs) : l = srtS xs :=
  List.Perm.eq_of_pairwise (fun a b _ _ h1 h2 => leS_anti h1 h2) h (srtS_pw xs) (p.trans (srtS_perm xs).symm)
theorem risingS_pw : ∀ (p : Str) (r : List Str), risingS p r = true → (p :: r).Pairwise fun a b => leS a b = true
  | p, [], _ => List.pairwise_singleton _ _
  | p, x :: r, h => by
    unfold risingS at h
    rw [Bool.and_eq_true] at h
    have hx : leS p x = true := by
      unfold leS
      show (!decide (x.cps.toList < p.cps.toList)) = true
      rw [← ltCps_eq]; exact h.1
    have ih := risingS_pw x r h.2
    refine List.pairwise_cons.mpr ⟨fun y m => ?_, ih⟩
    rcases List.mem_cons.mp m with rfl | m
    · exact hx
    · exact leS_trans _ _ _ hx ((List.pairwise_cons.mp ih).1 y m)
theorem sortedS_pw {r : List Str} (h : sortedS r = true) : r.Pairwise fun a b => leS a b = true := by
  cases r with
  | nil => exact List.Pairwise.nil
  | cons x r => exact risingS_pw x r h
def strsD : List D → Option (List Str)
  | [] => some []
  | .str x :: ds => (strsD ds).map (x :: ·)
  | _ => none
theorem strsD_some : ∀ {ds : List D} {xs : List Str}, strsD ds = some xs → ds = xs.map D.str := by
  intro ds
  induction ds with
  | nil => intro xs h; cases h; rfl
  | cons d ds ih =>
    intro xs h
    unfold strsD at h
    split at h
    · rename_i e; cases e
    · rename_i x ds' e
      obtain ⟨rfl, rfl⟩ := List.cons.inj e
      rw [Option.map_eq_some_iff] at h
      obtain ⟨m, h1, rfl⟩ := h
      rw [ih h1]; rfl
    · cases h
@[simp] theorem strsD_map (xs : List Str) : strsD (xs.map D.str) = some xs := by
  induction xs with
  | nil => rfl
  | cons x r ih => simp [strsD, ih]
theorem strs_vals {K : PySem.W.Frag} {H : Hp} : ∀ {vs : List V} {xs : List Str}, DtL K H vs (xs.map D.str) → vs = xs.map V.str
  | _, [], h => by cases h; rfl
  | _, x :: xs, h => by
    cases h with
    | cons h1 t => cases h1; rw [strs_vals t]; rfl
theorem dtL_strs {K : PySem.W.Frag} {H : Hp} : ∀ xs : List Str, DtL K H (xs.map V.str) (xs.map D.str)
  | [] => .nil
  | x :: xs => .cons (.str x) (dtL_strs xs)
def gSortS : List D → Option R
  | [.lst ds] => match strsD ds with
    | some xs => if xs.length < 64 then some (newL ((srtS xs).map .str)) else none
    | none => none
  | _ => none
theorem ok_sortS {K : PySem.W.Frag} : CallOk K (rSortedS K) gSortS := by
  intro H H1 fp vs ds z Q h ls ex hz q
  unfold gSortS at hz
  split at hz
  · rename_i ds
    split at hz
    · rename_i xs e
      split at hz
      · rename_i hl; cases hz
        have := strsD_some e
        subst this
        cases h with
        | cons h1 t =>
          cases t
          cases h1 with
          | lst h2 t2 =>
            cases strs_vals t2
            refine ⟨_, xs, rfl, SqL.of h2, hl, fun ys p pm so hp => ?_⟩
            rw [srtS_uniq (sortedS_pw so) pm]
            obtain ⟨F, o⟩ := newL_ok (fp := fp) hp ex (dtL_strs (srtS xs))
            exact q _ F _ (Evl.Ex.new hp) o
      · cases hz
    · cases hz
  · cases hz
end DL

set_option Elab.async false
set_option linter.all false
set_option maxRecDepth 100000
set_option maxHeartbeats 4000000
/-! itertools.combinations(xs, 2): facts, its turns. -/
namespace PySem.F
theorem owner_combs : Manifest.owners.lookup (String.ofList ['s','n','o','i','t','a','n','i','b','m','o','c','.','s','l','o','o','t','r','e','t','i'].reverse) = some Manifest.sig_itertools_combinations := by kernel_rfl
theorem slot_combs_next : Slot "itertools.combinations" "__next__" "itertools.combinations.__next__" :=
  .of (owner := "itertools.combinations") (n := "__next__") (by rw [typeLookup_type, builtinLookup_eq_fast]; kernel_rfl) (by decide +kernel) (by decide +kernel) (by decide +kernel)
    (by first | exact .inl (by decide +kernel) | exact .inr (by decide +kernel)) (by rw [isSubtype_type]; kernel_rfl)
theorem entry_combs_next : entryFor table "itertools.combinations.__next__" = some Builtin.«itertools.combinations.__next__» := entryFor_of_tree (by kernel_rfl)
theorem args_combs_next_1 (a : Value) : argsOk "itertools.combinations.__next__" ⟨[a], []⟩ := by
  unfold argsOk; rw [signature?_of (id := "itertools.combinations.__next__") (n := ['_', '_', 't', 'x', 'e', 'n', '_', '_']) (o := ['s','n','o','i','t','a','n','i','b','m','o','c','.','s','l','o','o','t','r','e','t','i']) (by kernel_rfl) owner_combs]; kernel_rfl
theorem slot_combs_iter : Slot "itertools.combinations" "__iter__" "itertools.combinations.__iter__" :=
  .of (owner := "itertools.combinations") (n := "__iter__") (by rw [typeLookup_type, builtinLookup_eq_fast]; kernel_rfl) (by decide +kernel) (by decide +kernel) (by decide +kernel)
    (by first | exact .inl (by decide +kernel) | exact .inr (by decide +kernel)) (by rw [isSubtype_type]; kernel_rfl)
theorem entry_combs_iter : entryFor table "itertools.combinations.__iter__" = some Builtin.«dict_keyiterator.__iter__» :=
  entryFor_alias (id' := "dict_keyiterator.__iter__") (by kernel_rfl) (by first | rfl | decide +kernel | (unfold String.splitOn; simp +decide [String.splitOnAux])) (by decide +kernel) (by kernel_rfl)
theorem args_combs_iter_1 (a : Value) : argsOk "itertools.combinations.__iter__" ⟨[a], []⟩ := by
  unfold argsOk; rw [signature?_of (id := "itertools.combinations.__iter__") (n := ['_', '_', 'r', 'e', 't', 'i', '_', '_']) (o := ['s','n','o','i','t','a','n','i','b','m','o','c','.','s','l','o','o','t','r','e','t','i']) (by kernel_rfl) owner_combs]; kernel_rfl
theorem entry_combs_new : entryFor table "itertools.combinations.__new__" = some Builtin.«itertools.combinations.__new__» := entryFor_of_tree (by kernel_rfl)
theorem typeCall_combs (a b : Value) : checkTypeCall "itertools.combinations" ⟨[a, b], []⟩ = pure () := by kernel_rfl
theorem newCall_combs (a b : Value) : checkBuiltinCall "itertools.combinations.__new__" ⟨[.type "itertools.combinations", a, b], []⟩ = pure () := by kernel_rfl
theorem sub_combs : isSubtype (.type "itertools.combinations") (.type "itertools.combinations") = pure true := by rw [isSubtype_type]; kernel_rfl
theorem mro_combs : mroOf (.type "itertools.combinations") = pure [.type "itertools.combinations", .type "object"] := by rw [mroOf_type]; kernel_rfl
theorem lookup_combs_new : typeLookup (.type "itertools.combinations") "__new__" = pure (some (.builtin "itertools.combinations.__new__")) := by rw [typeLookup_type, builtinLookup_eq_fast]; kernel_rfl
theorem slot_combs_init : Slot "itertools.combinations" "__init__" "object.__init__" :=
  .of (owner := "object") (n := "__init__") (by rw [typeLookup_type, builtinLookup_eq_fast]; kernel_rfl) (by decide +kernel) (by decide +kernel) (by decide +kernel)
    (by first | exact .inl (by decide +kernel) | exact .inr (by decide +kernel)) (by rw [isSubtype_type]; kernel_rfl)
theorem called_combs : TypeCalled "itertools.combinations" "itertools.combinations.__new__" "object.__init__" :=
  ⟨by decide +kernel, by decide +kernel, ⟨_, _, mro_combs⟩, madeBy_type mro_combs lookup_combs_new (by decide +kernel), by decide +kernel, by rw [isSubtype_type]; kernel_rfl, slot_combs_init⟩
end PySem.F

set_option Elab.async false
set_option linter.all false
set_option maxRecDepth 100000
set_option maxHeartbeats 4000000
namespace ZC
open PySem PySem.Spec PyProof.Rows
open Sem (wp)
open ZN (IsTu)
/-- how the places go on -/
def stp (n : Nat) (indices : List Nat) : Option (List Nat) :=
  let r := indices.length
  match (List.range r).reverse.find? fun i => indices.getD i 0 != i + n - r with
  | none => none
  | some i => some (indices.take i ++ (List.range (r - i)).map (indices.getD i 0 + 1 + ·))
/-- the pairs of places -/
def prs (n : Nat) : List (Nat × Nat) := (List.range n).flatMap fun a => (List.range (n - 1 - a)).map fun k => (a, a + 1 + k)
def nxOk (n i : Nat) : Bool := match (prs n)[i]?, (prs n)[i + 1]? with
  | some p, some q => stp n [p.1, p.2] == some [q.1, q.2]
  | some p, none => stp n [p.1, p.2] == none
  | none, _ => true
theorem nx_all : ∀ n, n ≤ 6 → ∀ i, i < 15 → nxOk n i = true := by decide +kernel
theorem prs_len : ∀ n, n ≤ 6 → (prs n).length ≤ 15 := by decide +kernel
theorem prs_lt : ∀ n, n ≤ 6 → ∀ p ∈ prs n, p.1 < n ∧ p.2 < n := by decide +kernel
theorem prs_first : ∀ n, n ≤ 6 → 2 ≤ n → (prs n)[0]? = some (0, 1) := by decide +kernel
theorem prs_none : ∀ n, n ≤ 6 → n < 2 → prs n = [] := by decide +kernel
theorem nx_some {n i : Nat} (hn : n ≤ 6) {p q : Nat × Nat} (h1 : (prs n)[i]? = some p) (h2 : (prs n)[i + 1]? = some q) : stp n [p.1, p.2] = some [q.1, q.2] := by
  have hi : i < 15 := Nat.lt_of_lt_of_le (List.getElem?_eq_some_iff.mp h1).1 (prs_len n hn)
  have := nx_all n hn i hi
  unfold nxOk at this
  rw [h1, h2] at this
  simpa using this
theorem nx_none {n i : Nat} (hn : n ≤ 6) {p : Nat × Nat} (h1 : (prs n)[i]? = some p) (h2 : (prs n)[i + 1]? = none) : stp n [p.1, p.2] = none := by
  have hi : i < 15 := Nat.lt_of_lt_of_le (List.getElem?_eq_some_iff.mp h1).1 (prs_len n hn)
  have := nx_all n hn i hi
  unfold nxOk at this
  rw [h1, h2] at this
  simpa using this
abbrev IsC (h : Heap) (c p : Addr) (st : Int) (f2 : Value) (a b : Nat) : Prop :=
  h.get? c = some { cls := .type "itertools.combinations", dict := none, data := .fields #[.ref p, rawInt st, f2, rawInt a, rawInt b], slots := #[] }
section
variable {prog : Program} {w : World} {A : Around} {E : Value → Shared → Prop} {s : Shared}
theorem next_first {c p : Addr} {its : List Value} {f2 : Value} {a b : Nat} {x y : Value} {Q : Value → Shared → Prop} (hcp : c ≠ p) (hc : IsC s.heap c p 0 f2 a b) (hp : IsTu s.heap p its) (hx : its[a]? = some x) (hy : its[b]? = some y)
    (hQ : ∀ h' f2', IsC h' c p 1 f2' a b → IsTu h' s.heap.objs.size [x, y] → h'.objs.size = s.heap.objs.size + 1 → (∀ d o, d ≠ c → s.heap.get? d = some o → h'.get? d = some o) → Q (.ref s.heap.objs.size) { s with heap := h' }) :
    wpAny (model prog w) A (Builtin.«itertools.combinations.__next__» ⟨[.ref c], []⟩) (fun fin s' => ∃ v, fin = .done (.ret v) ∧ Q v s') E s := by
  obtain ⟨hp0, g, d, tk, os⟩ := s
  show wpAny _ _ (field (.ref c) 0 >>= _) _ _ _
  refine wpAny_bind (wpAny_field hc rfl (x := .ref p) rfl ?_)
  show wpAny _ _ (Builtin.Itertools.itNumbersFrom (.ref c) 3 >>= _) _ _ _
  refine wpAny_bind ?_
  unfold Builtin.Itertools.itNumbersFrom
  refine wpAny_bind (wpAny_load hc (wpAny_pure ?_))
  show wpAny _ _ (Builtin.Itertools.itIntField (.ref c) 1 >>= _) _ _ _
  refine wpAny_bind ?_
  unfold Builtin.Itertools.itIntField
  refine wpAny_bind (wpAny_field hc rfl (x := rawInt 0) rfl (wpAny_pure ?_))
  show wpAny _ _ (setField (.ref c) 1 (rawInt 1) >>= _) _ _ _
  refine wpAny_bind (wpAny_setField_rec hc (by simp) fun h₁ hc₁ hs₁ => ?_)
  replace hc₁ : IsC h₁ c p 1 f2 a b := hc₁
  have hp₁ : IsTu h₁ p its := (hs₁.2 p (Ne.symm hcp)).trans hp
  refine wpAny_bind ?_
  refine wpAny_bind ?_
  unfold Builtin.Itertools.itPoolItems
  refine wpAny_bind (wpAny_seqItems hp₁ rfl (wpAny_pure ?_))
  have hpk : ([a, b].map fun i => its.toArray.getD i .none) = [x, y] := by
    simp [Array.getD_eq_getD_getElem?, hx, hy]
  show wpAny _ _ (newTuple ([a, b].map fun i => its.toArray.getD i .none)) _ _ _
  rw [hpk]
  refine wpAny_newTuple ?_ (by show 2 ≤ sizeLine; decide)
  have hsz : h₁.objs.size = hp0.objs.size := hs₁.1
  have hcl : c < h₁.objs.size := Heap.lt_size hc₁
  have hc₂ : IsC (h₁.push { cls := .type "tuple", data := .seq #[x, y] }) c p 1 f2 a b := Heap.get?_push_of_some _ hc₁
  have ht₂ : (h₁.push { cls := .type "tuple", data := .seq #[x, y] }).get? h₁.objs.size = some { cls := .type "tuple", data := .seq #[x, y] } := Heap.get?_push_size _ rfl
  show wpAny _ _ (field (.ref c) 2 >>= _) _ _ _
  refine wpAny_bind (wpAny_field hc₂ rfl (x := f2) rfl ?_)
  refine wpAny_bind (wpAny_setField_rec hc₂ (by simp) fun h₃ hc₃ hs₃ => ?_)
  replace hc₃ : IsC h₃ c p 1 (.ref h₁.objs.size) a b := hc₃
  refine wpAny_bind (wpAny_letGo (wpAny_pure ⟨_, rfl, ?_⟩))
  show Q (.ref h₁.objs.size) _
  rw [hsz] at hc₃ ht₂ ⊢
  refine hQ h₃ _ hc₃ ?_ ?_ fun e o he q => hs₃.extBut e o he (Heap.get?_push_of_some _ (hs₁.extBut e o he q))
  · exact hs₃.extBut _ _ (by rw [← hsz]; exact Nat.ne_of_gt hcl) ht₂
  · rw [hs₃.1, Heap.size_push, hsz]
theorem next_more {c p : Addr} {its : List Value} {f2 : Value} {a b a' b' : Nat} {x y : Value} {Q : Value → Shared → Prop} (hcp : c ≠ p) (hc : IsC s.heap c p 1 f2 a b) (hp : IsTu s.heap p its) (hst : stp its.length [a, b] = some [a', b']) (hx : its[a']? = some x) (hy : its[b']? = some y)
    (hQ : ∀ h' f2', IsC h' c p 1 f2' a' b' → IsTu h' s.heap.objs.size [x, y] → h'.objs.size = s.heap.objs.size + 1 → (∀ d o, d ≠ c → s.heap.get? d = some o → h'.get? d = some o) → Q (.ref s.heap.objs.size) { s with heap := h' }) :
    wpAny (model prog w) A (Builtin.«itertools.combinations.__next__» ⟨[.ref c], []⟩) (fun fin s' => ∃ v, fin = .done (.ret v) ∧ Q v s') E s := by
  obtain ⟨hp0, g, d, tk, os⟩ := s
  show wpAny _ _ (field (.ref c) 0 >>= _) _ _ _
  refine wpAny_bind (wpAny_field hc rfl (x := .ref p) rfl ?_)
  show wpAny _ _ (Builtin.Itertools.itNumbersFrom (.ref c) 3 >>= _) _ _ _
  refine wpAny_bind ?_
  unfold Builtin.Itertools.itNumbersFrom
  refine wpAny_bind (wpAny_load hc (wpAny_pure ?_))
  show wpAny _ _ (Builtin.Itertools.itIntField (.ref c) 1 >>= _) _ _ _
  refine wpAny_bind ?_
  unfold Builtin.Itertools.itIntField
  refine wpAny_bind (wpAny_field hc rfl (x := rawInt 1) rfl (wpAny_pure ?_))
  show wpAny _ _ (Builtin.Itertools.itPoolItems (.ref p) >>= _) _ _ _
  refine wpAny_bind ?_
  unfold Builtin.Itertools.itPoolItems
  refine wpAny_bind (wpAny_seqItems hp rfl (wpAny_pure ?_))
  have hz : its.toArray.size = its.length := List.size_toArray ..
  show wpAny _ _ (match stp its.toArray.size [a, b] with
    | some next => _
    | none => _) _ _ _
  rw [hz, hst]
  show wpAny _ _ (Builtin.Itertools.itSetNumbersFrom (.ref c) 3 [a', b'] >>= _) _ _ _
  refine wpAny_bind ?_
  unfold Builtin.Itertools.itSetNumbersFrom
  refine wpAny_updateFields hc rfl ?_ (by show 5 ≤ sizeLine + 3; decide)
  have hs₁ : Heap.SameBut c hp0 (hp0.update c (Obj.mapFields fun fs => fs.extract 0 3 ++ ([a', b'].map fun (n : Nat) => rawInt n).toArray)) := Heap.SameBut.update ..
  have hc₁ : IsC (hp0.update c (Obj.mapFields fun fs => fs.extract 0 3 ++ ([a', b'].map fun (n : Nat) => rawInt n).toArray)) c p 1 f2 a' b' := by
    exact (Heap.get?_update_self _ hc rfl).trans rfl
  generalize hp0.update c (Obj.mapFields fun fs => fs.extract 0 3 ++ ([a', b'].map fun (n : Nat) => rawInt n).toArray) = h₁ at hs₁ hc₁ ⊢
  have hp₁ : IsTu h₁ p its := (hs₁.2 p (Ne.symm hcp)).trans hp
  refine wpAny_bind ?_
  refine wpAny_bind ?_
  unfold Builtin.Itertools.itPoolItems
  refine wpAny_bind (wpAny_seqItems hp₁ rfl (wpAny_pure ?_))
  have hpk : ([a', b'].map fun i => its.toArray.getD i .none) = [x, y] := by
    simp [Array.getD_eq_getD_getElem?, hx, hy]
  show wpAny _ _ (newTuple ([a', b'].map fun i => its.toArray.getD i .none)) _ _ _
  rw [hpk]
  refine wpAny_newTuple ?_ (by show 2 ≤ sizeLine; decide)
  have hsz : h₁.objs.size = hp0.objs.size := hs₁.1
  have hcl : c < h₁.objs.size := Heap.lt_size hc₁
  have hc₂ : IsC (h₁.push { cls := .type "tuple", data := .seq #[x, y] }) c p 1 f2 a' b' := Heap.get?_push_of_some _ hc₁
  have ht₂ : (h₁.push { cls := .type "tuple", data := .seq #[x, y] }).get? h₁.objs.size = some { cls := .type "tuple", data := .seq #[x, y] } := Heap.get?_push_size _ rfl
  show wpAny _ _ (field (.ref c) 2 >>= _) _ _ _
  refine wpAny_bind (wpAny_field hc₂ rfl (x := f2) rfl ?_)
  refine wpAny_bind (wpAny_setField_rec hc₂ (by simp) fun h₃ hc₃ hs₃ => ?_)
  replace hc₃ : IsC h₃ c p 1 (.ref h₁.objs.size) a' b' := hc₃
  refine wpAny_bind (wpAny_letGo (wpAny_pure ⟨_, rfl, ?_⟩))
  show Q (.ref h₁.objs.size) _
  rw [hsz] at hc₃ ht₂ ⊢
  refine hQ h₃ _ hc₃ ?_ ?_ fun e o he q => hs₃.extBut e o he (Heap.get?_push_of_some _ (hs₁.extBut e o he q))
  · exact hs₃.extBut _ _ (by rw [← hsz]; exact Nat.ne_of_gt hcl) ht₂
  · rw [hs₃.1, Heap.size_push, hsz]
theorem stop_ok {α : Type} {Q : α → Shared → Prop} (hh : A.handled = none) (hE : ∀ h' e, (∀ d o, s.heap.get? d = some o → h'.get? d = some o) → (∃ o, h'.get? e = some o ∧ o.cls = .type "StopIteration") → E (.ref e) { s with heap := h' }) :
    wpAny (model prog w) A (Builtin.Itertools.itStop : Sem α) Q E s := by
  unfold Builtin.Itertools.itStop
  show wpAny _ _ (newExc (.type "StopIteration") [] >>= _) _ _ _
  refine wpAny_bind ?_
  simp only [newExc, newTuple]
  refine wpAny_bind (wpAny_newObj_type ?_ (by size_fits))
  refine wpAny_bind (m := firstArgMember _ _) (wpAny_of_eq (a := Value.none) (by first | rfl | (simp only [firstArgMember]; rfl)) ?_)
  refine wpAny_newObj_type ?_ (by size_fits)
  simp only [raiseNew]
  refine wpAny_bind (wpAny_handled ?_)
  rw [hh]
  refine wpAny_bind (wpAny_pure (wpAny_throw ?_))
  exact hE _ _ (fun d o q => Heap.get?_push_of_some _ (Heap.get?_push_of_some _ q)) ⟨_, Heap.get?_push_size _ rfl, rfl⟩
theorem next_end {c p : Addr} {its : List Value} {f2 : Value} {a b : Nat} {Q : Fin → Shared → Prop} (hh : A.handled = none) (hc : IsC s.heap c p 1 f2 a b) (hp : IsTu s.heap p its) (hst : stp its.length [a, b] = none)
    (hE : ∀ h' e, (∀ d o, d ≠ c → s.heap.get? d = some o → h'.get? d = some o) → (∃ o, h'.get? e = some o ∧ o.cls = .type "StopIteration") → E (.ref e) { s with heap := h' }) :
    wpAny (model prog w) A (Builtin.«itertools.combinations.__next__» ⟨[.ref c], []⟩) Q E s := by
  obtain ⟨hp0, g, d, tk, os⟩ := s
  show wpAny _ _ (field (.ref c) 0 >>= _) _ _ _
  refine wpAny_bind (wpAny_field hc rfl (x := .ref p) rfl ?_)
  show wpAny _ _ (Builtin.Itertools.itNumbersFrom (.ref c) 3 >>= _) _ _ _
  refine wpAny_bind ?_
  unfold Builtin.Itertools.itNumbersFrom
  refine wpAny_bind (wpAny_load hc (wpAny_pure ?_))
  show wpAny _ _ (Builtin.Itertools.itIntField (.ref c) 1 >>= _) _ _ _
  refine wpAny_bind ?_
  unfold Builtin.Itertools.itIntField
  refine wpAny_bind (wpAny_field hc rfl (x := rawInt 1) rfl (wpAny_pure ?_))
  show wpAny _ _ (Builtin.Itertools.itPoolItems (.ref p) >>= _) _ _ _
  refine wpAny_bind ?_
  unfold Builtin.Itertools.itPoolItems
  refine wpAny_bind (wpAny_seqItems hp rfl (wpAny_pure ?_))
  have hz : its.toArray.size = its.length := List.size_toArray ..
  show wpAny _ _ (match stp its.toArray.size [a, b] with
    | some next => _
    | none => _) _ _ _
  rw [hz, hst]
  show wpAny _ _ (setField (.ref c) 1 (rawInt 2) >>= _) _ _ _
  refine wpAny_bind (wpAny_setField_rec hc (by simp) fun h₁ hc₁ hs₁ => ?_)
  exact stop_ok (s := ⟨h₁, g, d, tk, os⟩) hh fun h' e k he => hE h' e (fun d o hd q => k d o (hs₁.extBut d o hd q)) he
theorem next_over {c p : Addr} {f2 : Value} {a b : Nat} {Q : Fin → Shared → Prop} (hh : A.handled = none) (hc : IsC s.heap c p 2 f2 a b)
    (hE : ∀ h' e, (∀ d o, d ≠ c → s.heap.get? d = some o → h'.get? d = some o) → (∃ o, h'.get? e = some o ∧ o.cls = .type "StopIteration") → E (.ref e) { s with heap := h' }) :
    wpAny (model prog w) A (Builtin.«itertools.combinations.__next__» ⟨[.ref c], []⟩) Q E s := by
  obtain ⟨hp0, g, d, tk, os⟩ := s
  show wpAny _ _ (field (.ref c) 0 >>= _) _ _ _
  refine wpAny_bind (wpAny_field hc rfl (x := .ref p) rfl ?_)
  show wpAny _ _ (Builtin.Itertools.itNumbersFrom (.ref c) 3 >>= _) _ _ _
  refine wpAny_bind ?_
  unfold Builtin.Itertools.itNumbersFrom
  refine wpAny_bind (wpAny_load hc (wpAny_pure ?_))
  show wpAny _ _ (Builtin.Itertools.itIntField (.ref c) 1 >>= _) _ _ _
  refine wpAny_bind ?_
  unfold Builtin.Itertools.itIntField
  refine wpAny_bind (wpAny_field hc rfl (x := rawInt 2) rfl (wpAny_pure ?_))
  show wpAny _ _ (rule "itertools.combinations.ended" >>= _) _ _ _
  refine wpAny_bind (wpAny_rule ?_)
  exact stop_ok (s := ⟨hp0, g, d, tk, os⟩) hh fun h' e k he => hE h' e (fun d o _ q => k d o q) he
end
end ZC

set_option Elab.async false
set_option linter.all false
set_option maxRecDepth 100000
set_option maxHeartbeats 4000000
namespace ZC
open PySem PySem.Spec PyProof.Rows
open Sem (wp)
open ZN (IsTu)
section
variable {prog : Program} {w : World} {A : Around} {E : Value → Shared → Prop} {s : Shared}
/-- the items of a list or a tuple; the heap only grows -/
theorem collect_sz {Q : List Value → Shared → Prop} {l : Addr} {T : String} {o : Obj} {xs : Array Value} {n : Nat} (hT : T = "list" ∨ T = "tuple") (ho : s.heap.get? l = some o) (hc : o.cls = .type T) (hd : o.data = .seq xs n) (hz : xs.size ≤ sizeLine)
    (hQ : ∀ h', (∀ b u, s.heap.get? b = some u → h'.get? b = some u) → s.heap.objs.size ≤ h'.objs.size → Q xs.toList { s with heap := h' }) : wpAny (model prog w) A (collect (.ref l)) Q E s := by
  let S := s.heap.objs.size
  let h₀ := s.heap.push { cls := .type "list", data := .seq ([] : List Value).toArray }
  let h₁ := h₀.update S (Obj.mapSeq (· ++ xs))
  have g₀ : h₀.get? S = some { cls := .type "list", data := .seq #[] 0 } := Heap.get?_push_size _ rfl
  have g₁ := Heap.get?_update_self (Obj.mapSeq (· ++ xs)) g₀ rfl
  have last : wpAny (model prog w) A (load S >>= fun u => match u.data with
      | .seq ys _ => pure ys.toList
      | _ => unsupported "internal:collect") Q E { s with heap := h₁ } := by
    refine wpAny_bind (wpAny_load g₁ (wpAny_pure ?_))
    have e : ((#[] : Array Value) ++ xs).toList = xs.toList := by simp
    show Q ((#[] : Array Value) ++ xs).toList _
    rw [e]
    refine hQ h₁ (fun b u q => (Heap.get?_update_other _ _ (Nat.ne_of_gt (Heap.lt_size q))).trans (Heap.get?_push_of_some _ q)) ?_
    show s.heap.objs.size ≤ (h₀.update S _).objs.size
    rw [Heap.size_update, Heap.size_push]
    exact Nat.le_succ _
  have ext := wpAny_extend_seq (prog := prog) (w := w) (hsz := hz) (A := A) (R := fun r s' => r = .ok (.ret (.ref S)) ∧ s' = { s with heap := h₁ }) (s := { s with heap := h₀ }) S l (.ref S) 0 hT g₀ (Heap.get?_push_of_some _ ho) hc hd ⟨rfl, rfl⟩
  unfold collect
  refine wpAny_bind (wpAny_runValue (codeAny_builtin F.entry_proto_collect ?_))
  rw [Around.under_plainId F.plain_proto_collect _]
  refine wpAny_bind (m := newList []) (wpAny_newObj_type (wpAny_pure ⟨plainId_quiet F.plain_list_iadd _, codeAny_builtin F.entry_list_iadd ?_⟩))
  rw [Around.under_plainId F.plain_list_iadd _]
  refine wpAny_mono ext (fun fin s' h => ?_) fun e s' h => absurd h.1 (by simp)
  cases fin with
  | done f =>
    obtain ⟨e, rfl⟩ := h
    cases e
    exact last
  | again c' => exact ⟨h.1, codeAny_mono h.2 fun r s'' hr => by obtain ⟨rfl, rfl⟩ := hr; exact last⟩
theorem index_int {n : Int} {t : Tok} {Q : Int → Shared → Prop} (h : Q n s) : wpAny (model prog w) A (asIndex (.int n t)) Q E s := by
  unfold asIndex
  refine wpAny_bind ?_
  unfold asInt?
  wp_walk
  exact h
end
theorem bind_named (a b : Value) : Builtin.Itertools.itBindNamed "combinations" ["iterable", "r"] 2 2 [a, b] [] = pure [some a, some b] := by first | rfl | kernel_rfl
theorem has_dict : typeHasDict (.type "itertools.combinations") = false := by first | rfl | kernel_rfl | decide +kernel
theorem meets_new {prog : Program} {w : World} (l : Addr) (its : List Value) (t : Tok) (T : String) (hT : T = "list" ∨ T = "tuple") (hn : its.length ≤ 6) :
    MeetsIn prog w (Builtin.«itertools.combinations.__new__» ⟨[.type "itertools.combinations", .ref l, .int 2 t], []⟩) (fun _ R s => (∃ o n, s.heap.get? l = some o ∧ o.cls = .type T ∧ o.data = .seq its.toArray n) ∧
      ∀ h' c p, c ≠ p → IsC h' c p (if its.length < 2 then 2 else 0) .none 0 1 → IsTu h' p its → s.heap.objs.size ≤ c → s.heap.objs.size ≤ p → (∀ d o, s.heap.get? d = some o → h'.get? d = some o) → R (.ok (.ret (.ref c))) { s with heap := h' }) := by
  refine .of_wp fun A R s h => ?_
  obtain ⟨hp, g, d, tk, os⟩ := s; obtain ⟨⟨o, n, ho, hc, hd⟩, h⟩ := h
  have hsub := PySem.F.sub_combs
  unfold Builtin.«itertools.combinations.__new__»
  refine wpAny_bind ?_
  show wpAny _ _ (Builtin.Itertools.itClassAndRest "combinations" _ >>= _) _ _ _
  refine wpAny_bind ?_
  unfold Builtin.Itertools.itClassAndRest
  dsimp only
  rw [show ("itertools." ++ "combinations" : String) = "itertools.combinations" from rfl, hsub]
  refine wpAny_bind (wpAny_pure ?_)
  simp only [Bool.not_true, Bool.false_eq_true, if_false]
  refine wpAny_bind (wpAny_pure ?_)
  simp only [Bool.not_true, Bool.false_eq_true, if_false]
  refine wpAny_pure ?_
  dsimp only
  rw [bind_named]
  refine wpAny_bind (wpAny_pure ?_)
  dsimp only
  show wpAny _ _ (Builtin.Itertools.itSsizeArg (.int 2 t) >>= _) _ _ _
  refine wpAny_bind ?_
  unfold Builtin.Itertools.itSsizeArg
  refine wpAny_bind (index_int ?_)
  dsimp only
  rw [if_neg (by decide)]
  refine wpAny_pure ?_
  refine wpAny_bind (collect_sz hT ho hc hd (by rw [List.size_toArray]; exact Nat.le_trans hn (by decide)) fun h₁ k₁ z₁ => ?_)
  rw [if_neg (by decide), if_neg (by decide)]
  show wpAny _ _ (newTuple its >>= _) _ _ _
  refine wpAny_bind (wpAny_newTuple ?_ (Nat.le_trans hn (by decide)))
  refine wpAny_pure ?_
  refine wpAny_bind ?_
  unfold Builtin.Itertools.itNewRecord
  rw [has_dict]
  simp only [Bool.not_false, if_true]
  refine wpAny_newObj_type ?_ (by show 5 ≤ _; decide)
  refine wpAny_pure ⟨_, rfl, ?_⟩
  have hsz : (h₁.push { cls := .type "tuple", data := .seq its.toArray }).objs.size = h₁.objs.size + 1 := Heap.size_push ..
  have hst : (rawInt (if 2 > its.length then 2 else 0) : Value) = rawInt (if its.length < 2 then 2 else 0) := rfl
  refine h _ _ h₁.objs.size ?_ ?_ ?_ ?_ z₁ fun d o q => Heap.get?_push_of_some _ (Heap.get?_push_of_some _ (k₁ d o q))
  · rw [hsz]; exact Nat.succ_ne_self _
  · exact Heap.get?_push_size _ rfl
  · exact Heap.get?_push_of_some _ (Heap.get?_push_size _ rfl)
  · rw [hsz]; exact Nat.le_succ_of_le z₁
end ZC

set_option Elab.async false
set_option linter.all false
set_option maxRecDepth 100000
set_option maxHeartbeats 4000000
/-! itertools.combinations(xs, 2) as what is walked. -/
namespace ZC
open PySem PySem.Spec PyProof.Rows L2
open Sem (wp)
open ZN (IsTu)
/-- the pairs of what stood in the sequence, each in a new tuple -/
def ItC (vs : List V) : It :=
  ⟨fun i _ => i < (prs vs.length).length,
    fun i H x H' => ∃ (T : Addr) (p : Nat × Nat) (a b : V), x = .ref T ∧ H T = none ∧ (prs vs.length)[i]? = some p ∧ vs[p.1]? = some a ∧ vs[p.2]? = some b ∧ H' = upd H T (.tup [a, b]),
    fun i _ => (prs vs.length).length ≤ i⟩
structure Tc (c p : Addr) (its : List Value) (i : Nat) (h : Heap) : Prop where
  pool : IsTu h p its
  at_ : (i = 0 ∧ ∃ f2, IsC h c p (if its.length < 2 then 2 else 0) f2 0 1) ∨ ∃ k q f2, i = k + 1 ∧ (prs its.length)[k]? = some q ∧ IsC h c p 1 f2 q.1 q.2
section
variable {prog : Program} {w : World} {A : Around} {E : Value → Shared → Prop} {s : Shared}
theorem Tc.get {c p : Addr} {its : List Value} {i : Nat} {h : Heap} (t : Tc c p its i h) : ∃ st f2 a b, IsC h c p st f2 a b := by
  rcases t.at_ with ⟨_, f2, e⟩ | ⟨k, q, f2, _, _, e⟩
  · exact ⟨_, _, _, _, e⟩
  · exact ⟨_, _, _, _, e⟩
theorem next_item {c p : Addr} {its : List Value} {i : Nat} {q : Nat × Nat} {x y : Value} {Q : Value → Shared → Prop} (hcp : c ≠ p) (hn : its.length ≤ 6) (t : Tc c p its i s.heap) (hi : (prs its.length)[i]? = some q) (hx : its[q.1]? = some x) (hy : its[q.2]? = some y)
    (hQ : ∀ h', Tc c p its (i + 1) h' → IsTu h' s.heap.objs.size [x, y] → h'.objs.size = s.heap.objs.size + 1 → (∀ d o, d ≠ c → s.heap.get? d = some o → h'.get? d = some o) → Q (.ref s.heap.objs.size) { s with heap := h' }) :
    wpAny (model prog w) A (Builtin.«itertools.combinations.__next__» ⟨[.ref c], []⟩) (fun fin s' => ∃ v, fin = .done (.ret v) ∧ Q v s') E s := by
  rcases t.at_ with ⟨rfl, f2, hc⟩ | ⟨k, r, f2, rfl, hk, hc⟩
  · have h2 : 2 ≤ its.length := by
      by_cases z : 2 ≤ its.length
      · exact z
      · rw [prs_none _ hn (by omega)] at hi; cases hi
    rw [if_neg (by omega)] at hc
    rw [prs_first _ hn h2] at hi
    cases hi
    exact next_first hcp hc t.pool hx hy fun h' f2' a1 a2 a3 a4 => hQ h' ⟨a4 _ _ (Ne.symm hcp) t.pool, .inr ⟨0, (0, 1), f2', rfl, prs_first _ hn h2, a1⟩⟩ a2 a3 a4
  · exact next_more hcp hc t.pool (nx_some hn hk hi) hx hy fun h' f2' a1 a2 a3 a4 => hQ h' ⟨a4 _ _ (Ne.symm hcp) t.pool, .inr ⟨k + 1, q, f2', rfl, hi, a1⟩⟩ a2 a3 a4
theorem pyNext_item {c p : Addr} {its : List Value} {i : Nat} {q : Nat × Nat} {x y : Value} {Q : Option Value → Shared → Prop} (hcp : c ≠ p) (hn : its.length ≤ 6) (t : Tc c p its i s.heap) (hi : (prs its.length)[i]? = some q) (hx : its[q.1]? = some x) (hy : its[q.2]? = some y)
    (hQ : ∀ h', Tc c p its (i + 1) h' → IsTu h' s.heap.objs.size [x, y] → h'.objs.size = s.heap.objs.size + 1 → (∀ d o, d ≠ c → s.heap.get? d = some o → h'.get? d = some o) → Q (some (.ref s.heap.objs.size)) { s with heap := h' }) :
    wpAny (model prog w) A (pyNext (.ref c)) Q E s := by
  obtain ⟨st, f2, a, b, hc⟩ := t.get
  have hT : s.TypeIs (.ref c) "itertools.combinations" := ⟨_, hc, rfl⟩
  unfold pyNext
  exact wpAny_bind (wpAny_attempt (wpAny_callSpecial?_slot (name := Str.ofString "__next__") hT F.slot_combs_next
    (wpAny_call_entry F.slot_combs_next hT F.entry_combs_next
      (next_item hcp hn t hi hx hy fun h' a1 a2 a3 a4 => wpAny_pure (hQ h' a1 a2 a3 a4)) (F.args_combs_next_1 _))))
theorem pyNext_end {c p : Addr} {its : List Value} {i : Nat} {Q : Option Value → Shared → Prop} (hh : A.handled = none) (hn : its.length ≤ 6) (t : Tc c p its i s.heap) (hi : (prs its.length).length ≤ i)
    (hQ : ∀ h', (∀ d o, d ≠ c → s.heap.get? d = some o → h'.get? d = some o) → Q none { s with heap := h' }) : wpAny (model prog w) A (pyNext (.ref c)) Q E s := by
  obtain ⟨st, f2, a, b, hc0⟩ := t.get
  have hT : s.TypeIs (.ref c) "itertools.combinations" := ⟨_, hc0, rfl⟩
  have fin : ∀ h' e, (∀ d o, d ≠ c → s.heap.get? d = some o → h'.get? d = some o) → (∃ o, h'.get? e = some o ∧ o.cls = .type "StopIteration") →
      wpAny (model prog w) A (do if (← isInstance (.ref e) (.type "StopIteration")) = true then pure none else throw (.ref e)) Q E { s with heap := h' } := fun h' e k he => by
    obtain ⟨o, ho, hc⟩ := he
    refine wpAny_bind (wpAny_isInstance (T := "StopIteration") (b := true) ⟨o, ho, hc⟩ isSubtype_stop ?_)
    exact wpAny_pure (hQ _ k)
  unfold pyNext
  refine wpAny_bind (wpAny_attempt (wpAny_callSpecial?_slot (name := Str.ofString "__next__") hT F.slot_combs_next
    (wpAny_call_entry F.slot_combs_next hT F.entry_combs_next ?_ (F.args_combs_next_1 _))))
  rcases t.at_ with ⟨rfl, f2, hc⟩ | ⟨k, r, f2, rfl, hk, hc⟩
  · have h2 : its.length < 2 := by
      by_cases z : its.length < 2
      · exact z
      · have := List.getElem?_eq_some_iff.mp (prs_first _ hn (by omega)) |>.1
        omega
    rw [if_pos h2] at hc
    exact next_over hh hc fun h' e k he => fin h' e k he
  · exact next_end hh hc t.pool (nx_none hn hk (List.getElem?_eq_none hi)) fun h' e k he => fin h' e k he
theorem pyIter_ok {c p : Addr} {st : Int} {f2 : Value} {a b : Nat} {Q : Value → Shared → Prop} (hc : IsC s.heap c p st f2 a b) (h : Q (.ref c) s) : wpAny (model prog w) A (pyIter (.ref c)) Q E s := by
  have hT : s.TypeIs (.ref c) "itertools.combinations" := ⟨_, hc, rfl⟩
  refine wpAny_pyIter_slot hT F.slot_combs_iter (wpAny_call_entry F.slot_combs_iter hT F.entry_combs_iter ?_ (F.args_combs_iter_1 _))
  show wpAny _ _ (ret (.ref c)) _ _ s
  exact wpAny_pure ⟨_, rfl, "itertools.combinations", _, hT, F.slot_combs_next.lookup, h⟩
end
theorem turn_combs {P : Program} {w : World} {K : PySem.W.Frag} {tg : Expr} {vs : List V} {its : List Value} {c p : Addr} (hcp : c ≠ p) (hv : Vals vs its) (hn : vs.length ≤ 6) : Turn P w K tg (ItC vs) [c, p] c (Tc c p its) where
  mem := by simp
  obj := fun i h t b hb => by
    have e' : b = c ∨ b = p := by simpa using hb
    obtain ⟨st, f2, x, y, hc⟩ := t.get
    rcases e' with z | z
    · rw [z]; exact ⟨_, hc, fun v q => nomatch q⟩
    · rw [z]; exact ⟨_, t.pool, fun v q => nomatch q⟩
  keep := fun i h h' t k => ⟨k p (by simp) _ t.pool, by
    rcases t.at_ with ⟨e, f2, hc⟩ | ⟨j, q, f2, e, hk, hc⟩
    · exact .inl ⟨e, f2, k c (by simp) _ hc⟩
    · exact .inr ⟨j, q, f2, e, hk, k c (by simp) _ hc⟩⟩
  item := by
    intro X hP hw hK hcalm i pins s σ H E I hf t hg
    subst hP hw hK
    have hl := hv.length
    have hi : (prs its.length)[i]? = some ((prs vs.length)[i]) := by
      rw [← hl]; exact List.getElem?_eq_getElem hg
    have lt := prs_lt _ hn _ (List.getElem_mem hg)
    obtain ⟨u1, hu1, r1⟩ := hv.get (List.getElem?_eq_getElem lt.1)
    obtain ⟨u2, hu2, r2⟩ := hv.get (List.getElem?_eq_getElem lt.2)
    refine pyNext_item hcp (by omega) t hi hu1 hu2 fun h' t' hT hsz hch => ?_
    obtain ⟨st, f2, x, y, hc'⟩ := t'.get
    refine ⟨_, rfl, go_of hc' rfl rfl (by decide) ?_⟩
    have new : ObjOk X.prog X.w (upd H s.heap.objs.size (.tup [vs[((prs vs.length)[i]).1], vs[((prs vs.length)[i]).2]])) h' s.heap.objs.size (.tup [vs[((prs vs.length)[i]).1], vs[((prs vs.length)[i]).2]]) :=
      ⟨by show 2 ≤ sizeLine; decide, [u1, u2], .cons r1 (.cons r2 .nil), ⟨_, hT, rfl, _, rfl⟩⟩
    have I1 := I.turnedNew (t' := s.toks) (ch := [c, p]) (fun b o hb q => hch b o (fun z => hb (by simp [z])) q) hf (Nat.le_refl _) new
    refine ⟨.ref s.heap.objs.size, _, I1, rfl, ⟨_, _, _, _, rfl, I.hok.fresh (Nat.le_refl _), List.getElem?_eq_getElem hg, List.getElem?_eq_getElem lt.1, List.getElem?_eq_getElem lt.2, rfl⟩, t', fun b hb => ?_⟩
    obtain ⟨st0, f20, x0, y0, hc0⟩ := t.get
    have hb' : b < s.heap.objs.size := by
      have e' : b = c ∨ b = p := by simpa using hb
      rcases e' with z | z
      · rw [z]; exact Heap.lt_size hc0
      · rw [z]; exact Heap.lt_size t.pool
    rw [upd_ne (Nat.ne_of_lt hb')]
    exact (hf b hb).1
  done := by
    intro X hP hw hK hcalm i pins s σ H E I hf t hg
    subst hP hw hK
    have hl := hv.length
    exact pyNext_end (I.ok.hd hcalm) (by omega) t (by rw [← hl]; exact hg) fun h' hch => ⟨rfl, I.turnedL (t' := s.toks) (ch := [c, p]) (fun b o hb q => hch b o (fun z => hb (by simp [z])) q) hf⟩
  self := fun A i s Q E t h => by
    obtain ⟨st, f2, x, y, hc⟩ := t.get
    exact pyIter_ok hc h
section
variable {prog : Program} {w : World} {A : Around} {E : Value → Shared → Prop} {s : Shared}
theorem call_combs {l : Addr} {its : List Value} {t : Tok} {T : String} {o : Obj} {n : Nat} {Q : Value → Shared → Prop} (hT : T = "list" ∨ T = "tuple") (hn : its.length ≤ 6) (ho : s.heap.get? l = some o) (hc : o.cls = .type T) (hd : o.data = .seq its.toArray n)
    (h : ∀ h' c p, c ≠ p → Tc c p its 0 h' → s.heap.objs.size ≤ c → s.heap.objs.size ≤ p → (∀ d o, s.heap.get? d = some o → h'.get? d = some o) → Q (.ref c) { s with heap := h' }) :
    wpAny (model prog w) A (call (.type "itertools.combinations") [.ref l, .int 2 t]) Q E s := by
  refine callType_newIn F.called_combs (by decide) (F.typeCall_combs _ _) (F.newCall_combs _ _) (fun obj => F.args_object_init_3 obj _ _) F.entry_combs_new (meets_new l its t T hT hn) ⟨⟨o, n, ho, hc, hd⟩, fun h' c p hcp hC hp z1 z2 hk => ?_⟩
  exact ⟨⟨_, hC, rfl⟩, h h' c p hcp ⟨hp, .inl ⟨rfl, _, hC⟩⟩ z1 z2 hk⟩
end
def iCombs (K : PySem.W.Frag) (ta : TA) : TI := fun σ H R => ta σ H fun vs H1 => ∃ (a : Addr) (xs : List V), vs = [.ref a, .int 2] ∧ (SqL K H1 a xs ∨ SqT K H1 a xs) ∧ xs.length ≤ 6 ∧ R (ItC xs) H1
theorem pi_combs {X : Cx} {tg e e2 : Expr} {x : Str} {ta : TA} {p pos : Pos} (hg : Gl X x) (hm : X.mg x = some (.type "itertools.combinations")) (ha : PA X [e, e2] ta) (hdb : (x == ("__debug__" : Str)) = false := by decide)
    (hs : starEach [e, e2] X.env = (false, eval e X.env) :: starEach [e2] X.env := by rfl) (hpl : (backTo pos (starEach [e2] X.env)).any (·.1) = false := by rfl) :
    PI X tg (.Call (.Name x p) [e, e2] [] pos) (iCombs X.K ta) := by
  refine ⟨fun pins s σ H R I h => ?_⟩
  refine Call_ (ld_glob I hg hm (PyProof.Rows.callWith_type1 (thn (ha.run pos pins s σ H _ I h) fun us s1 ⟨vs, H1, I1, r1, q1⟩ => ?_) hs hpl) hdb)
  obtain ⟨a, xs, ex, hq, h6, q⟩ := q1
  subst ex
  cases r1 with
  | cons r rr =>
    cases rr with
    | cons r' rr =>
      cases rr
      cases r
      obtain ⟨tk, rfl⟩ := r'
      have seq : ∃ (its : List Value) (T : String) (o : Obj) (n : Nat), Vals xs its ∧ (T = "list" ∨ T = "tuple") ∧ s1.heap.get? a = some o ∧ o.cls = .type T ∧ o.data = .seq its.toArray n := by
        rcases hq with hq | hq
        · obtain ⟨its, rv, pl, _⟩ := I1.list hq
          obtain ⟨o, ho, hc, n, hd⟩ := pl.isList
          exact ⟨its, "list", o, n, rv, .inl rfl, ho, hc, hd⟩
        · obtain ⟨its, rv, ⟨o, ho, hc, n, hd⟩, _⟩ := I1.tuple hq
          exact ⟨its, "tuple", o, n, rv, .inr rfl, ho, hc, hd⟩
      obtain ⟨its, T, o, n, rv, hT, ho, hc, hd⟩ := seq
      have hl := rv.length
      refine call_combs hT (by omega) ho hc hd fun h' c p hcp t z1 z2 hk => ?_
      obtain ⟨st, f2, x0, y0, hC⟩ := t.get
      refine pyIter_ok hC ?_
      have I2 : Inv X pins σ H1 { s1 with heap := h' } := I1.kept (t' := s1.toks) hk
      refine ⟨c, [c, p], _, _, H1, rfl, I2, turn_combs hcp rv h6, t, fun b hb => ?_, q⟩
      have hle : s1.heap.objs.size ≤ b := by
        have e' : b = c ∨ b = p := by simpa using hb
        rcases e' with z | z
        · rw [z]; exact z1
        · rw [z]; exact z2
      exact I1.fpOk hle (I1.hok.fresh hle)
end ZC

set_option Elab.async false
set_option linter.all false
set_option maxRecDepth 100000
set_option maxHeartbeats 4000000
/-! combinations(xs, 2), comb over data. -/
namespace DL
open PySem PySem.Spec PyProof.Rows L2
open Evl (Ex)
open PySem.W (mcComb mc_comb)
open ZC (ItC iCombs pi_combs prs prs_lt)
def prsD (ds : List D) : List D := (prs ds.length).map fun p => .tup [ds.getD p.1 .non, ds.getD p.2 .non]
section
variable {K : PySem.W.Frag} {B : Hp}
theorem itC_ok {vs : List V} {ds : List D} (h : DtL K B vs ds) (hn : ds.length ≤ 6) : ItOk K B (ItC vs) (prsD ds) := by
  have hl := h.len
  refine fun i H' e => ⟨fun d hd => ?_, fun hz => ?_⟩
  · unfold prsD at hd
    rw [List.getElem?_map, Option.map_eq_some_iff] at hd
    obtain ⟨p, hp, rfl⟩ := hd
    have lt := prs_lt _ hn p (List.mem_of_getElem? hp)
    have e1 : ds[p.1]? = some (ds.getD p.1 .non) := by simp [lt.1]
    have e2 : ds[p.2]? = some (ds.getD p.2 .non) := by simp [lt.2]
    obtain ⟨v1, h1, h2⟩ := h.get e1
    obtain ⟨v2, h3, h4⟩ := h.get e2
    refine ⟨by show i < (prs vs.length).length; rw [hl]; exact (List.getElem?_eq_some_iff.mp hp).1, fun x H'' y => ?_⟩
    obtain ⟨T, q, a, b, rfl, nT, hq, ha, hb, rfl⟩ := y
    rw [hl, hp] at hq
    cases hq
    rw [h1] at ha; cases ha
    rw [h3] at hb; cases hb
    exact ⟨Evl.Ex.new nT, fun B2 e2 e3 => .tup (e3 _ _ (stb_tup upd_same)) (.cons (h2.mono e2) (.cons (h4.mono e2) .nil))⟩
  · show (prs vs.length).length ≤ i
    unfold prsD at hz
    rw [List.length_map] at hz
    rw [hl]; exact hz
end
section
variable {X : Cx} {tg e e2 : Expr} {x : Str} {ma : MA} {p pos : Pos}
def mCombs (ma : MA) : MI := fun ρ => match ma ρ with
  | some [r, k] => match r.data, k.data with
    | .lst ds, .int 2 => if ds.length ≤ 6 then some (r.fixed, prsD ds) else none
    | .tup ds, .int 2 => if ds.length ≤ 6 then some (r.fixed, prsD ds) else none
    | _, _ => none
  | _ => none
theorem xi_combs (hg : Gl X x) (hm : X.mg x = some (.type "itertools.combinations")) (ha : XA X [e, e2] ma) (hdb : (x == ("__debug__" : Str)) = false := by decide)
    (hs : starEach [e, e2] X.env = (false, eval e X.env) :: starEach [e2] X.env := by rfl) (hpl : (backTo pos (starEach [e2] X.env)).any (·.1) = false := by rfl) :
    XI X tg (.Call (.Name x p) [e, e2] [] pos) (mCombs ma) := by
  obtain ⟨t, pa, s⟩ := ha
  refine ⟨_, pi_combs hg hm pa hdb hs hpl, fun G H σ ρ fp fx items Q R hm q => ?_⟩
  unfold mCombs at hm
  split at hm
  rotate_left
  · cases hm
  rename_i r k e1
  refine s G H σ ρ fp _ _ R e1 fun vs F H1 x1 o1 => ?_
  cases o1 with
  | cons o t _ =>
    cases t with
    | cons o2 t _ =>
      cases t
      have w := ROk.wall R.ls x1 o
      have w' := o.data
      have k' := o2.data
      split at hm
      · rename_i ds e2 e3
        split at hm
        · rename_i hl; cases hm
          rw [e2] at w w'
          rw [e3] at k'; cases k'
          cases w' with
          | lst h t =>
            cases w with
            | lst h' t' =>
              have ex : Ex (wallOf r.fixed H1 fp) H1 := by
                cases r.fixed with
                | true => rw [wall_t]; exact hid_ex
                | false => rw [wall_f]; exact Evl.Ex.refl H1
              have := ex _ _ h'
              rw [h] at this
              cases this
              exact ⟨_, _, rfl, .inl (SqL.of h), by rw [t.len]; exact hl, q _ H1 x1 (itC_ok t' hl)⟩
        · cases hm
      · rename_i ds e2 e3
        split at hm
        · rename_i hl; cases hm
          rw [e2] at w w'
          rw [e3] at k'; cases k'
          cases w' with
          | tup h t =>
            cases w with
            | tup h' t' =>
              have ex : Ex (wallOf r.fixed H1 fp) H1 := by
                cases r.fixed with
                | true => rw [wall_t]; exact hid_ex
                | false => rw [wall_f]; exact Evl.Ex.refl H1
              have := ex _ _ h'
              rw [h] at this
              cases this
              exact ⟨_, _, rfl, .inr (.inl (.inl h)), by rw [t.len]; exact hl, q _ H1 x1 (itC_ok t' hl)⟩
        · cases hm
      · cases hm
end
/-! ### comb -/
def rComb : List V → Hp → VK → Prop := fun vs H Q => ∃ a b : Int, vs = [.int a, .int b] ∧ 0 ≤ a ∧ 0 ≤ b ∧ a ≤ 18000 ∧ Q (.int (mcComb a b)) H
theorem cr_comb {X : Cx} : CallR X (.builtin "math.comb") rComb := by
  intro pins s σ H vs us Q I r h
  obtain ⟨a, b, rfl, h1, h2, h3, q⟩ := h
  cases r with
  | cons r1 r =>
    cases r with
    | cons r2 r =>
      cases r
      obtain ⟨t1, rfl⟩ := r1
      obtain ⟨t2, rfl⟩ := r2
      refine mc_comb h1 h2 (by omega) (.inr h3) fun _ => ?_
      exact ⟨.int (mcComb a b), H, I.tok _, ⟨_, rfl⟩, q⟩
def gComb : List D → Option R
  | [.int a, .int b] => if 0 ≤ a ∧ 0 ≤ b ∧ a ≤ 18000 then some (.sh (.int (mcComb a b))) else none
  | _ => none
theorem ok_comb {K : PySem.W.Frag} : CallOk K rComb gComb := by
  intro H H1 fp vs ds z Q h ls ex hz q
  unfold gComb at hz
  split at hz
  · rename_i a b
    split at hz
    · rename_i hc; cases hz
      cases h with
      | cons h1 t =>
        cases t with
        | cons h2 t =>
          cases t
          cases dt_int h1; cases dt_int h2
          exact ⟨a, b, rfl, hc.1, hc.2.1, hc.2.2, q _ [] H1 (Evl.Ex.refl H1) (Fl.int _).rok⟩
    · cases hz
  · cases hz
section
variable {X : Cx} {e : Expr} {es : List Expr} {ms : MA} {pos : Pos}
/-- a built-in function that the module has under a name of its own -/
theorem xcallG {id : String} {r : List V → Hp → VK → Prop} {f : List D → Option R} {x : Str} {p : Pos} (hc : CallR X (.builtin id) r) (hr : CallOk X.K r f) (hg : Gl X x) (hm : X.mg x = some (.builtin id)) (ha : XA X (e :: es) ms) (hdb : (x == ("__debug__" : Str)) = false := by decide)
    (he : starEach (e :: es) X.env = (false, eval e X.env) :: starEach es X.env := by rfl) (hpl : (backTo pos (starEach es X.env)).any (·.1) = false := by rfl) : XE X (.Call (.Name x p) (e :: es) [] pos) (mCB f ms) := by
  obtain ⟨t, pa, s⟩ := ha
  refine ⟨tCB r t, ⟨fun pins s σ H Q I h => ?_⟩, sim_CB hr s⟩
  refine wpAny_Call_Name_kw (ld_glob I hg hm ?_ hdb)
  exact PyProof.Rows.callWith_builtin1 (thn (pa.run pos pins s σ H _ I h) fun us s1 ⟨vs, H1, I1, r1, q1⟩ => hc pins s1 σ H1 vs us Q I1 r1 q1) he hpl
end
end DL

set_option Elab.async false
set_option linter.all false
set_option maxRecDepth 100000
set_option maxHeartbeats 4000000
/-! a.append(b.pop(e)): both lists of what this function owns. -/
namespace DL
open PySem PySem.Spec PyProof.Rows L2
open Evl (Ex)
theorem RepL.erase {K : PySem.W.Frag} {H : Hp} : ∀ {ss : List S} {vs : List V} {F : List Addr} {k : Nat} {d : D}, RepL K H ss vs F → ss[k]? = some (.d d) →
    ∃ y F', vs[k]? = some y ∧ Dt K (stb H) y d ∧ RepL K H (ss.eraseIdx k) (vs.eraseIdx k) F' ∧ ∀ a ∈ F', a ∈ F
  | [], _, _, _, _, _, e => by simp at e
  | s :: ss, _, _, 0, d, .cons (F1 := F1) (F2 := F2) h t n, e => by
    simp only [List.getElem?_cons_zero, Option.some.injEq] at e
    subst e
    cases h with
    | d h => exact ⟨_, F2, rfl, h, t, fun a m => List.mem_append_right _ m⟩
  | s :: ss, _, _, k + 1, d, .cons (F1 := F1) (F2 := F2) h t n, e => by
    simp only [List.getElem?_cons_succ] at e
    obtain ⟨y, F', h1, h2, h3, h4⟩ := RepL.erase t e
    refine ⟨y, F1 ++ F', by simpa using h1, h2, .cons h h3 fun a m z => n a m (h4 a z), fun a m => ?_⟩
    rcases List.mem_append.mp m with m | m
    · exact List.mem_append_left _ m
    · exact List.mem_append_right _ (h4 a m)
theorem seqIx_nat {k n : Nat} (h : k < n) : seqIndex? (k : Int) n = some k := by
  unfold seqIndex?
  have h0 : ¬ ((k : Int) < 0) := by omega
  simp only [if_neg h0]
  rw [if_pos (by simp; omega)]
  simp
section
variable {X : Cx} {W : XK} {e : Expr} {ma : ME} {pos apos bpos cpos dpos p1 p2 : Pos} {x y : Str}
def mAppPop (i j : Nat) (me : ME) : MS := fun ρ => match ρ[i]?, ρ[j]?, me ρ with
  | some (.tr (.own ss)), some (.tr (.own ts)), some r => match r.data with
    | .int n => if i ≠ j ∧ 0 ≤ n ∧ n ≤ 100000 ∧ ss.length < 100000 then (match ts[n.toNat]? with
      | some (.d d) => some (.nx ((killVw ((killVw ρ).set j (.tr (.own (ts.eraseIdx n.toNat))))).set i (.tr (.own (ss ++ [.d d])))))
      | _ => none) else none
    | _ => none
  | _, _, _ => none
theorem mpV_own {ρ : Env} {i : Nat} {ss : List S} (h : ρ[i]? = some (.tr (.own ss))) : mpV i ρ = some (i, []) := by unfold mpV; rw [h]
theorem xs_appPop {i j : Nat} (ho : XP X (.Name x p1) (mpV i)) (hb : XP X (.Name y p2) (mpV j)) (he : XE X e ma)
    (hbase : attributeBase (.Name x p1) "append" X.env (eval (.Name x p1) X.env) = eval (.Name x p1) X.env := by rfl)
    (hbase2 : attributeBase (.Name y p2) "pop" X.env (eval (.Name y p2) X.env) = eval (.Name y p2) X.env := by rfl)
    (hfew2 : ((backTo dpos (starEach (e :: []) X.env)).all (fun x => !x.1) && (backToKw dpos (keywordEach [] X.env)).all (fun x => x.1.isSome)
      && decide ((e :: ([] : List Expr)).length + ([] : List Keyword).length + (if ([] : List Keyword).isEmpty then 0 else 1) < 30)) = true := by rfl)
    (hline2 : (bpos.endLine == dpos.line) = true := by rfl) (hs2 : starEach (e :: []) X.env = (false, eval e X.env) :: starEach [] X.env := by rfl) (hplain2 : (backTo dpos (starEach [] X.env)).any (·.1) = false := by rfl)
    (hfew : ((backTo cpos (starEach (.Call (.Attribute (.Name y p2) "pop" bpos) [e] [] dpos :: []) X.env)).all (fun x => !x.1) && (backToKw cpos (keywordEach [] X.env)).all (fun x => x.1.isSome)
      && decide ((.Call (.Attribute (.Name y p2) "pop" bpos) [e] [] dpos :: ([] : List Expr)).length + ([] : List Keyword).length + (if ([] : List Keyword).isEmpty then 0 else 1) < 30)) = true := by rfl)
    (hline : (apos.endLine == cpos.line) = true := by rfl) (hs : starEach (.Call (.Attribute (.Name y p2) "pop" bpos) [e] [] dpos :: []) X.env = (false, eval (.Call (.Attribute (.Name y p2) "pop" bpos) [e] [] dpos) X.env) :: starEach [] X.env := by rfl) (hplain : (backTo cpos (starEach [] X.env)).any (·.1) = false := by rfl)
    (hsw : swapsWith (.Call (.Attribute (.Name x p1) "append" apos) [.Call (.Attribute (.Name y p2) "pop" bpos) [e] [] dpos] [] cpos) none pos.line X.env = pure false := by rfl) :
    XS X W (.Expr (.Call (.Attribute (.Name x p1) "append" apos) [.Call (.Attribute (.Name y p2) "pop" bpos) [e] [] dpos] [] cpos) pos) (mAppPop i j ma) := by
  obtain ⟨to, po, so⟩ := ho
  obtain ⟨tb, pb, sb⟩ := hb
  obtain ⟨te, pe, se⟩ := he
  refine ⟨_, ps_expr (pe_bm PySem.F.plainAttrs_list PySem.F.slot_list_append PySem.F.type_list_append mt_append po (pa_cons (pe_bm PySem.F.plainAttrs_list PySem.F.slot_list_pop PySem.F.type_list_pop mt_popAt pb (pa_cons pe pa_nil hs2) hbase2 hfew2 hline2 hs2 hplain2) pa_nil hs) hbase hfew hline hs hplain) hsw, fun G H σ ρ fp oo D R hm q => ?_⟩
  unfold mAppPop at hm
  split at hm
  rotate_left
  · cases hm
  rename_i ss ts r e1 e2 e3
  split at hm
  rotate_left
  · cases hm
  rename_i n e4
  split at hm
  rotate_left
  · cases hm
  rename_i hc
  obtain ⟨hij, hn0, hn1, hl⟩ := hc
  split at hm
  rotate_left
  · cases hm
  rename_i d e5
  cases hm
  refine so G H σ ρ fp i [] _ R (mpV_own e1) fun v a H1 s' ss' g1 g2 g3 x1 at1 => ?_
  rw [e1] at g1; cases g1
  have R1 := R.grow x1
  obtain ⟨v', h1, h2⟩ := R1.sl i _ e1
  rw [g3] at h1; cases h1
  obtain ⟨vs1, Fa1, ha1, hL1, _⟩ := h2.mut at1 rfl
  refine ⟨.inl ⟨rfl, _, SqL.of ha1⟩, ?_⟩
  refine sb G H1 σ ρ fp j [] _ R1 (mpV_own e2) fun v2 b H2 s2 ss2 k1 k2 k3 x2 at2 => ?_
  rw [e2] at k1; cases k1
  have R2 := R1.grow x2
  obtain ⟨v2', h3, h4⟩ := R2.sl j _ e2
  rw [k3] at h3; cases h3
  obtain ⟨vs2, Fa2, ha2, hL2, _⟩ := h4.mut at2 rfl
  refine ⟨.inl ⟨rfl, _, SqL.of ha2⟩, ?_⟩
  refine se G H2 σ ρ fp r _ R2 e3 fun w F H3 x3 o3 => ?_
  have hw := o3.data
  rw [e4] at hw
  cases dt_int hw
  obtain ⟨vs3, Fa3, ha3, hL3, hn3, hsub3, hai3, hmut3⟩ := R2.mutate x3 e2 k3 (at2.mono x3) rfl
  obtain ⟨y0, F', hy1, hy2, hy3, hy4⟩ := hL3.erase e5
  have hk : n.toNat < vs3.length := (List.getElem?_eq_some_iff.mp hy1).1
  have hnn : n = ((n.toNat : Nat) : Int) := by omega
  refine ⟨b, vs3, n, n.toNat, y0, rfl, rfl, ha3, by omega, by omega, by have z := seqIx_nat hk; rw [← hnn] at z; exact z, hy1, ?_⟩
  have es : Ex (stb H3) (stb (upd H3 b (.lst (vs3.eraseIdx n.toNat)))) := stb_upd ha3
  have r3 : RepL X.K (upd H3 b (.lst (vs3.eraseIdx n.toNat))) (ts.eraseIdx n.toNat) (vs3.eraseIdx n.toNat) F' :=
    hy3.keep ⟨es, fun c m u h => by rw [upd_ne (by rintro rfl; exact hn3 (hy4 _ m))]; exact h⟩
  obtain ⟨fp3, R3⟩ := hmut3 _ _ _ r3 (fun z => hn3 (hy4 _ z)) (fun c m => .inl (hy4 c m))
  -- the append
  have hi3 : ((killVw ρ).set j (.tr (S.put (.own (ts.eraseIdx n.toNat)) [] (.own ts))))[i]? = some (.tr (.own ss)) := by
    rw [List.getElem?_set_ne (Ne.symm hij)]
    unfold killVw
    rw [List.getElem?_map, e1]; rfl
  have at3 : AtP (upd H3 b (.lst (vs3.eraseIdx n.toNat))) [] v a := at1
  obtain ⟨vs4, Fa4, ha4, hL4, hn4, hsub4, hai4, hmut4⟩ := R3.mutate (Evl.Ex.refl _) hi3 g3 at3 rfl
  refine ⟨a, vs4, y0, rfl, rfl, ha4, ?_, ?_⟩
  · rw [← hL4.len]; exact Evl.sz_lt hl
  · have es4 : Ex (stb (upd H3 b (.lst (vs3.eraseIdx n.toNat)))) (stb (upd (upd H3 b (.lst (vs3.eraseIdx n.toNat))) a (.lst (vs4 ++ [y0])))) := stb_upd ha4
    have hT : Rep X.K (upd (upd H3 b (.lst (vs3.eraseIdx n.toNat))) a (.lst (vs4 ++ [y0]))) (.d d) y0 [] := .d ((hy2.mono es).mono es4)
    have r1 : RepL X.K (upd (upd H3 b (.lst (vs3.eraseIdx n.toNat))) a (.lst (vs4 ++ [y0]))) (ss ++ [.d d]) (vs4 ++ [y0]) (Fa4 ++ ([] ++ [])) :=
      (hL4.keep ⟨es4, fun c m u h => by rw [upd_ne (by rintro rfl; exact hn4 m)]; exact h⟩).snoc hT fun _ _ m => by cases m
    obtain ⟨fp', R'⟩ := hmut4 _ _ _ r1 (fun z => hn4 (by simpa using z)) (fun c m => .inl (by simpa using m))
    exact q _ _ fp' R'
end
end DL

set_option Elab.async false
set_option linter.all false
set_option maxRecDepth 100000
set_option maxHeartbeats 4000000
/-! list(range(n)). -/
namespace DL
open PySem PySem.Spec PyProof.Rows L2
open Evl (Ex)
section
variable {X : Cx} {e : Expr} {ma : ME} {p p2 pos pos2 : Pos}
def mListRg (m : ME) : ME := fun ρ => match m ρ with
  | some r => match r.data with
    | .int n => if 0 ≤ n ∧ n ≤ 100000 then some (newL (rg 0 n.toNat)) else none
    | _ => none
  | none => none
theorem dtL_rg {K : PySem.W.Frag} {H : Hp} (n : Int) : DtL K H (rgV 0 n) (rg 0 n.toNat) := by
  have : rgV 0 n = ((List.range n.toNat).map fun (k : Nat) => (0 + (k : Int))).map V.int := by
    unfold rgV
    rw [List.map_map]
    simp
  have e2 : rg 0 n.toNat = ((List.range n.toNat).map fun (k : Nat) => (0 + (k : Int))).map D.int := by
    unfold rg
    rw [List.map_map]; rfl
  rw [this, e2]
  exact DtL.ints _
theorem x_listRg (hc : X.calm = true) (hg : Gl X "list") (hm : X.mg "list" = none) (hg2 : Gl X "range") (hm2 : X.mg "range" = none) (ha : XE X e ma) (na : starEach [e] X.env = (false, eval e X.env) :: starEach [] X.env := by rfl)
    (na2 : starEach [.Call (.Name "range" p2) [e] [] pos2] X.env = (false, eval (.Call (.Name "range" p2) [e] [] pos2) X.env) :: starEach [] X.env := by rfl) :
    XE X (.Call (.Name "list" p) [.Call (.Name "range" p2) [e] [] pos2] [] pos) (mListRg ma) := by
  obtain ⟨t, pa, s⟩ := ha
  refine ⟨_, pe_listRg hc hg hm (prg_1 hg2 hm2 pa na) na2, fun G H σ ρ fp r Q R hm q => ?_⟩
  unfold mListRg at hm
  split at hm
  rotate_left
  · cases hm
  rename_i r0 e1
  split at hm
  rotate_left
  · cases hm
  rename_i n e2
  split at hm
  rotate_left
  · cases hm
  rename_i hn
  cases hm
  refine s G H σ ρ fp r0 _ R e1 fun v F H1 x1 o1 => ?_
  have z := o1.data
  rw [e2] at z
  cases dt_int z
  refine ⟨n, rfl, RgOk.of_le (Int.le_refl 0) (by omega) (by omega) hn.1, fun l hl => ?_⟩
  obtain ⟨F2, o⟩ := newL_ok (fp := fp) hl x1 (dtL_rg n)
  exact q _ F2 _ (x1.trans (Evl.Ex.new hl)) o
end
end DL

set_option Elab.async false
set_option linter.all false
set_option maxRecDepth 100000
set_option maxHeartbeats 4000000
/-! itertools.permutations(xs): facts, its turns. -/
namespace PySem.F
theorem owner_perms : Manifest.owners.lookup (String.ofList ['s','n','o','i','t','a','t','u','m','r','e','p','.','s','l','o','o','t','r','e','t','i'].reverse) = some Manifest.sig_itertools_permutations := by kernel_rfl
theorem slot_perms_next : Slot "itertools.permutations" "__next__" "itertools.permutations.__next__" :=
  .of (owner := "itertools.permutations") (n := "__next__") (by rw [typeLookup_type, builtinLookup_eq_fast]; kernel_rfl) (by decide +kernel) (by decide +kernel) (by decide +kernel)
    (by first | exact .inl (by decide +kernel) | exact .inr (by decide +kernel)) (by rw [isSubtype_type]; kernel_rfl)
theorem entry_perms_next : entryFor table "itertools.permutations.__next__" = some Builtin.«itertools.permutations.__next__» := entryFor_of_tree (by kernel_rfl)
theorem args_perms_next_1 (a : Value) : argsOk "itertools.permutations.__next__" ⟨[a], []⟩ := by
  unfold argsOk; rw [signature?_of (id := "itertools.permutations.__next__") (n := ['_', '_', 't', 'x', 'e', 'n', '_', '_']) (o := ['s','n','o','i','t','a','t','u','m','r','e','p','.','s','l','o','o','t','r','e','t','i']) (by kernel_rfl) owner_perms]; kernel_rfl
theorem slot_perms_iter : Slot "itertools.permutations" "__iter__" "itertools.permutations.__iter__" :=
  .of (owner := "itertools.permutations") (n := "__iter__") (by rw [typeLookup_type, builtinLookup_eq_fast]; kernel_rfl) (by decide +kernel) (by decide +kernel) (by decide +kernel)
    (by first | exact .inl (by decide +kernel) | exact .inr (by decide +kernel)) (by rw [isSubtype_type]; kernel_rfl)
theorem entry_perms_iter : entryFor table "itertools.permutations.__iter__" = some Builtin.«dict_keyiterator.__iter__» :=
  entryFor_alias (id' := "dict_keyiterator.__iter__") (by kernel_rfl) (by first | rfl | decide +kernel | (unfold String.splitOn; simp +decide [String.splitOnAux])) (by decide +kernel) (by kernel_rfl)
theorem args_perms_iter_1 (a : Value) : argsOk "itertools.permutations.__iter__" ⟨[a], []⟩ := by
  unfold argsOk; rw [signature?_of (id := "itertools.permutations.__iter__") (n := ['_', '_', 'r', 'e', 't', 'i', '_', '_']) (o := ['s','n','o','i','t','a','t','u','m','r','e','p','.','s','l','o','o','t','r','e','t','i']) (by kernel_rfl) owner_perms]; kernel_rfl
theorem entry_perms_new : entryFor table "itertools.permutations.__new__" = some Builtin.«itertools.permutations.__new__» := entryFor_of_tree (by kernel_rfl)
theorem typeCall_perms (a : Value) : checkTypeCall "itertools.permutations" ⟨[a], []⟩ = pure () := by kernel_rfl
theorem newCall_perms (a : Value) : checkBuiltinCall "itertools.permutations.__new__" ⟨[.type "itertools.permutations", a], []⟩ = pure () := by kernel_rfl
theorem sub_perms : isSubtype (.type "itertools.permutations") (.type "itertools.permutations") = pure true := by rw [isSubtype_type]; kernel_rfl
theorem mro_perms : mroOf (.type "itertools.permutations") = pure [.type "itertools.permutations", .type "object"] := by rw [mroOf_type]; kernel_rfl
theorem lookup_perms_new : typeLookup (.type "itertools.permutations") "__new__" = pure (some (.builtin "itertools.permutations.__new__")) := by rw [typeLookup_type, builtinLookup_eq_fast]; kernel_rfl
theorem slot_perms_init : Slot "itertools.permutations" "__init__" "object.__init__" :=
  .of (owner := "object") (n := "__init__") (by rw [typeLookup_type, builtinLookup_eq_fast]; kernel_rfl) (by decide +kernel) (by decide +kernel) (by decide +kernel)
    (by first | exact .inl (by decide +kernel) | exact .inr (by decide +kernel)) (by rw [isSubtype_type]; kernel_rfl)
theorem called_perms : TypeCalled "itertools.permutations" "itertools.permutations.__new__" "object.__init__" :=
  ⟨by decide +kernel, by decide +kernel, ⟨_, _, mro_perms⟩, madeBy_type mro_perms lookup_perms_new (by decide +kernel), by decide +kernel, by rw [isSubtype_type]; kernel_rfl, slot_perms_init⟩
end PySem.F

set_option Elab.async false
set_option linter.all false
set_option maxRecDepth 100000
set_option maxHeartbeats 4000000
namespace ZP
open PySem PySem.Spec PyProof.Rows
open Sem (wp)
open ZN (IsTu)
/-- how indices and cycles go on -/
def stp (n : Nat) : Nat → List Nat → List Nat → Option (List Nat × List Nat)
  | 0, _, _ => none
  | i + 1, indices, cycles =>
    let c := cycles.getD i 0 - 1
    if c == 0 then stp n i (indices.take i ++ indices.drop (i + 1) ++ [indices.getD i 0]) (cycles.set i (n - i))
    else some ((indices.set i (indices.getD (n - c) 0)).set (n - c) (indices.getD i 0), cycles.set i c)
/-- a walk by f, at most so many steps -/
def walkL {α : Type} (f : α → Option α) : Nat → α → List α
  | 0, _ => []
  | k + 1, a => a :: (match f a with
    | some b => walkL f k b
    | none => [])
theorem walkL_next {α : Type} {f : α → Option α} : ∀ {k i : Nat} {a x : α}, (walkL f k a)[i]? = some x → (walkL f k a).length < k → f x = (walkL f k a)[i + 1]?
  | 0, _, _, _, h, _ => by simp [walkL] at h
  | k + 1, 0, a, x, h, hl => by
    simp only [walkL, List.getElem?_cons_zero, Option.some.injEq] at h
    subst h
    simp only [walkL, List.getElem?_cons_succ] at hl ⊢
    cases hf : f a with
    | none => simp
    | some b =>
      rw [hf] at hl
      cases k with
      | zero => simp [walkL] at hl
      | succ k => simp [walkL]
  | k + 1, i + 1, a, x, h, hl => by
    simp only [walkL, List.getElem?_cons_succ] at h hl ⊢
    cases hf : f a with
    | none => rw [hf] at h; simp at h
    | some b =>
      rw [hf] at h hl
      exact walkL_next h (by simpa using hl)
/-- the states of the walk over n things -/
def sts (n : Nat) : List (List Nat × List Nat) := walkL (fun s => stp n n s.1 s.2) 721 (List.range n, (List.range n).map fun i => n - i)
/-- the orders, as they come -/
def pms (n : Nat) : List (List Nat) := (sts n).map Prod.fst
theorem sts_len : ∀ n, n ≤ 6 → (sts n).length < 721 := by decide +kernel
theorem sts_ok : ∀ n, n ≤ 6 → ((sts n).all fun s => decide (s.1.length = n) && decide (s.2.length = n) && s.1.all fun i => decide (i < n)) = true := by decide +kernel
theorem sts_first (n : Nat) : (sts n)[0]? = some (List.range n, (List.range n).map fun i => n - i) := rfl
theorem sts_next {n i : Nat} (hn : n ≤ 6) {s : List Nat × List Nat} (h : (sts n)[i]? = some s) : stp n n s.1 s.2 = (sts n)[i + 1]? := walkL_next h (sts_len n hn)
theorem sts_at {n i : Nat} (hn : n ≤ 6) {s : List Nat × List Nat} (h : (sts n)[i]? = some s) : s.1.length = n ∧ s.2.length = n ∧ ∀ j ∈ s.1, j < n := by
  have := List.all_eq_true.mp (sts_ok n hn) s (List.mem_of_getElem? h)
  simp only [Bool.and_eq_true, decide_eq_true_eq, List.all_eq_true] at this
  exact ⟨this.1.1, this.1.2, this.2⟩
end ZP

set_option Elab.async false
set_option linter.all false
set_option maxRecDepth 100000
set_option maxHeartbeats 4000000
namespace ZP
open PySem PySem.Spec PyProof.Rows
open Sem (wp)
open ZN (IsTu)
def nums (l : List Nat) : List Value := l.map fun (i : Nat) => rawInt i
abbrev IsP (h : Heap) (c p : Addr) (st : Int) (n : Nat) (f3 : Value) (ns : List Nat) : Prop :=
  h.get? c = some { cls := .type "itertools.permutations", dict := none, data := .fields (Value.ref p :: rawInt st :: rawInt (n : Int) :: f3 :: nums ns).toArray, slots := #[] }
theorem nums_back (l : List Nat) : ((nums l).map fun | .int n _ => n.toNat | _ => 0) = l := by
  unfold nums
  rw [List.map_map]
  induction l with
  | nil => rfl
  | cons x l ih => rw [List.map_cons, ih]; rfl
section
variable {prog : Program} {w : World} {A : Around} {E : Value → Shared → Prop} {s : Shared}
theorem hand_out {c p : Addr} {its : List Value} {n : Nat} {f3 : Value} {ns idx : List Nat} {us : List Value} {hp0 h₁ : Heap} {g d tk os} {Q : Value → Shared → Prop} (hc₁ : IsP h₁ c p 1 n f3 ns) (hl : us.length ≤ 6) (hpk : ((idx.take n).map fun i => its.toArray.getD i .none) = us)
    (hs₁ : ∀ e o, e ≠ c → hp0.get? e = some o → h₁.get? e = some o) (hsz : h₁.objs.size = hp0.objs.size)
    (hQ : ∀ h' f3', IsP h' c p 1 n f3' ns → IsTu h' hp0.objs.size us → h'.objs.size = hp0.objs.size + 1 → (∀ e o, e ≠ c → hp0.get? e = some o → h'.get? e = some o) → Q (.ref hp0.objs.size) ⟨h', g, d, tk, os⟩) :
    wpAny (model prog w) A (do
      let t ← newTuple ((idx.take n).map fun i => its.toArray.getD i .none)
      let before ← field (.ref c) 3
      setField (.ref c) 3 t
      letGo [before] [t]
      (ret t : Sem Fin)) (fun fin s' => ∃ v, fin = .done (.ret v) ∧ Q v s') E ⟨h₁, g, d, tk, os⟩ := by
  rw [hpk]
  refine wpAny_bind (wpAny_newTuple ?_ (Nat.le_trans hl (by decide)))
  have hcl : c < h₁.objs.size := Heap.lt_size hc₁
  have hc₂ : IsP (h₁.push { cls := .type "tuple", data := .seq us.toArray }) c p 1 n f3 ns := Heap.get?_push_of_some _ hc₁
  have ht₂ : (h₁.push { cls := .type "tuple", data := .seq us.toArray }).get? h₁.objs.size = some { cls := .type "tuple", data := .seq us.toArray } := Heap.get?_push_size _ rfl
  refine wpAny_bind (wpAny_field hc₂ rfl (x := f3) (by simp) ?_)
  refine wpAny_bind (wpAny_setField_rec hc₂ (by simp) fun h₃ hc₃ hs₃ => ?_)
  have hc₃' : IsP h₃ c p 1 n (.ref h₁.objs.size) ns := by
    refine hc₃.trans ?_
    simp
  refine wpAny_bind (wpAny_letGo (wpAny_pure ⟨_, rfl, ?_⟩))
  show Q (.ref h₁.objs.size) _
  rw [hsz] at hc₃' ht₂ ⊢
  refine hQ h₃ _ hc₃' ?_ ?_ fun e o he q => hs₃.extBut e o he (Heap.get?_push_of_some _ (hs₁ e o he q))
  · exact hs₃.extBut _ _ (by rw [← hsz]; exact Nat.ne_of_gt hcl) ht₂
  · rw [hs₃.1, Heap.size_push, hsz]
end
end ZP

set_option Elab.async false
set_option linter.all false
set_option maxRecDepth 100000
set_option maxHeartbeats 4000000
namespace ZP
open PySem PySem.Spec PyProof.Rows
open Sem (wp)
open ZN (IsTu)
section
variable {prog : Program} {w : World} {A : Around} {E : Value → Shared → Prop} {s : Shared}
theorem F_stp {F : Nat → Nat → List Nat → List Nat → Option (List Nat × List Nat)} (z : ∀ n a b, F n 0 a b = none) (u : ∀ n i a b, F n (i + 1) a b = if (b.getD i 0 - 1 == 0) = true then F n i (a.take i ++ a.drop (i + 1) ++ [a.getD i 0]) (b.set i (n - i)) else some ((a.set i (a.getD (n - (b.getD i 0 - 1)) 0)).set (n - (b.getD i 0 - 1)) (a.getD i 0), b.set i (b.getD i 0 - 1))) (n : Nat) : ∀ i a b, F n i a b = stp n i a b
  | 0, a, b => z n a b
  | i + 1, a, b => by
    rw [u, F_stp z u n i]; rfl
theorem head_of {c : Addr} {its : List Value} {st : Int} {ns N : List Nat} {zz rr : Nat} {Q : Fin → Shared → Prop} {F : Nat → Nat → List Nat → List Nat → Option (List Nat × List Nat)} (z : ∀ n a b, F n 0 a b = none) (u : ∀ n i a b, F n (i + 1) a b = if (b.getD i 0 - 1 == 0) = true then F n i (a.take i ++ a.drop (i + 1) ++ [a.getD i 0]) (b.set i (n - i)) else some ((a.set i (a.getD (n - (b.getD i 0 - 1)) 0)).set (n - (b.getD i 0 - 1)) (a.getD i 0), b.set i (b.getD i 0 - 1)))
    (e1 : N = ns) (e2 : zz = its.length) (e3 : rr = its.length)
    (h : wpAny (model prog w) A (match st with
      | 0 => do
        setField (.ref c) 1 (rawInt 1)
        let t ← newTuple ((ns.take its.length).map fun i => its.toArray.getD i .none)
        let before ← field (.ref c) 3
        setField (.ref c) 3 t
        letGo [before] [t]
        ret t
      | 1 => match stp its.length its.length (ns.take its.length) (ns.drop its.length) with
        | some (indices, cycles) => do
          Builtin.Itertools.itSetNumbersFrom (.ref c) 4 (indices ++ cycles)
          let t ← newTuple ((indices.take its.length).map fun i => its.toArray.getD i .none)
          let before ← field (.ref c) 3
          setField (.ref c) 3 t
          letGo [before] [t]
          ret t
        | none => do
          setField (.ref c) 1 (rawInt 2)
          Builtin.Itertools.itStop
      | _ => do
        rule "itertools.permutations.ended"
        Builtin.Itertools.itStop) Q E s) :
    wpAny (model prog w) A (match st with
      | 0 => do
        setField (.ref c) 1 (rawInt 1)
        let t ← newTuple ((N.take rr).map fun i => its.toArray.getD i .none)
        let before ← field (.ref c) 3
        setField (.ref c) 3 t
        letGo [before] [t]
        ret t
      | 1 => match F zz rr (N.take zz) (N.drop zz) with
        | some (indices, cycles) => do
          Builtin.Itertools.itSetNumbersFrom (.ref c) 4 (indices ++ cycles)
          let t ← newTuple ((indices.take rr).map fun i => its.toArray.getD i .none)
          let before ← field (.ref c) 3
          setField (.ref c) 3 t
          letGo [before] [t]
          ret t
        | none => do
          setField (.ref c) 1 (rawInt 2)
          Builtin.Itertools.itStop
      | _ => do
        rule "itertools.permutations.ended"
        Builtin.Itertools.itStop) Q E s := by
  subst e1 e2 e3
  rw [F_stp z u]
  exact h
/-- up to where the state is asked -/
theorem next_head {c p : Addr} {its : List Value} {st : Int} {f3 : Value} {ns : List Nat} {Q : Fin → Shared → Prop} (hc : IsP s.heap c p st its.length f3 ns) (hp : IsTu s.heap p its)
    (h : wpAny (model prog w) A (match st with
      | 0 => do
        setField (.ref c) 1 (rawInt 1)
        let t ← newTuple ((ns.take its.length).map fun i => its.toArray.getD i .none)
        let before ← field (.ref c) 3
        setField (.ref c) 3 t
        letGo [before] [t]
        ret t
      | 1 => match stp its.length its.length (ns.take its.length) (ns.drop its.length) with
        | some (indices, cycles) => do
          Builtin.Itertools.itSetNumbersFrom (.ref c) 4 (indices ++ cycles)
          let t ← newTuple ((indices.take its.length).map fun i => its.toArray.getD i .none)
          let before ← field (.ref c) 3
          setField (.ref c) 3 t
          letGo [before] [t]
          ret t
        | none => do
          setField (.ref c) 1 (rawInt 2)
          Builtin.Itertools.itStop
      | _ => do
        rule "itertools.permutations.ended"
        Builtin.Itertools.itStop) Q E s) :
    wpAny (model prog w) A (Builtin.«itertools.permutations.__next__» ⟨[.ref c], []⟩) Q E s := by
  obtain ⟨hp0, g, d, tk, os⟩ := s
  show wpAny _ _ (field (.ref c) 0 >>= _) _ _ _
  refine wpAny_bind (wpAny_field hc rfl (x := .ref p) (by simp) ?_)
  show wpAny _ _ (Builtin.Itertools.itPoolItems (.ref p) >>= _) _ _ _
  refine wpAny_bind ?_
  unfold Builtin.Itertools.itPoolItems
  refine wpAny_bind (wpAny_seqItems hp rfl (wpAny_pure ?_))
  show wpAny _ _ (Builtin.Itertools.itIntField (.ref c) 2 >>= _) _ _ _
  refine wpAny_bind ?_
  unfold Builtin.Itertools.itIntField
  refine wpAny_bind (wpAny_field hc rfl (x := rawInt (its.length : Int)) (by simp) (wpAny_pure ?_))
  show wpAny _ _ (Builtin.Itertools.itNumbersFrom (.ref c) 4 >>= _) _ _ _
  refine wpAny_bind ?_
  unfold Builtin.Itertools.itNumbersFrom
  refine wpAny_bind (wpAny_load hc (wpAny_pure ?_))
  show wpAny _ _ (Builtin.Itertools.itIntField (.ref c) 1 >>= _) _ _ _
  refine wpAny_bind ?_
  unfold Builtin.Itertools.itIntField
  refine wpAny_bind (wpAny_field hc rfl (x := rawInt st) (by simp) (wpAny_pure ?_))
  have e1 : (((Value.ref p :: rawInt st :: rawInt (its.length : Int) :: f3 :: nums ns).toArray.toList.drop 4).map fun | .int n _ => n.toNat | _ => 0) = ns := nums_back ns
  have e2 : its.toArray.size = its.length := List.size_toArray ..
  have e3 : ((its.length : Int)).toNat = its.length := Int.toNat_natCast _
  refine head_of (F := ?F) ?z ?u e1 e2 e3 h
  case z => exact fun _ _ _ => rfl
  case u => exact fun _ _ _ _ => rfl
end
end ZP

set_option Elab.async false
set_option linter.all false
set_option maxRecDepth 100000
set_option maxHeartbeats 4000000
namespace ZP
open PySem PySem.Spec PyProof.Rows
open Sem (wp)
open ZN (IsTu)
section
variable {prog : Program} {w : World} {A : Around} {E : Value → Shared → Prop} {s : Shared}
theorem next_first {c p : Addr} {its us : List Value} {f3 : Value} {ns : List Nat} {Q : Value → Shared → Prop} (hcp : c ≠ p) (hc : IsP s.heap c p 0 its.length f3 ns) (hp : IsTu s.heap p its) (hl : us.length ≤ 6) (hpk : (((ns.take its.length).take its.length).map fun i => its.toArray.getD i .none) = us)
    (hQ : ∀ h' f3', IsP h' c p 1 its.length f3' ns → IsTu h' s.heap.objs.size us → h'.objs.size = s.heap.objs.size + 1 → (∀ d o, d ≠ c → s.heap.get? d = some o → h'.get? d = some o) → Q (.ref s.heap.objs.size) { s with heap := h' }) :
    wpAny (model prog w) A (Builtin.«itertools.permutations.__next__» ⟨[.ref c], []⟩) (fun fin s' => ∃ v, fin = .done (.ret v) ∧ Q v s') E s := by
  refine next_head hc hp ?_
  obtain ⟨hp0, g, d, tk, os⟩ := s
  show wpAny _ _ (setField (.ref c) 1 (rawInt 1) >>= _) _ _ _
  refine wpAny_bind (wpAny_setField_rec hc (by simp) fun h₁ hc₁ hs₁ => ?_)
  have hc₁' : IsP h₁ c p 1 its.length f3 ns := by
    refine hc₁.trans ?_
    simp
  rw [List.take_take, Nat.min_self] at hpk
  exact hand_out (idx := ns) hc₁' hl hpk (fun e o he q => hs₁.extBut e o he q) hs₁.1 hQ
theorem next_more {c p : Addr} {its us : List Value} {f3 : Value} {ns i' c' : List Nat} {Q : Value → Shared → Prop} (hcp : c ≠ p) (hc : IsP s.heap c p 1 its.length f3 ns) (hp : IsTu s.heap p its) (h6 : (i' ++ c').length ≤ 12) (hst : stp its.length its.length (ns.take its.length) (ns.drop its.length) = some (i', c')) (hl : us.length ≤ 6) (hpk : ((i'.take its.length).map fun i => its.toArray.getD i .none) = us)
    (hQ : ∀ h' f3', IsP h' c p 1 its.length f3' (i' ++ c') → IsTu h' s.heap.objs.size us → h'.objs.size = s.heap.objs.size + 1 → (∀ d o, d ≠ c → s.heap.get? d = some o → h'.get? d = some o) → Q (.ref s.heap.objs.size) { s with heap := h' }) :
    wpAny (model prog w) A (Builtin.«itertools.permutations.__next__» ⟨[.ref c], []⟩) (fun fin s' => ∃ v, fin = .done (.ret v) ∧ Q v s') E s := by
  refine next_head hc hp ?_
  obtain ⟨hp0, g, d, tk, os⟩ := s
  show wpAny _ _ (match stp its.length its.length (ns.take its.length) (ns.drop its.length) with
    | some (indices, cycles) => _
    | none => _) _ _ _
  rw [hst]
  show wpAny _ _ (Builtin.Itertools.itSetNumbersFrom (.ref c) 4 (i' ++ c') >>= _) _ _ _
  refine wpAny_bind ?_
  unfold Builtin.Itertools.itSetNumbersFrom
  have hfs : (fun fs : Array Value => fs.extract 0 4 ++ ((i' ++ c').map fun (n : Nat) => rawInt n).toArray) (Value.ref p :: rawInt 1 :: rawInt (its.length : Int) :: f3 :: nums ns).toArray = (Value.ref p :: rawInt 1 :: rawInt (its.length : Int) :: f3 :: nums (i' ++ c')).toArray := by
    simp [nums]
  dsimp only at hfs
  refine wpAny_updateFields hc rfl ?_ ?_
  rotate_left
  · rw [hfs]
    simp only [List.size_toArray, List.length_cons, nums, List.length_map]
    exact Nat.le_trans (Nat.add_le_add_right (Nat.add_le_add_right (Nat.add_le_add_right (Nat.add_le_add_right h6 1) 1) 1) 1) (by show 16 ≤ sizeLine + 3; decide)
  have hs₁ : Heap.SameBut c hp0 (hp0.update c (Obj.mapFields fun fs => fs.extract 0 4 ++ ((i' ++ c').map fun (n : Nat) => rawInt n).toArray)) := Heap.SameBut.update ..
  have hc₁ : IsP (hp0.update c (Obj.mapFields fun fs => fs.extract 0 4 ++ ((i' ++ c').map fun (n : Nat) => rawInt n).toArray)) c p 1 its.length f3 (i' ++ c') := by
    refine (Heap.get?_update_self _ hc rfl).trans ?_
    rw [← hfs]; rfl
  generalize hp0.update c (Obj.mapFields fun fs => fs.extract 0 4 ++ ((i' ++ c').map fun (n : Nat) => rawInt n).toArray) = h₁ at hs₁ hc₁ ⊢
  exact hand_out (idx := i') hc₁ hl hpk (fun e o he q => hs₁.extBut e o he q) hs₁.1 hQ
theorem next_end {c p : Addr} {its : List Value} {f3 : Value} {ns : List Nat} {Q : Fin → Shared → Prop} (hh : A.handled = none) (hc : IsP s.heap c p 1 its.length f3 ns) (hp : IsTu s.heap p its) (hst : stp its.length its.length (ns.take its.length) (ns.drop its.length) = none)
    (hE : ∀ h' e, (∀ d o, d ≠ c → s.heap.get? d = some o → h'.get? d = some o) → (∃ o, h'.get? e = some o ∧ o.cls = .type "StopIteration") → E (.ref e) { s with heap := h' }) :
    wpAny (model prog w) A (Builtin.«itertools.permutations.__next__» ⟨[.ref c], []⟩) Q E s := by
  refine next_head hc hp ?_
  obtain ⟨hp0, g, d, tk, os⟩ := s
  show wpAny _ _ (match stp its.length its.length (ns.take its.length) (ns.drop its.length) with
    | some (indices, cycles) => _
    | none => _) _ _ _
  rw [hst]
  show wpAny _ _ (setField (.ref c) 1 (rawInt 2) >>= _) _ _ _
  refine wpAny_bind (wpAny_setField_rec hc (by simp) fun h₁ hc₁ hs₁ => ?_)
  exact ZC.stop_ok (s := ⟨h₁, g, d, tk, os⟩) hh fun h' e k he => hE h' e (fun d o hd q => k d o (hs₁.extBut d o hd q)) he
end
end ZP

set_option Elab.async false
set_option linter.all false
set_option maxRecDepth 100000
set_option maxHeartbeats 4000000
/-! itertools.permutations(xs) as what is walked. -/
namespace ZP
open PySem PySem.Spec PyProof.Rows L2
open Sem (wp)
open ZN (IsTu)
/-- the orders of what stood in the sequence, each in a new tuple -/
def ItP (vs : List V) : It :=
  ⟨fun i _ => i < (sts vs.length).length,
    fun i H x H' => ∃ (T : Addr) (q : List Nat × List Nat), x = .ref T ∧ H T = none ∧ (sts vs.length)[i]? = some q ∧ H' = upd H T (.tup (q.1.map fun j => vs.getD j .non)),
    fun i _ => (sts vs.length).length ≤ i⟩
structure Tp (c p : Addr) (its : List Value) (i : Nat) (h : Heap) : Prop where
  pool : IsTu h p its
  at_ : (i = 0 ∧ ∃ f3, IsP h c p 0 its.length f3 (List.range its.length ++ (List.range its.length).map fun i => its.length - i)) ∨ ∃ k q f3, i = k + 1 ∧ (sts its.length)[k]? = some q ∧ IsP h c p 1 its.length f3 (q.1 ++ q.2)
theorem vals_pick {vs : List V} {its : List Value} (hv : Vals vs its) : ∀ {idx : List Nat}, (∀ j ∈ idx, j < vs.length) → Vals (idx.map fun j => vs.getD j .non) (idx.map fun j => its.toArray.getD j .none)
  | [], _ => .nil
  | j :: idx, h => by
    have hj := h j List.mem_cons_self
    have e1 : vs[j]? = some (vs.getD j .non) := by simp [hj]
    obtain ⟨u, hu, r⟩ := hv.get e1
    have e2 : its.toArray.getD j .none = u := by
      rw [Array.getD_eq_getD_getElem?]; simp [hu]
    exact .cons (by show RelV _ (its.toArray.getD j .none); rw [e2]; exact r) (vals_pick hv fun k m => h k (List.mem_cons_of_mem _ m))
section
variable {prog : Program} {w : World} {A : Around} {E : Value → Shared → Prop} {s : Shared}
theorem Tp.get {c p : Addr} {its : List Value} {i : Nat} {h : Heap} (t : Tp c p its i h) : ∃ st f3 ns, IsP h c p st its.length f3 ns := by
  rcases t.at_ with ⟨_, f3, e⟩ | ⟨k, q, f3, _, _, e⟩
  · exact ⟨_, _, _, e⟩
  · exact ⟨_, _, _, e⟩
theorem next_item {c p : Addr} {its us : List Value} {i : Nat} {q : List Nat × List Nat} {Q : Value → Shared → Prop} (hcp : c ≠ p) (hn : its.length ≤ 6) (t : Tp c p its i s.heap) (hi : (sts its.length)[i]? = some q) (hpk : (q.1.map fun j => its.toArray.getD j .none) = us)
    (hQ : ∀ h', Tp c p its (i + 1) h' → IsTu h' s.heap.objs.size us → h'.objs.size = s.heap.objs.size + 1 → (∀ d o, d ≠ c → s.heap.get? d = some o → h'.get? d = some o) → Q (.ref s.heap.objs.size) { s with heap := h' }) :
    wpAny (model prog w) A (Builtin.«itertools.permutations.__next__» ⟨[.ref c], []⟩) (fun fin s' => ∃ v, fin = .done (.ret v) ∧ Q v s') E s := by
  obtain ⟨l1, l2, _⟩ := sts_at hn hi
  have hl : us.length ≤ 6 := by rw [← hpk, List.length_map, l1]; exact hn
  rcases t.at_ with ⟨rfl, f3, hc⟩ | ⟨k, r, f3, rfl, hk, hc⟩
  · rw [sts_first] at hi
    cases hi
    refine next_first hcp hc t.pool hl ?_ fun h' f3' a1 a2 a3 a4 => hQ h' ⟨a4 _ _ (Ne.symm hcp) t.pool, .inr ⟨0, _, f3', rfl, sts_first _, a1⟩⟩ a2 a3 a4
    rw [← hpk]
    congr 1
    rw [List.take_take, Nat.min_self]
    exact List.take_left' (by simp)
  · obtain ⟨k1, k2, _⟩ := sts_at hn hk
    have hst := sts_next hn hk
    rw [hi] at hst
    refine next_more hcp hc t.pool (i' := q.1) (c' := q.2) (by rw [List.length_append]; omega) ?_ hl ?_ fun h' f3' a1 a2 a3 a4 => hQ h' ⟨a4 _ _ (Ne.symm hcp) t.pool, .inr ⟨k + 1, q, f3', rfl, hi, a1⟩⟩ a2 a3 a4
    · rw [List.take_left' k1, List.drop_left' k1]; exact hst
    · rw [← hpk, List.take_of_length_le (by omega)]
theorem pyNext_item {c p : Addr} {its us : List Value} {i : Nat} {q : List Nat × List Nat} {Q : Option Value → Shared → Prop} (hcp : c ≠ p) (hn : its.length ≤ 6) (t : Tp c p its i s.heap) (hi : (sts its.length)[i]? = some q) (hpk : (q.1.map fun j => its.toArray.getD j .none) = us)
    (hQ : ∀ h', Tp c p its (i + 1) h' → IsTu h' s.heap.objs.size us → h'.objs.size = s.heap.objs.size + 1 → (∀ d o, d ≠ c → s.heap.get? d = some o → h'.get? d = some o) → Q (some (.ref s.heap.objs.size)) { s with heap := h' }) :
    wpAny (model prog w) A (pyNext (.ref c)) Q E s := by
  obtain ⟨st, f3, ns, hc⟩ := t.get
  have hT : s.TypeIs (.ref c) "itertools.permutations" := ⟨_, hc, rfl⟩
  unfold pyNext
  exact wpAny_bind (wpAny_attempt (wpAny_callSpecial?_slot (name := Str.ofString "__next__") hT F.slot_perms_next
    (wpAny_call_entry F.slot_perms_next hT F.entry_perms_next
      (next_item hcp hn t hi hpk fun h' a1 a2 a3 a4 => wpAny_pure (hQ h' a1 a2 a3 a4)) (F.args_perms_next_1 _))))
theorem pyNext_end {c p : Addr} {its : List Value} {i : Nat} {Q : Option Value → Shared → Prop} (hh : A.handled = none) (hn : its.length ≤ 6) (t : Tp c p its i s.heap) (hi : (sts its.length).length ≤ i)
    (hQ : ∀ h', (∀ d o, d ≠ c → s.heap.get? d = some o → h'.get? d = some o) → Q none { s with heap := h' }) : wpAny (model prog w) A (pyNext (.ref c)) Q E s := by
  obtain ⟨st, f3, ns, hc0⟩ := t.get
  have hT : s.TypeIs (.ref c) "itertools.permutations" := ⟨_, hc0, rfl⟩
  unfold pyNext
  refine wpAny_bind (wpAny_attempt (wpAny_callSpecial?_slot (name := Str.ofString "__next__") hT F.slot_perms_next
    (wpAny_call_entry F.slot_perms_next hT F.entry_perms_next ?_ (F.args_perms_next_1 _))))
  rcases t.at_ with ⟨rfl, f3, hc⟩ | ⟨k, r, f3, rfl, hk, hc⟩
  · have := (List.getElem?_eq_some_iff.mp (sts_first its.length)).1
    omega
  · obtain ⟨k1, k2, _⟩ := sts_at hn hk
    have hst := sts_next hn hk
    rw [List.getElem?_eq_none hi] at hst
    refine next_end hh hc t.pool (by rw [List.take_left' k1, List.drop_left' k1]; exact hst) fun h' e k he => ?_
    obtain ⟨o, ho, hcl⟩ := he
    refine wpAny_bind (wpAny_isInstance (T := "StopIteration") (b := true) ⟨o, ho, hcl⟩ isSubtype_stop ?_)
    exact wpAny_pure (hQ _ k)
theorem pyIter_ok {c p : Addr} {st : Int} {f3 : Value} {n : Nat} {ns : List Nat} {Q : Value → Shared → Prop} (hc : IsP s.heap c p st n f3 ns) (h : Q (.ref c) s) : wpAny (model prog w) A (pyIter (.ref c)) Q E s := by
  have hT : s.TypeIs (.ref c) "itertools.permutations" := ⟨_, hc, rfl⟩
  refine wpAny_pyIter_slot hT F.slot_perms_iter (wpAny_call_entry F.slot_perms_iter hT F.entry_perms_iter ?_ (F.args_perms_iter_1 _))
  show wpAny _ _ (ret (.ref c)) _ _ s
  exact wpAny_pure ⟨_, rfl, "itertools.permutations", _, hT, F.slot_perms_next.lookup, h⟩
end
theorem turn_perms {P : Program} {w : World} {K : PySem.W.Frag} {tg : Expr} {vs : List V} {its : List Value} {c p : Addr} (hcp : c ≠ p) (hv : Vals vs its) (hn : vs.length ≤ 6) : Turn P w K tg (ItP vs) [c, p] c (Tp c p its) where
  mem := by simp
  obj := fun i h t b hb => by
    have e' : b = c ∨ b = p := by simpa using hb
    obtain ⟨st, f3, ns, hc⟩ := t.get
    rcases e' with z | z
    · rw [z]; exact ⟨_, hc, fun v q => nomatch q⟩
    · rw [z]; exact ⟨_, t.pool, fun v q => nomatch q⟩
  keep := fun i h h' t k => ⟨k p (by simp) _ t.pool, by
    rcases t.at_ with ⟨e, f3, hc⟩ | ⟨j, q, f3, e, hk, hc⟩
    · exact .inl ⟨e, f3, k c (by simp) _ hc⟩
    · exact .inr ⟨j, q, f3, e, hk, k c (by simp) _ hc⟩⟩
  item := by
    intro X hP hw hK hcalm i pins s σ H E I hf t hg
    subst hP hw hK
    have hl := hv.length
    have hi : (sts its.length)[i]? = some ((sts vs.length)[i]) := by
      rw [← hl]; exact List.getElem?_eq_getElem hg
    obtain ⟨a1, a2, a3⟩ := sts_at hn (List.getElem?_eq_getElem hg)
    have pk := vals_pick hv a3
    refine pyNext_item hcp (by omega) t hi rfl fun h' t' hT hsz hch => ?_
    obtain ⟨st, f3, ns, hc'⟩ := t'.get
    refine ⟨_, rfl, go_of hc' rfl rfl (by decide) ?_⟩
    have new : ObjOk X.prog X.w (upd H s.heap.objs.size (.tup (((sts vs.length)[i]).1.map fun j => vs.getD j .non))) h' s.heap.objs.size (.tup (((sts vs.length)[i]).1.map fun j => vs.getD j .non)) :=
      ⟨by rw [List.length_map, a1]; exact Nat.le_trans hn (by decide), _, pk, ⟨_, hT, rfl, _, rfl⟩⟩
    have I1 := I.turnedNew (t' := s.toks) (ch := [c, p]) (fun b o hb q => hch b o (fun z => hb (by simp [z])) q) hf (Nat.le_refl _) new
    refine ⟨.ref s.heap.objs.size, _, I1, rfl, ⟨_, _, rfl, I.hok.fresh (Nat.le_refl _), List.getElem?_eq_getElem hg, rfl⟩, t', fun b hb => ?_⟩
    obtain ⟨st0, f30, ns0, hc0⟩ := t.get
    have hb' : b < s.heap.objs.size := by
      have e' : b = c ∨ b = p := by simpa using hb
      rcases e' with z | z
      · rw [z]; exact Heap.lt_size hc0
      · rw [z]; exact Heap.lt_size t.pool
    rw [upd_ne (Nat.ne_of_lt hb')]
    exact (hf b hb).1
  done := by
    intro X hP hw hK hcalm i pins s σ H E I hf t hg
    subst hP hw hK
    have hl := hv.length
    exact pyNext_end (I.ok.hd hcalm) (by omega) t (by rw [← hl]; exact hg) fun h' hch => ⟨rfl, I.turnedL (t' := s.toks) (ch := [c, p]) (fun b o hb q => hch b o (fun z => hb (by simp [z])) q) hf⟩
  self := fun A i s Q E t h => by
    obtain ⟨st, f3, ns, hc⟩ := t.get
    exact pyIter_ok hc h
end ZP

set_option Elab.async false
set_option linter.all false
set_option maxRecDepth 100000
set_option maxHeartbeats 4000000
namespace ZP
open PySem PySem.Spec PyProof.Rows L2
open Sem (wp)
open ZN (IsTu)
section
variable {prog : Program} {w : World} {A : Around} {E : Value → Shared → Prop} {s : Shared}
/-- the numbers of a range; the heap only grows -/
theorem collect_rg {r : Addr} {a b c : Int} {t u v : Tok} {n : Nat} {Q : List Value → Shared → Prop} (hh : A.handled = none) (hr : IsRange s.heap r a b c t u v) (hsm : Builtin.Range.small a b c = true) (hn : Builtin.Range.rangeSize a b c = n) (hl : n ≤ 2 ^ 24)
    (hQ : ∀ (h' : Heap) (tk : Nat) (acc : Array Value), (∀ d o, s.heap.get? d = some o → h'.get? d = some o) → s.heap.objs.size ≤ h'.objs.size → ItemsOf (fun i v => ∃ t, v = .int (a + i * c) t) acc n → Q acc.toList { s with heap := h', toks := tk }) :
    wpAny (model prog w) A (collect (.ref r)) Q E s := by
  let S := s.heap.objs.size
  let h₀ := s.heap.push { cls := .type "list", data := .seq ([] : List Value).toArray }
  have g₀ : h₀.get? S = some { cls := .type "list", data := .seq #[] 0 } := Heap.get?_push_size _ rfl
  let Good : Result → Shared → Prop := fun rr s' => rr = .ok (.ret (.ref S)) ∧ ∃ (h' : Heap) (tk : Nat) (acc : Array Value) (c' : Nat), s' = { s with heap := h', toks := tk } ∧
      (∀ d o, s.heap.get? d = some o → h'.get? d = some o) ∧ h'.get? S = some { cls := .type "list", dict := none, data := .seq acc c', slots := #[] } ∧ ItemsOf (fun i v => ∃ t, v = .int (a + i * c) t) acc n
  have last : ∀ rr s', Good rr s' → wpAny (model prog w) A (load S >>= fun u => match u.data with
      | .seq ys _ => pure ys.toList
      | _ => unsupported "internal:collect") Q E s' := by
    rintro rr s' ⟨_, h', tk, acc, c', rfl, hk, hS, hi⟩
    exact wpAny_bind (wpAny_load hS (wpAny_pure (hQ h' tk acc hk (Nat.le_of_lt (Heap.lt_size hS)) hi)))
  have ext := wpAny_extend_range (prog := prog) (w := w) (A := A) (R := Good) (s := { s with heap := h₀ }) hh (Heap.get?_push_of_some _ hr) hsm hn hl S (.ref S) 0 g₀
    (fun h' tk acc c' hk e hi => ⟨rfl, h', tk, acc, c', rfl, fun d o q => hk d o (Nat.ne_of_lt (Heap.lt_size q)) (Heap.get?_push_of_some _ q), e, hi⟩)
  unfold collect
  refine wpAny_bind (wpAny_runValue (codeAny_builtin F.entry_proto_collect ?_))
  rw [Around.under_plainId F.plain_proto_collect _]
  refine wpAny_bind (m := newList []) (wpAny_newObj_type (wpAny_pure ⟨plainId_quiet F.plain_list_iadd _, codeAny_builtin F.entry_list_iadd ?_⟩))
  rw [Around.under_plainId F.plain_list_iadd _]
  refine wpAny_mono ext (fun fin s' h => ?_) fun e s' h => absurd h.1 (by simp)
  cases fin with
  | done f =>
    have e := h.1
    cases e
    exact last _ _ h
  | again c' => exact ⟨h.1, codeAny_mono h.2 fun rr s'' hr => by
      have e := hr.1
      subst e
      exact last _ _ hr⟩
theorem bind_named (a : Value) : Builtin.Itertools.itBindNamed "permutations" ["iterable", "r"] 1 2 [a] [] = pure [some a, none] := by first | rfl | kernel_rfl
theorem has_dict : typeHasDict (.type "itertools.permutations") = false := by first | rfl | kernel_rfl | decide +kernel
end
end ZP

set_option Elab.async false
set_option linter.all false
set_option maxRecDepth 100000
set_option maxHeartbeats 4000000
namespace ZP
open PySem PySem.Spec PyProof.Rows L2
open Sem (wp)
open ZN (IsTu)
theorem rg_facts : ∀ n : Nat, n ≤ 6 → Builtin.Range.small 0 (n : Int) 1 = true ∧ Builtin.Range.rangeSize 0 (n : Int) 1 = (n : Int) := by decide +kernel
theorem meets_new {prog : Program} {w : World} (r : Addr) (k : Int) (t u v : Tok) (n : Nat) (hk : k = n) (hn : n ≤ 6) :
    MeetsIn prog w (Builtin.«itertools.permutations.__new__» ⟨[.type "itertools.permutations", .ref r], []⟩) (fun A R s => A.handled = none ∧ IsRange s.heap r 0 k 1 t u v ∧
      ∀ h' tk c p its, c ≠ p → its.length = n → Vals ((List.range n).map fun (i : Nat) => V.int i) its → Tp c p its 0 h' → s.heap.objs.size ≤ c → s.heap.objs.size ≤ p → (∀ d o, s.heap.get? d = some o → h'.get? d = some o) → R (.ok (.ret (.ref c))) { s with heap := h', toks := tk }) := by
  refine .of_wp fun A R s h => ?_
  obtain ⟨hp, g, d, tk0, os⟩ := s; obtain ⟨hh, hr, h⟩ := h
  have hsub := PySem.F.sub_perms
  unfold Builtin.«itertools.permutations.__new__»
  refine wpAny_bind ?_
  unfold Builtin.Itertools.itClassAndRest
  dsimp only
  rw [show ("itertools." ++ "permutations" : String) = "itertools.permutations" from rfl, hsub]
  refine wpAny_bind (wpAny_pure ?_)
  simp only [Bool.not_true, Bool.false_eq_true, if_false]
  refine wpAny_bind (wpAny_pure ?_)
  simp only [Bool.not_true, Bool.false_eq_true, if_false]
  refine wpAny_pure ?_
  dsimp only
  rw [bind_named]
  refine wpAny_bind (wpAny_pure ?_)
  dsimp only
  subst hk
  obtain ⟨hs, hz⟩ := rg_facts n hn
  refine wpAny_bind (collect_rg hh hr hs hz (Nat.le_trans hn (by decide)) fun h₁ tk acc k₁ z₁ hi => ?_)
  obtain ⟨hil, hiv⟩ := hi
  have hl : acc.toList.length = n := by rw [Array.length_toList]; exact hil
  have hL : ((acc.toList.length : Nat) : Int) = (n : Int) := by rw [hl]
  simp only [Option.getD_none]
  refine wpAny_bind (wpAny_pure ?_)
  rw [if_neg (by omega), if_neg (by unfold Builtin.Itertools.itTooMany; simp; omega)]
  show wpAny _ _ (newTuple acc.toList >>= _) _ _ _
  refine wpAny_bind (wpAny_newTuple ?_ (by rw [hl]; exact Nat.le_trans hn (by decide)))
  refine wpAny_bind ?_
  unfold Builtin.Itertools.itNewRecord
  rw [has_dict]
  simp only [Bool.not_false, if_true]
  have hrec : ([Value.ref h₁.objs.size, rawInt (if ((acc.toList.length : Nat) : Int).toNat > acc.toList.length then 2 else 0), rawInt (((acc.toList.length : Nat) : Int).toNat : Int), Value.none] ++ (List.range acc.toList.length).map (fun (i : Nat) => rawInt (i : Int)) ++ (List.range ((acc.toList.length : Nat) : Int).toNat).map (fun (i : Nat) => rawInt (((acc.toList.length : Nat) : Int) - (i : Int)))) = (Value.ref h₁.objs.size :: rawInt 0 :: rawInt ((acc.toList.length : Nat) : Int) :: Value.none :: nums (List.range acc.toList.length ++ (List.range acc.toList.length).map fun i => acc.toList.length - i)) := by
    generalize acc.toList.length = m
    rw [Int.toNat_natCast, if_neg (Nat.lt_irrefl m)]
    have e : (List.range m).map (fun (i : Nat) => rawInt ((m : Int) - (i : Int))) = (List.range m).map fun i => rawInt ((m - i : Nat) : Int) := by
      apply List.map_congr_left
      intro i hi
      rw [List.mem_range] at hi
      show rawInt ((m : Int) - (i : Int)) = rawInt ((m - i : Nat) : Int)
      rw [Int.ofNat_sub (Nat.le_of_lt hi)]
    rw [e]
    simp only [nums, List.map_append, List.map_map, List.cons_append, List.nil_append, Function.comp_def]
  rw [hrec]
  refine wpAny_newObj_type ?_ ?_
  rotate_left
  · refine Nat.le_trans (m := 16) ?_ (by decide)
    simp only [List.size_toArray, List.length_cons, nums, List.length_map, List.length_append, List.length_range, hl]
    omega
  refine wpAny_pure ⟨_, rfl, ?_⟩
  have hsz : (h₁.push { cls := .type "tuple", data := .seq acc.toList.toArray }).objs.size = h₁.objs.size + 1 := Heap.size_push ..
  refine h _ tk _ h₁.objs.size acc.toList ?_ hl ?_ ⟨?_, .inl ⟨rfl, .none, ?_⟩⟩ ?_ z₁ fun d o q => Heap.get?_push_of_some _ (Heap.get?_push_of_some _ (k₁ d o q))
  · rw [hsz]; exact Nat.succ_ne_self _
  · have := vals_rg (a := 0) (b := (n : Int)) (acc := acc) (by rw [show ((n : Int) - 0).toNat = n by omega]; exact ⟨hil, hiv⟩)
    simpa [rgV] using this
  · exact Heap.get?_push_of_some _ (Heap.get?_push_size _ rfl)
  · exact Heap.get?_push_size _ rfl
  · rw [hsz]; exact Nat.le_succ_of_le z₁
end ZP

set_option Elab.async false
set_option linter.all false
set_option maxRecDepth 100000
set_option maxHeartbeats 4000000
namespace ZP
open PySem PySem.Spec PyProof.Rows L2
open Sem (wp)
open ZN (IsTu)
section
variable {prog : Program} {w : World} {A : Around} {E : Value → Shared → Prop} {s : Shared}
theorem call_perms {r : Addr} {k : Int} {t u v : Tok} {n : Nat} {Q : Value → Shared → Prop} (hh : A.handled = none) (hk : k = n) (hn : n ≤ 6) (hr : IsRange s.heap r 0 k 1 t u v)
    (h : ∀ h' tk c p its, c ≠ p → its.length = n → Vals ((List.range n).map fun (i : Nat) => V.int i) its → Tp c p its 0 h' → s.heap.objs.size ≤ c → s.heap.objs.size ≤ p → (∀ d o, s.heap.get? d = some o → h'.get? d = some o) → Q (.ref c) { s with heap := h', toks := tk }) :
    wpAny (model prog w) A (call (.type "itertools.permutations") [.ref r]) Q E s := by
  refine callType_newIn F.called_perms (by decide) (F.typeCall_perms _) (F.newCall_perms _) (fun obj => F.args_object_init_2 obj _) F.entry_perms_new (meets_new r k t u v n hk hn) ⟨hh, hr, fun h' tk c p its hcp hl hv t z1 z2 hk => ?_⟩
  obtain ⟨st, f3, ns, hc⟩ := t.get
  exact ⟨⟨_, hc, rfl⟩, h h' tk c p its hcp hl hv t z1 z2 hk⟩
end
def iPerms (te : L2.St → Hp → (Int → Int → Hp → Prop) → Prop) : TI := fun σ H R => te σ H fun a b H1 => a = 0 ∧ ∃ n : Nat, b = n ∧ n ≤ 6 ∧ R (ItP ((List.range n).map fun (i : Nat) => V.int i)) H1
theorem pi_perms {X : Cx} {tg e : Expr} {x : Str} {te : L2.St → Hp → (Int → Int → Hp → Prop) → Prop} {p pos : Pos} (hcalm : X.calm = true) (hg : Gl X x) (hm : X.mg x = some (.type "itertools.permutations")) (he : PRg X e te) (hdb : (x == ("__debug__" : Str)) = false := by decide)
    (hs : starEach [e] X.env = [(false, eval e X.env)] := by rfl) : PI X tg (.Call (.Name x p) [e] [] pos) (iPerms te) := by
  refine ⟨fun pins s σ H R I h => ?_⟩
  refine Call_name1 hs (ld_glob I hg hm (PySem.callWith_type1 (thn (he pins s σ H _ I h) fun v0 s1 ⟨r, a, b, t, u, v, H1, hv0, hr, I1, ha, n, hb, hn, q⟩ => ?_)) hdb)
  subst hv0 ha
  refine call_perms (I1.ok.hd hcalm) hb hn hr fun h' tk c p its hcp hl hv tp z1 z2 hk => ?_
  obtain ⟨st, f3, ns, hc⟩ := tp.get
  refine pyIter_ok hc ?_
  have I2 : Inv X pins σ H1 { s1 with heap := h', toks := tk } := I1.kept (t' := tk) hk
  refine ⟨c, [c, p], _, _, H1, rfl, I2, turn_perms hcp hv (by simpa using hn), tp, fun b hb => ?_, q⟩
  have hle : s1.heap.objs.size ≤ b := by
    have e' : b = c ∨ b = p := by simpa using hb
    rcases e' with z | z
    · rw [z]; exact z1
    · rw [z]; exact z2
  exact I1.fpOk hle (I1.hok.fresh hle)
end ZP

set_option Elab.async false
set_option linter.all false
set_option maxRecDepth 100000
set_option maxHeartbeats 4000000
/-! permutations(range(n)) over data. -/
namespace DL
open PySem PySem.Spec PyProof.Rows L2
open Evl (Ex)
open ZP (ItP iPerms pi_perms sts sts_at pms)
def pmsD (n : Nat) : List D := (sts n).map fun q => .tup (q.1.map fun (j : Nat) => .int j)
section
variable {K : PySem.W.Frag} {B : Hp}
theorem itP_ok {n : Nat} (hn : n ≤ 6) : ItOk K B (ItP ((List.range n).map fun (i : Nat) => V.int i)) (pmsD n) := by
  have hl : ((List.range n).map fun (i : Nat) => V.int i).length = n := by simp
  refine fun i H' e => ⟨fun d hd => ?_, fun hz => ?_⟩
  · unfold pmsD at hd
    rw [List.getElem?_map, Option.map_eq_some_iff] at hd
    obtain ⟨q, hq, rfl⟩ := hd
    obtain ⟨a1, a2, a3⟩ := sts_at hn hq
    refine ⟨by show i < (sts _).length; rw [hl]; exact (List.getElem?_eq_some_iff.mp hq).1, fun x H'' y => ?_⟩
    obtain ⟨T, q', rfl, nT, hq', rfl⟩ := y
    rw [hl, hq] at hq'
    cases hq'
    refine ⟨Evl.Ex.new nT, fun B2 e2 e3 => .tup (e3 _ _ (stb_tup upd_same)) ?_⟩
    have : ∀ idx : List Nat, (∀ j ∈ idx, j < n) → DtL K B2 (idx.map fun j => ((List.range n).map fun (i : Nat) => V.int i).getD j .non) (idx.map fun (j : Nat) => D.int j) := by
      intro idx
      induction idx with
      | nil => intro _; exact .nil
      | cons j idx ih =>
        intro h
        have hj := h j List.mem_cons_self
        refine .cons ?_ (ih fun k m => h k (List.mem_cons_of_mem _ m))
        have : ((List.range n).map fun (i : Nat) => V.int i).getD j .non = V.int j := by simp [hj]
        show Dt K B2 (((List.range n).map fun (i : Nat) => V.int i).getD j .non) (.int j)
        rw [this]
        exact .int _
    exact this _ a3
  · show (sts _).length ≤ i
    unfold pmsD at hz
    rw [List.length_map] at hz
    rw [hl]; exact hz
end
section
variable {X : Cx} {tg e : Expr} {x : Str} {ma : ME} {p p2 pos pos2 : Pos}
def mPerms (m : ME) : MI := fun ρ => match m ρ with
  | some r => match r.data with
    | .int n => if 0 ≤ n ∧ n ≤ 6 then some (true, pmsD n.toNat) else none
    | _ => none
  | none => none
theorem xi_perms (hc : X.calm = true) (hg : Gl X x) (hm : X.mg x = some (.type "itertools.permutations")) (hg2 : Gl X "range") (hm2 : X.mg "range" = none) (ha : XE X e ma) (hdb : (x == ("__debug__" : Str)) = false := by decide)
    (na : starEach [e] X.env = (false, eval e X.env) :: starEach [] X.env := by rfl) (na2 : starEach [.Call (.Name "range" p2) [e] [] pos2] X.env = [(false, eval (.Call (.Name "range" p2) [e] [] pos2) X.env)] := by rfl) :
    XI X tg (.Call (.Name x p) [.Call (.Name "range" p2) [e] [] pos2] [] pos) (mPerms ma) := by
  obtain ⟨t, pa, s⟩ := ha
  refine ⟨_, pi_perms hc hg hm (prg_1 hg2 hm2 pa na) hdb na2, fun G H σ ρ fp fx items Q R hm q => ?_⟩
  unfold mPerms at hm
  split at hm
  rotate_left
  · cases hm
  rename_i r e1
  split at hm
  rotate_left
  · cases hm
  rename_i n e2
  split at hm
  rotate_left
  · cases hm
  rename_i hn
  cases hm
  refine s G H σ ρ fp r _ R e1 fun v F H1 x1 o1 => ?_
  have z := o1.data
  rw [e2] at z
  cases dt_int z
  exact ⟨n, rfl, rfl, n.toNat, by omega, by omega, q _ H1 x1 (itP_ok (by omega))⟩
end
end DL

set_option Elab.async false
set_option linter.all false
set_option maxRecDepth 100000
set_option maxHeartbeats 4000000
/-! zip(a list, a tuple). -/
namespace ZM
open PySem PySem.Spec PyProof.Rows L2
open Sem (wp)
section
variable {prog : Program} {w : World} {A : Around} {E : Value → Shared → Prop} {s : Shared}
/-- all but these four stay -/
abbrev Chg4 (z TO i1 i2 : Addr) (h h' : Heap) : Prop := ∀ c o, c ≠ z → c ≠ TO → c ≠ i1 → c ≠ i2 → h.get? c = some o → h'.get? c = some o
/-- the walker's state: a list's iterator and a tuple's -/
structure Two (h : Heap) (z TI TO i1 i2 l1 l2 : Addr) (i : Nat) (f0 : Value) : Prop where
  hz : IsZip h z TI TO f0
  hTI : IsPair h TI (.ref i1) (.ref i2)
  hTO : ∃ x y, IsPair h TO x y
  h1 : h.IsListIter i1 l1 i
  h2 : h.IsTupleIter i2 l2 i
theorem next_two {z TI TO i1 i2 l1 l2 : Addr} {i : Nat} {xs ys : Array Value} {x y : Value} {Q : Value → Shared → Prop} (D : ZipApart z TI TO i1 i2 l1 l2) (T : Two s.heap z TI TO i1 i2 l1 l2 i .none)
    (hl1 : s.heap.IsList l1 xs) (hl2 : s.heap.IsTuple l2 ys) (hx : xs[i]? = some x) (hy : ys[i]? = some y)
    (hQ : ∀ h', Two h' z TI TO i1 i2 l1 l2 (i + 1) (rawInt s.heap.objs.size) → IsPair h' s.heap.objs.size x y → h'.objs.size = s.heap.objs.size + 1 → Chg4 z TO i1 i2 s.heap h' → Q (.ref s.heap.objs.size) { s with heap := h' }) :
    wpAny (model prog w) A (Builtin.«zip.__next__» ⟨[.ref z], []⟩) (fun fin s' => ∃ v, fin = .done (.ret v) ∧ Q v s') E s := by
  obtain ⟨hz, hTI, ⟨a, b, hTO⟩, h1, h2⟩ := T
  have kz1 := D.i1z
  have kz2 := D.i2z
  have hlt : z < s.heap.objs.size := Heap.lt_size hz
  show wpAny _ _ (field (.ref z) 2 >>= _) _ _ _
  refine wpAny_bind (wpAny_field hz rfl (x := .bool false) rfl ?_)
  show wpAny _ _ (field (.ref z) 3 >>= _) _ _ _
  refine wpAny_bind (wpAny_field hz rfl (x := .ref TI) rfl ?_)
  refine wpAny_bind (wpAny_seqItems hTI rfl ?_)
  show wpAny _ _ (Builtin.SmallTypes.ownedTupleIsFree (.ref z) >>= _) _ _ _
  refine wpAny_bind ?_
  unfold Builtin.SmallTypes.ownedTupleIsFree
  refine wpAny_bind (wpAny_field hz rfl (x := .none) rfl (wpAny_pure ?_))
  simp only [if_true]
  refine wpAny_bind (wpAny_rule ?_)
  refine wpAny_bind (wpAny_field hz rfl (x := .ref TO) rfl ?_)
  refine wpAny_bind (wpAny_setField_rec hz (by simp) fun ha hza sa => ?_)
  have hza : IsZip ha z TI TO .ellipsis := hza
  have TOa : IsPair ha TO a b := sa.extBut _ _ D.TOz hTO
  refine wpAny_bind ?_
  simp only [List.zipIdx_cons, List.zipIdx_nil, List.forIn_cons, List.forIn_nil]
  -- the list's item
  refine wpAny_bind (wpAny_bind (wpAny_onRaise ?_))
  show wpAny _ _ (Builtin.SmallTypes.nextOf (.ref i1) >>= _) _ _ _
  refine wpAny_bind (wpAny_nextOf_list_item (h1.extBut sa.extBut kz1) (hl1.extBut sa.extBut D.l1z) hx fun hb it1 sb => wpAny_pure ?_)
  have TOb : IsPair hb TO a b := sb.extBut _ _ D.TOi1 TOa
  refine wpAny_bind (wpAny_seqItems TOb rfl ?_)
  refine wpAny_bind (wpAny_updateSeq_pair TOb fun hc TOc sc => ?_)
  have TOc : IsPair hc TO x b := TOc
  refine wpAny_bind (wpAny_letGo (wpAny_pure ?_))
  -- the tuple's item
  refine wpAny_bind (wpAny_bind (wpAny_onRaise ?_))
  show wpAny _ _ (Builtin.SmallTypes.nextOf (.ref i2) >>= _) _ _ _
  have it2 : hc.IsTupleIter i2 l2 i := ((h2.extBut sa.extBut kz2).extBut sb.extBut D.i12.symm).extBut sc.extBut D.TOi2.symm
  have tl2 : hc.IsTuple l2 ys := ((hl2.extBut sa.extBut D.l2z).extBut sb.extBut D.l2i1).extBut sc.extBut D.l2TO
  refine wpAny_bind (RZ.nextOf_tuple_item (s := { s with heap := hc }) it2 tl2 hy fun hd it2d sd => wpAny_pure ?_)
  have TOd : IsPair hd TO x b := sd.extBut _ _ D.TOi2 TOc
  refine wpAny_bind (wpAny_seqItems TOd rfl ?_)
  refine wpAny_bind (wpAny_updateSeq_pair TOd fun he TOe se => ?_)
  have TOe : IsPair he TO x y := TOe
  refine wpAny_bind (wpAny_letGo (wpAny_pure (wpAny_pure ?_)))
  refine wpAny_bind (wpAny_seqItems TOe rfl ?_)
  refine wpAny_bind (wpAny_newTuple ?_)
  have size_e : he.objs.size = s.heap.objs.size := by rw [se.1, sd.1, sc.1, sb.1, sa.1]
  have stay : Chg4 z TO i1 i2 s.heap he := fun c o c1 c2 c3 c4 e => se.extBut _ _ c2 (sd.extBut _ _ c4 (sc.extBut _ _ c2 (sb.extBut _ _ c3 (sa.extBut _ _ c1 e))))
  have ze : IsZip he z TI TO .ellipsis := se.extBut _ _ D.TOz.symm (sd.extBut _ _ kz2.symm (sc.extBut _ _ D.TOz.symm (sb.extBut _ _ kz1.symm hza)))
  have e1 : he.IsListIter i1 l1 (i + 1) := ((it1.extBut sc.extBut D.TOi1.symm).extBut sd.extBut D.i12).extBut se.extBut D.TOi1.symm
  have e2 : he.IsTupleIter i2 l2 (i + 1) := it2d.extBut se.extBut D.TOi2.symm
  show wpAny _ _ (Builtin.SmallTypes.ownedTupleHandOut (.ref z) (.ref he.objs.size) >>= _) _ _ _
  refine wpAny_bind ?_
  unfold Builtin.SmallTypes.ownedTupleHandOut
  have zf : IsZip (he.push { cls := .type "tuple", data := .seq #[x, y] }) z TI TO .ellipsis := Heap.get?_push_of_some _ ze
  refine wpAny_bind (wpAny_setField_rec zf (by simp) fun hg zg sg => ?_)
  have zg : IsZip hg z TI TO (rawInt he.objs.size) := zg
  refine wpAny_setField_rec zg (by simp) fun hh zh sh => ?_
  have zh : IsZip hh z TI TO (rawInt he.objs.size) := zh
  have ne : he.objs.size ≠ z := by rw [size_e]; exact Nat.ne_of_gt hlt
  have up : ∀ c o, c ≠ z → he.get? c = some o → hh.get? c = some o := fun c o c1 e => sh.extBut _ _ c1 (sg.extBut _ _ c1 (Heap.get?_push_of_some _ e))
  have new : IsPair hh he.objs.size x y := sh.extBut _ _ ne (sg.extBut _ _ ne (Heap.get?_push_size _ rfl))
  refine wpAny_pure ⟨_, rfl, ?_⟩
  show Q (.ref he.objs.size) _
  rw [size_e] at zh new ⊢
  refine hQ hh ⟨zh, ?_, ⟨x, y, up _ _ D.TOz TOe⟩, e1.at fun o e => up _ o kz1 e, e2.at fun o e => up _ o kz2 e⟩ new (by rw [sh.1, sg.1, Heap.size_push, size_e]) fun c o c1 c2 c3 c4 e => up c o c1 (stay c o c1 c2 c3 c4 e)
  exact up _ _ D.TIz (stay _ _ D.TIz D.TITO D.TIi1 D.TIi2 hTI)
theorem next_out {z TI TO i1 i2 l1 l2 : Addr} {i : Nat} {xs ys : Array Value} {Q : Fin → Shared → Prop} (hh : A.handled = none) (D : ZipApart z TI TO i1 i2 l1 l2) (T : Two s.heap z TI TO i1 i2 l1 l2 i .none)
    (hl1 : s.heap.IsList l1 xs) (hl2 : s.heap.IsTuple l2 ys) (ho : xs[i]? = none ∨ ys[i]? = none)
    (hE : ∀ h' e, Chg4 z TO i1 i2 s.heap h' → (∃ o, h'.get? e = some o ∧ o.cls = .type "StopIteration") → E (.ref e) { s with heap := h' }) : wpAny (model prog w) A (Builtin.«zip.__next__» ⟨[.ref z], []⟩) Q E s := by
  obtain ⟨hz, hTI, ⟨a, b, hTO⟩, h1, h2⟩ := T
  show wpAny _ _ (field (.ref z) 2 >>= _) _ _ _
  refine wpAny_bind (wpAny_field hz rfl (x := .bool false) rfl ?_)
  show wpAny _ _ (field (.ref z) 3 >>= _) _ _ _
  refine wpAny_bind (wpAny_field hz rfl (x := .ref TI) rfl ?_)
  refine wpAny_bind (wpAny_seqItems hTI rfl ?_)
  show wpAny _ _ (Builtin.SmallTypes.ownedTupleIsFree (.ref z) >>= _) _ _ _
  refine wpAny_bind ?_
  unfold Builtin.SmallTypes.ownedTupleIsFree
  refine wpAny_bind (wpAny_field hz rfl (x := .none) rfl (wpAny_pure ?_))
  simp only [if_true]
  refine wpAny_bind (wpAny_rule ?_)
  refine wpAny_bind (wpAny_field hz rfl (x := .ref TO) rfl ?_)
  refine wpAny_bind (wpAny_setField_rec hz (by simp) fun ha hza sa => ?_)
  have hza : IsZip ha z TI TO .ellipsis := hza
  refine wpAny_bind ?_
  simp only [List.zipIdx_cons, List.zipIdx_nil, List.forIn_cons, List.forIn_nil]
  refine wpAny_bind (wpAny_bind (wpAny_onRaise ?_))
  show wpAny _ _ (Builtin.SmallTypes.nextOf (.ref i1) >>= _) _ _ _
  cases hx : xs[i]? with
  | none =>
    refine wpAny_bind (wpAny_nextOf_list_end hh (h1.extBut sa.extBut D.i1z) (hl1.extBut sa.extBut D.l1z) hx fun hb e sb he => ?_)
    obtain ⟨oe, e1, e2⟩ := he
    have hzb : IsZip hb z TI TO .ellipsis := sb _ _ D.i1z.symm hza
    have nez : e ≠ z := by rintro rfl; rw [hzb] at e1; cases e1; simp at e2
    refine wpAny_setField_rec hzb (by simp) fun hc _ sc => hE hc e (fun c o c1 _ c3 _ q => sc.extBut _ _ c1 (sb _ _ c3 (sa.extBut _ _ c1 q))) ⟨oe, sc.extBut _ _ nez e1, e2⟩
  | some x =>
    have hy : ys[i]? = none := ho.resolve_left fun q => by rw [hx] at q; cases q
    refine wpAny_bind (wpAny_nextOf_list_item (h1.extBut sa.extBut D.i1z) (hl1.extBut sa.extBut D.l1z) hx fun hb it1 sb => wpAny_pure ?_)
    have TOb : IsPair hb TO a b := sb.extBut _ _ D.TOi1 (sa.extBut _ _ D.TOz hTO)
    refine wpAny_bind (wpAny_seqItems TOb rfl ?_)
    refine wpAny_bind (wpAny_updateSeq_pair TOb fun hc TOc sc => ?_)
    refine wpAny_bind (wpAny_letGo (wpAny_pure ?_))
    refine wpAny_bind (wpAny_bind (wpAny_onRaise ?_))
    show wpAny _ _ (Builtin.SmallTypes.nextOf (.ref i2) >>= _) _ _ _
    have it2 : hc.IsTupleIter i2 l2 i := ((h2.extBut sa.extBut D.i2z).extBut sb.extBut D.i12.symm).extBut sc.extBut D.TOi2.symm
    have tl2 : hc.IsTuple l2 ys := ((hl2.extBut sa.extBut D.l2z).extBut sb.extBut D.l2i1).extBut sc.extBut D.l2TO
    refine wpAny_bind (RZ.nextOf_tuple_end (s := { s with heap := hc }) hh it2 tl2 hy fun hd e sd he => ?_)
    obtain ⟨oe, e1, e2⟩ := he
    have hzd : IsZip hd z TI TO .ellipsis := sd _ _ D.i2z.symm (sc.extBut _ _ D.TOz.symm (sb.extBut _ _ D.i1z.symm hza))
    have nez : e ≠ z := by rintro rfl; rw [hzd] at e1; cases e1; simp at e2
    refine wpAny_setField_rec hzd (by simp) fun hf _ sf => hE hf e (fun c o c1 c2 c3 c4 q => sf.extBut _ _ c1 (sd _ _ c4 (sc.extBut _ _ c2 (sb.extBut _ _ c3 (sa.extBut _ _ c1 q))))) ⟨oe, sf.extBut _ _ nez e1, e2⟩
theorem pyNext_two {z TI TO i1 i2 l1 l2 : Addr} {i : Nat} {xs ys : Array Value} {x y : Value} {Q : Option Value → Shared → Prop} (D : ZipApart z TI TO i1 i2 l1 l2) (T : Two s.heap z TI TO i1 i2 l1 l2 i .none)
    (hl1 : s.heap.IsList l1 xs) (hl2 : s.heap.IsTuple l2 ys) (hx : xs[i]? = some x) (hy : ys[i]? = some y)
    (hQ : ∀ h', Two h' z TI TO i1 i2 l1 l2 (i + 1) (rawInt s.heap.objs.size) → IsPair h' s.heap.objs.size x y → h'.objs.size = s.heap.objs.size + 1 → Chg4 z TO i1 i2 s.heap h' → Q (some (.ref s.heap.objs.size)) { s with heap := h' }) :
    wpAny (model prog w) A (pyNext (.ref z)) Q E s := by
  have hT : s.TypeIs (.ref z) "zip" := ⟨_, T.hz, rfl⟩
  unfold pyNext
  exact wpAny_bind (wpAny_attempt (wpAny_callSpecial?_slot (name := Str.ofString "__next__") hT F.slot_zip_next
    (wpAny_call_entry F.slot_zip_next hT F.entry_zip_next (next_two D T hl1 hl2 hx hy fun h' b1 b2 b3 b4 => wpAny_pure (hQ h' b1 b2 b3 b4)) (F.args_zip_next_1 _))))
theorem pyNext_out {z TI TO i1 i2 l1 l2 : Addr} {i : Nat} {xs ys : Array Value} {Q : Option Value → Shared → Prop} (hh : A.handled = none) (D : ZipApart z TI TO i1 i2 l1 l2) (T : Two s.heap z TI TO i1 i2 l1 l2 i .none)
    (hl1 : s.heap.IsList l1 xs) (hl2 : s.heap.IsTuple l2 ys) (ho : xs[i]? = none ∨ ys[i]? = none)
    (hQ : ∀ h', Chg4 z TO i1 i2 s.heap h' → Q none { s with heap := h' }) : wpAny (model prog w) A (pyNext (.ref z)) Q E s := by
  have hT : s.TypeIs (.ref z) "zip" := ⟨_, T.hz, rfl⟩
  unfold pyNext
  refine wpAny_bind (wpAny_attempt (wpAny_callSpecial?_slot (name := Str.ofString "__next__") hT F.slot_zip_next
    (wpAny_call_entry F.slot_zip_next hT F.entry_zip_next (next_out hh D T hl1 hl2 ho fun h' e hk he => ?_) (F.args_zip_next_1 _))))
  obtain ⟨o, q1, q2⟩ := he
  refine wpAny_bind (wpAny_isInstance (T := "StopIteration") (b := true) ⟨o, q1, q2⟩ isSubtype_stop ?_)
  exact wpAny_pure (hQ _ hk)
theorem new_two {l1 l2 : Addr} {xs ys : Array Value} {Q : Value → Shared → Prop} (hl1 : s.heap.IsList l1 xs) (hl2 : s.heap.IsTuple l2 ys)
    (h : ∀ h', Two h' (s.heap.objs.size + 4) (s.heap.objs.size + 2) (s.heap.objs.size + 3) s.heap.objs.size (s.heap.objs.size + 1) l1 l2 0 .none → (∀ c o, s.heap.get? c = some o → h'.get? c = some o) → Q (.ref (s.heap.objs.size + 4)) { s with heap := h' }) :
    wpAny (model prog w) A (call (.type "zip") [.ref l1, .ref l2]) Q E s := by
  have g : Meets (Builtin.«zip.__new__» ⟨[.type "zip", .ref l1, .ref l2], []⟩) (fun _ R s => s.heap.IsList l1 xs ∧ s.heap.IsTuple l2 ys ∧
      ∀ z h', z = s.heap.objs.size + 4 → Two h' (s.heap.objs.size + 4) (s.heap.objs.size + 2) (s.heap.objs.size + 3) s.heap.objs.size (s.heap.objs.size + 1) l1 l2 0 .none → (∀ c o, s.heap.get? c = some o → h'.get? c = some o) → R (.ok (.ret (.ref z))) { s with heap := h' }) := by
    refine .of_wp fun prog w A R s hS => ?_
    obtain ⟨a1, a2, a3⟩ := hS
    obtain ⟨hp, gl, d, tk, os⟩ := s
    have hsub := sub_zip
    have L1 : Heap.IsList (Shared.heap ⟨hp, gl, d, tk, os⟩) l1 xs := a1
    have L2 : Heap.IsTuple (Shared.heap ⟨hp.push { cls := .type "list_iterator", data := .fields #[.ref l1, .int 0 0] }, gl, d, tk, os⟩) l2 ys := Heap.IsTuple.push a2 _
    wp_walk using wpAny_pyIter_list L1, wpAny_pyIter_tuple L2
    refine ⟨_, rfl, a3 _ _ ?_ ⟨?_, ?_, ⟨.none, .none, ?_⟩, ⟨{ cls := .type "list_iterator", data := .fields #[.ref l1, .int 0 0] }, ?_, rfl, rfl⟩, ⟨{ cls := .type "tuple_iterator", data := .fields #[.ref l2, .int 0 0] }, ?_, rfl, rfl⟩⟩ ?_⟩
    · simp only [Heap.size_push]
    · have q := Heap.get?_push_size ((((hp.push { cls := .type "list_iterator", data := .fields #[.ref l1, .int 0 0] }).push { cls := .type "tuple_iterator", data := .fields #[.ref l2, .int 0 0] }).push { cls := .type "tuple", data := .seq #[.ref hp.objs.size, .ref (hp.objs.size + 1)] }).push { cls := .type "tuple", data := .seq #[.none, .none] }) (o := { cls := .type "zip", data := .fields #[.none, .bool false, .bool false, .ref (hp.objs.size + 2), .ref (hp.objs.size + 3)] }) rfl
      simp only [Heap.size_push] at q ⊢
      exact q
    · have q := Heap.get?_push_size ((hp.push { cls := .type "list_iterator", data := .fields #[.ref l1, .int 0 0] }).push { cls := .type "tuple_iterator", data := .fields #[.ref l2, .int 0 0] }) (o := { cls := .type "tuple", data := .seq #[.ref hp.objs.size, .ref (hp.objs.size + 1)] }) rfl
      simp only [Heap.size_push] at q ⊢
      exact Heap.get?_push_of_some _ (Heap.get?_push_of_some _ q)
    · have q := Heap.get?_push_size (((hp.push { cls := .type "list_iterator", data := .fields #[.ref l1, .int 0 0] }).push { cls := .type "tuple_iterator", data := .fields #[.ref l2, .int 0 0] }).push { cls := .type "tuple", data := .seq #[.ref hp.objs.size, .ref (hp.objs.size + 1)] }) (o := { cls := .type "tuple", data := .seq #[.none, .none] }) rfl
      simp only [Heap.size_push] at q ⊢
      exact Heap.get?_push_of_some _ q
    · exact Heap.get?_push_of_some _ (Heap.get?_push_of_some _ (Heap.get?_push_of_some _ (Heap.get?_push_of_some _ (Heap.get?_push_size hp rfl))))
    · have q := Heap.get?_push_size (hp.push { cls := .type "list_iterator", data := .fields #[.ref l1, .int 0 0] }) (o := { cls := .type "tuple_iterator", data := .fields #[.ref l2, .int 0 0] }) rfl
      simp only [Heap.size_push] at q ⊢
      exact Heap.get?_push_of_some _ (Heap.get?_push_of_some _ (Heap.get?_push_of_some _ q))
    · exact fun c o e => Heap.get?_push_of_some _ (Heap.get?_push_of_some _ (Heap.get?_push_of_some _ (Heap.get?_push_of_some _ (Heap.get?_push_of_some _ e))))
  refine callType_new F.called_zip (by decide) (F.typeCall_zip_2 _ _) (F.newCall_zip_2 _ _) (fun obj => F.args_object_init_3 obj _ _) F.entry_zip_new g ⟨hl1, hl2, ?_⟩
  rintro z h' rfl T k
  exact ⟨⟨_, T.hz, rfl⟩, h h' T k⟩
end
/-- a list and a tuple as they stand at each turn -/
def ItzM (K : PySem.W.Frag) (a b : Addr) : It :=
  ⟨fun i H => ∃ (xs ys : List V) (x y : V), SqL K H a xs ∧ SqT K H b ys ∧ xs[i]? = some x ∧ ys[i]? = some y,
    fun i H v H' => ∃ T x y, v = .ref T ∧ H T = none ∧ H' = upd H T (.tup [x, y]) ∧ (∀ xs, SqL K H a xs → xs[i]? = some x) ∧ ∀ ys, SqT K H b ys → ys[i]? = some y,
    fun i H => ∃ xs ys : List V, SqL K H a xs ∧ SqT K H b ys ∧ (xs.length ≤ i ∨ ys.length ≤ i)⟩
theorem five {z TI TO i1 i2 c : Addr} : c ∈ [z, TI, TO, i1, i2] ↔ c = z ∨ c = TI ∨ c = TO ∨ c = i1 ∨ c = i2 := by simp
theorem Two.lt {h : Heap} {z TI TO i1 i2 l1 l2 : Addr} {i : Nat} {f0 : Value} (T : Two h z TI TO i1 i2 l1 l2 i f0) : ∀ c ∈ [z, TI, TO, i1, i2], ∃ o, h.get? c = some o ∧ ∀ v, o.data ≠ .cell v := fun c m => by
  obtain ⟨hz, hTI, ⟨x, y, hTO⟩, ⟨o1, p1, _, d1⟩, ⟨o2, p2, _, d2⟩⟩ := T
  rcases five.mp m with rfl | rfl | rfl | rfl | rfl
  · exact ⟨_, hz, fun v q => nomatch q⟩
  · exact ⟨_, hTI, fun v q => nomatch q⟩
  · exact ⟨_, hTO, fun v q => nomatch q⟩
  · exact ⟨o1, p1, fun v q => by rw [d1] at q; cases q⟩
  · exact ⟨o2, p2, fun v q => by rw [d2] at q; cases q⟩
theorem turn_two {P : Program} {w : World} {K : PySem.W.Frag} {elts : List Expr} {kk : Nat} {tpos : Pos} {a b z TI TO i1 i2 : Addr} (D : ZipApart z TI TO i1 i2 a b) :
    Turn P w K (.Tuple elts kk tpos) (ItzM K a b) [z, TI, TO, i1, i2] z (fun i h => Two h z TI TO i1 i2 a b i .none) where
  mem := List.mem_cons_self
  obj := fun i h st c hc => st.lt c hc
  keep := fun i h h' st k => by
    obtain ⟨hz, hTI, ⟨x, y, hTO⟩, h1, h2⟩ := st
    exact ⟨k z (five.mpr (.inl rfl)) _ hz, k TI (five.mpr (.inr (.inl rfl))) _ hTI, ⟨x, y, k TO (five.mpr (.inr (.inr (.inl rfl)))) _ hTO⟩, h1.at fun o q => k i1 (five.mpr (.inr (.inr (.inr (.inl rfl))))) o q, h2.at fun o q => k i2 (five.mpr (.inr (.inr (.inr (.inr rfl))))) o q⟩
  item := by
    intro X hP hw hK hc i pins s σ H E I hf st hg
    subst hP hw hK
    obtain ⟨xs, ys, x, y, qx, qy, hx, hy⟩ := hg
    obtain ⟨its, rv, p, _⟩ := I.list qx
    obtain ⟨its2, rv2, p2, _⟩ := I.tuple qy
    obtain ⟨u, hu, ru⟩ := rv.get hx
    obtain ⟨u2, hu2, ru2⟩ := rv2.get hy
    have ltc : ∀ c ∈ [z, TI, TO, i1, i2], c < s.heap.objs.size := fun c m => by obtain ⟨o, e, _⟩ := st.lt c m; exact Heap.lt_size e
    have hzl := ltc z (five.mpr (.inl rfl))
    refine pyNext_two D st p.isList p2 (x := u) (y := u2) (by simpa using hu) (by simpa using hu2) fun h' T' hT hsz hk => ?_
    refine ⟨_, rfl, wpAny_letOwnedTupleGo_zip (s := { s with heap := h' }) T'.hz fun h'' z'' sb => ?_⟩
    have hT2 : h''.get? s.heap.objs.size = some { cls := .type "tuple", data := .seq #[u, u2] } := (sb.2 _ (Nat.ne_of_gt hzl)).trans hT
    have keepAll : ∀ c o, c ∉ [z, TI, TO, i1, i2] → s.heap.get? c = some o → h''.get? c = some o := fun c o n q => by
      rw [five] at n
      simp only [not_or] at n
      exact (sb.2 c n.1).trans (hk c o n.1 n.2.2.1 n.2.2.2.1 n.2.2.2.2 q)
    have new : ObjOk X.prog X.w (upd H s.heap.objs.size (.tup [x, y])) h'' s.heap.objs.size (.tup [x, y]) :=
      ⟨by show 2 ≤ sizeLine; decide, [u, u2], .cons ru (.cons ru2 .nil), ⟨_, hT2, rfl, _, rfl⟩⟩
    have I1 : Inv X pins σ (upd H s.heap.objs.size (.tup [x, y])) { s with heap := h'' } := I.turnedNew (t' := s.toks) (ch := [z, TI, TO, i1, i2]) keepAll hf (Nat.le_refl _) new
    obtain ⟨a1, a2, ⟨x', y', a3⟩, a4, a5⟩ := T'
    refine ⟨.ref s.heap.objs.size, _, I1, rfl, ⟨_, x, y, rfl, I.hok.fresh (Nat.le_refl _), rfl, fun l hl => by rw [I.list_inj hl qx]; exact hx, fun l hl => by rw [I.tuple_inj hl qy]; exact hy⟩,
      ⟨z'', (sb.2 _ D.TIz).trans a2, ⟨x', y', (sb.2 _ D.TOz).trans a3⟩, a4.at fun o q => (sb.2 _ D.i1z).trans q, a5.at fun o q => (sb.2 _ D.i2z).trans q⟩, fun c m => ?_⟩
    rw [upd_ne (Nat.ne_of_lt (ltc c m))]
    exact (hf c m).1
  done := by
    intro X hP hw hK hc i pins s σ H E I hf st hg
    subst hP hw hK
    obtain ⟨xs, ys, qx, qy, hend⟩ := hg
    obtain ⟨its, rv, p, _⟩ := I.list qx
    obtain ⟨its2, rv2, p2, _⟩ := I.tuple qy
    have l1 := rv.length
    have l2 := rv2.length
    have ho : its.toArray[i]? = none ∨ its2.toArray[i]? = none := hend.imp (fun q => by simp; omega) (fun q => by simp; omega)
    refine pyNext_out (I.ok.hd hc) D st p.isList p2 ho fun h' hk => ⟨rfl, I.turnedL (t' := s.toks) (ch := [z, TI, TO, i1, i2]) (fun c o n q => ?_) hf⟩
    rw [five] at n
    simp only [not_or] at n
    exact hk c o n.1 n.2.2.1 n.2.2.2.1 n.2.2.2.2 q
  self := fun A i s Q E st h => wpAny_pyIter_zip st.hz h
def iZipM (K : PySem.W.Frag) (ta : TA) : TI := fun σ H R => ta σ H fun vs H1 => ∃ a b xs ys, vs = [.ref a, .ref b] ∧ SqL K H1 a xs ∧ SqT K H1 b ys ∧ R (ItzM K a b) H1
theorem pi_zipM {X : Cx} {e e2 : Expr} {ta : TA} {p pos tpos : Pos} {elts : List Expr} {kk : Nat} (hg : Gl X "zip") (hm : X.mg "zip" = none) (ha : PA X [e, e2] ta)
    (hs : starEach [e, e2] X.env = (false, eval e X.env) :: starEach [e2] X.env := by rfl) (hpl : (backTo pos (starEach [e2] X.env)).any (·.1) = false := by rfl) :
    PI X (.Tuple elts kk tpos) (.Call (.Name "zip" p) [e, e2] [] pos) (iZipM X.K ta) := by
  refine ⟨fun pins s σ H R I h => ?_⟩
  refine Call_ (ld_blt I hg hm PyProof.Rows.boot_zip (PyProof.Rows.callWith_type1 (thn (ha.run pos pins s σ H _ I h) fun us s1 ⟨vs, H1, I1, r1, q1⟩ => ?_) hs hpl))
  obtain ⟨a, b, xs, ys, rfl, qx, qy, q⟩ := q1
  obtain ⟨its, rv, p1, _⟩ := I1.list qx
  obtain ⟨its2, rv2, p2, _⟩ := I1.tuple qy
  obtain ⟨o2, ho2, _⟩ := id p2
  cases r1 with
  | cons r rr =>
    cases rr with
    | cons r' rr =>
      cases rr
      cases r
      cases r'
      refine new_two p1.isList p2 fun h' T hk => wpAny_pyIter_zip T.hz ?_
      have I2 : Inv X pins σ H1 { s1 with heap := h' } := I1.kept (t' := s1.toks) hk
      refine ⟨s1.heap.objs.size + 4, [s1.heap.objs.size + 4, s1.heap.objs.size + 2, s1.heap.objs.size + 3, s1.heap.objs.size, s1.heap.objs.size + 1], _, _, H1, rfl, I2, turn_two (PySem.W.ktu_apart s1.heap.objs.size a b p1.lt (Heap.lt_size ho2)), T, fun c m => ?_, q⟩
      have hle : s1.heap.objs.size ≤ c := by
        rcases five.mp m with rfl | rfl | rfl | rfl | rfl
        · exact Nat.le_add_right _ _
        · exact Nat.le_add_right _ _
        · exact Nat.le_add_right _ _
        · exact Nat.le_refl _
        · exact Nat.le_add_right _ _
      exact I1.fpOk hle (I1.hok.fresh hle)
end ZM
namespace DL
open PySem PySem.Spec PyProof.Rows L2
open Evl (Ex)
open ZM (ItzM iZipM pi_zipM)
section
variable {K : PySem.W.Frag} {B : Hp} {a b : Addr} {ds es : List D}
theorem itzM_ok (h : Dt K B (.ref a) (.lst ds)) (h' : TupD K B b es) : ItOk K B (ItzM K a b) (pairs ds es) := by
  obtain ⟨ys, h', t'⟩ := h'
  cases h with
  | lst h t =>
    rename_i xs
    refine fun i H' e => ⟨fun d hd => ?_, fun hl => ⟨xs, ys, SqL.of (e _ _ h), Evl.ex_t e h', ?_⟩⟩
    · obtain ⟨dx, dy, g1, g2, rfl⟩ := pairs_at hd
      obtain ⟨x, h1, h2⟩ := t.get g1
      obtain ⟨y, h3, h4⟩ := t'.get g2
      refine ⟨⟨xs, ys, x, y, SqL.of (e _ _ h), Evl.ex_t e h', h1, h3⟩, fun z H'' q => ?_⟩
      obtain ⟨T, x', y', rfl, nT, rfl, f1, f2⟩ := q
      have q1 := f1 xs (SqL.of (e _ _ h)); rw [h1] at q1; cases q1
      have q2 := f2 ys (Evl.ex_t e h'); rw [h3] at q2; cases q2
      exact ⟨Evl.Ex.new nT, fun B2 e2 e3 => pair_dt h2 h4 e2 e3⟩
    · rw [t.len, t'.len]
      unfold pairs at hl
      rw [List.length_map, List.length_zip] at hl
      omega
end
section
variable {X : Cx} {e e2 : Expr} {ms : MA} {p pos : Pos}
/-- zip of a list and a tuple -/
def mZipM (ms : MA) : MI := fun ρ => match ms ρ with
  | some rs => match rs.map R.data with
    | [.lst ds, .tup es] => some (rs.all R.fixed, pairs ds es)
    | _ => none
  | none => none
theorem xi_zipM {tpos : Pos} {elts : List Expr} {kk : Nat} (hg : Gl X "zip") (hm : X.mg "zip" = none) (ha : XA X [e, e2] ms)
    (hs : starEach [e, e2] X.env = (false, eval e X.env) :: starEach [e2] X.env := by rfl) (hpl : (backTo pos (starEach [e2] X.env)).any (·.1) = false := by rfl) : XI X (.Tuple elts kk tpos) (.Call (.Name "zip" p) [e, e2] [] pos) (mZipM ms) := by
  obtain ⟨t, pa, s⟩ := ha
  refine ⟨_, pi_zipM hg hm pa hs hpl, fun G H σ ρ fp fx items Q R hm q => ?_⟩
  unfold mZipM at hm
  split at hm
  · rename_i rs e1
    refine s G H σ ρ fp rs _ R e1 fun vs F H1 x1 o1 => ?_
    have d := o1.data
    have w := o1.wall R.ls x1
    split at hm
    · rename_i ds es e2; cases hm; rw [e2] at d w
      cases d with
      | cons h t => cases t with
        | cons h2 t =>
          cases t
          cases w with
          | cons w1 t => cases t with
            | cons w2 t =>
              cases t
              cases h with
              | lst h0 _ => cases h2 with
                | tup h0' _ => exact ⟨_, _, _, _, rfl, SqL.of h0, .inl (.inl h0'), q _ H1 x1 (itzM_ok w1 (tupD w2))⟩
    · cases hm
  · cases hm
end
end DL

set_option Elab.async false
set_option linter.all false
set_option maxRecDepth 100000
set_option maxHeartbeats 4000000
/-! Defs that call themselves. -/
namespace DL
open PySem PySem.Spec PyProof.Rows L2
open Evl (Ex)
/-- no promise -/
theorem fnD0 {P : Program} {w : World} {K : PySem.W.Frag} {mg : Str → Option Value} {base : Heap} {CX : CXT} {k n : Nat} {f : Addr} {fd : FuncData} {ps : List Str} : FnOk P w K mg base CX k f fd ps (spD K n fun _ => none) :=
  ⟨fun _ _ _ _ ⟨_, _, _, _, h, _⟩ => (nomatch h), fun _ _ _ _ _ _ _ _ _ _ _ _ _ ⟨_, _, _, _, h, _⟩ => (nomatch h)⟩
end DL

set_option Elab.async false
set_option linter.all false
set_option maxRecDepth 100000
set_option maxHeartbeats 4000000
/-! x = y where y is not asked again; extend by an owned list; the order of tables. -/
namespace DL
open PySem PySem.Spec PyProof.Rows L2
open Evl (Ex)
/-! ### x = y, y hands on what it owns -/
theorem SlOk.mono2 {K : PySem.W.Frag} {Hh Hh' H H' : Hp} (e : Ex Hh Hh') (e1 : Ex H H') {x : Option (Option V)} {F : List Addr} {s : Sl} (h : SlOk K Hh H x F s) : SlOk K Hh' H' x F s := by
  cases s with
  | dead => exact h
  | ad a => exact h
  | dc m => obtain ⟨a, q1, q2, q3⟩ := h; exact ⟨a, q1, q2, e1 _ _ q3⟩
  | sh x => obtain ⟨q0, v, q1, q2⟩ := h; exact ⟨q0, v, q1, q2.mono e⟩
  | fz w x => obtain ⟨q0, q1, q2⟩ := h; exact ⟨q0, q1, q2.mono e⟩
  | vw x => obtain ⟨q0, v, q1, q2⟩ := h; exact ⟨q0, v, q1, q2.mono e1⟩
  | tr s => obtain ⟨v, q1, q2⟩ := h; exact ⟨v, q1, q2.mono e1⟩
theorem hid_any {H : Hp} {fp fp' : Nat → List Addr} (h : ∀ i a, a ∈ fp' i → ∃ j, a ∈ fp j) : Ex (hid H fp) (hid H fp') := fun a o e => by
  obtain ⟨n, e⟩ := hid_some e
  rw [hid_at fun i m => by obtain ⟨j, mj⟩ := h i a m; exact n j mj]; exact e
theorem RelF.move {K : PySem.W.Frag} {G H : Hp} {σ : L2.St} {ρ : Env} {fp : Nat → List Addr} {i j : Nat} {s : S} {v : V} (R : RelF K G H σ ρ fp) (hij : i ≠ j) (hs : ρ[j]? = some (.tr s)) (hv : σ[j]? = some (some v)) :
    RelF K G H (σ.set i (some v)) ((ρ.set j .dead).set i (.tr s)) (fset (fset fp j []) i (fp j)) := by
  have hfp : ∀ k a, a ∈ fset (fset fp j []) i (fp j) k → (k = i ∧ a ∈ fp j) ∨ (k ≠ i ∧ k ≠ j ∧ a ∈ fp k) := fun k a m => by
    by_cases hk : k = i
    · subst hk; rw [fset_self] at m; exact .inl ⟨rfl, m⟩
    · rw [fset_ne hk] at m
      by_cases hj : k = j
      · subst hj; rw [fset_self] at m; cases m
      · rw [fset_ne hj] at m; exact .inr ⟨hk, hj, m⟩
  have hsub : ∀ k a, a ∈ fset (fset fp j []) i (fp j) k → ∃ k', a ∈ fp k' := fun k a m => (hfp k a m).elim (fun h => ⟨j, h.2⟩) fun h => ⟨k, h.2.2⟩
  refine ⟨by simpa using R.len, R.ex, fun k l a m1 m2 => ?_, fun k a m => ?_, fun k a m => ?_, fun k t h => ?_⟩
  · rcases hfp k a m1 with ⟨h1, q1⟩ | ⟨h1, h2, q1⟩
    · rcases hfp l a m2 with ⟨h3, q2⟩ | ⟨h3, h4, q2⟩
      · rw [h1, h3]
      · exact (h4 (R.dj l j a q2 q1)).elim
    · rcases hfp l a m2 with ⟨h3, q2⟩ | ⟨h3, h4, q2⟩
      · exact (h2 (R.dj k j a q1 q2)).elim
      · exact R.dj k l a q1 q2
  · obtain ⟨k', mk⟩ := hsub k a m; exact R.new k' a mk
  · obtain ⟨k', mk⟩ := hsub k a m; exact R.ls k' a mk
  · by_cases hk : k = i
    · subst hk
      have hl : k < ρ.length := by
        have := (List.getElem?_eq_some_iff.mp h).1
        simpa using this
      have hl2 : k < σ.length := by rw [R.len]; exact hl
      rw [List.getElem?_set_self (by simpa using hl)] at h
      cases h
      rw [fset_self, List.getElem?_set_self hl2]
      obtain ⟨v', h1, h2⟩ := R.sl j _ hs
      rw [hv] at h1; cases h1
      exact ⟨v, rfl, h2⟩
    · rw [List.getElem?_set_ne (Ne.symm hk)] at h
      rw [fset_ne hk, List.getElem?_set_ne (Ne.symm hk)]
      by_cases hj : k = j
      · subst hj
        have hl : k < ρ.length := by
          have := (List.getElem?_eq_some_iff.mp h).1
          simpa using this
        rw [List.getElem?_set_self hl] at h
        cases h
        rw [fset_self]; rfl
      · rw [List.getElem?_set_ne (Ne.symm hj)] at h
        rw [fset_ne hj]
        exact SlOk.mono2 (hid_any hsub) (Evl.Ex.refl H) (R.sl k t h)
section
variable {X : Cx} {W : XK} {o e : Expr} {ma me : ME} {mp : MP} {pos apos cpos : Pos} {x y : Str}
def mMov (i j : Nat) : MS := fun ρ => match ρ[j]? with
  | some (.tr s) => if i = j then none else some (.nx ((ρ.set j .dead).set i (.tr s)))
  | _ => mSet i (mVar j) ρ
theorem xs_move {i : Nat} (j : Nat) {pos' p : Pos} (hN : X.N.Nodup) (hi : X.N[i]? = some x) (hx : Loc X.env.scope x) (hNj : X.N[j]? = some y := by rfl) (hv : Vis X.env.scope y := by first | exact Or.inl rfl | exact Or.inr (Or.inl rfl) | exact Or.inr (Or.inr rfl)) (hd : (y == ("__debug__" : Str)) = false := by decide)
    (hcd : (y == ("__classdict__" : Str)) = false := by decide) (hs : swapsWith (.Name y p) (some (.Name x pos')) pos.line X.env = pure false := by rfl) (hf : X.fn x = true ∨ X.env.scope.names.lookup x = some .local := by first | exact .inl rfl | exact .inr rfl | assumption) :
    XS X W (.Assign [.Name x pos'] (.Name y p) pos) (mMov i j) := by
  refine ⟨_, ps_set hN hi hx (pe_var hNj hv hd hcd) hs hf, fun G H σ ρ fp o D R hm q => ?_⟩
  unfold mMov at hm
  split at hm
  · rename_i s h0
    split at hm
    · cases hm
    · rename_i hij
      cases hm
      obtain ⟨v, h1, h2⟩ := R.sl j _ h0
      exact ⟨v, h1, q _ H _ (R.move hij h0 h1)⟩
  · exact sim_set (sim_var j) G H σ ρ fp o D R hm q
/-! ### xs.extend(ys), ys owned: its items go over -/
def mExtendO (mp : MP) (me : ME) : MS := fun ρ => match mp ρ, me ρ with
  | some (i, p), some (.tr (.own ts)) => match ρ[i]? with
    | some (.tr s) => match S.get p s with
      | some (.own ss) => if ss.length + ts.length ≤ 100000 then some (.nx ((killVw ρ).set i (.tr (S.put (.own (ss ++ ts)) p s)))) else none
      | _ => none
    | _ => none
  | _, _ => none
theorem xs_extendO (ho : XP X o mp) (he : XE X e ma)
    (hbase : attributeBase o "extend" X.env (eval o X.env) = eval o X.env := by rfl)
    (hfew : ((backTo cpos (starEach (e :: []) X.env)).all (fun x => !x.1) && (backToKw cpos (keywordEach [] X.env)).all (fun x => x.1.isSome)
      && decide ((e :: ([] : List Expr)).length + ([] : List Keyword).length + (if ([] : List Keyword).isEmpty then 0 else 1) < 30)) = true := by rfl)
    (hline : (apos.endLine == cpos.line) = true := by rfl) (hs : starEach (e :: []) X.env = (false, eval e X.env) :: starEach [] X.env := by rfl) (hplain : (backTo cpos (starEach [] X.env)).any (·.1) = false := by rfl)
    (hsw : swapsWith (.Call (.Attribute o "extend" apos) [e] [] cpos) none pos.line X.env = pure false := by rfl) : XS X W (.Expr (.Call (.Attribute o "extend" apos) [e] [] cpos) pos) (mExtendO mp ma) := by
  obtain ⟨to, po, so⟩ := ho
  obtain ⟨te, pe, se⟩ := he
  refine ⟨_, ps_expr (pe_bm PySem.F.plainAttrs_list PySem.F.slot_list_extend PySem.F.type_list_extend mt_extend po (pa_cons pe pa_nil hs) hbase hfew hline hs hplain) hsw, fun G H σ ρ fp oo D R hm q => ?_⟩
  unfold mExtendO at hm
  split at hm
  rotate_left
  · cases hm
  rename_i i p ts e1 e2
  split at hm
  rotate_left
  · cases hm
  rename_i s e3
  split at hm
  rotate_left
  · cases hm
  rename_i ss e5
  split at hm
  rotate_left
  · cases hm
  rename_i hl
  cases hm
  refine so G H σ ρ fp i p _ R e1 fun v a H1 s' ss' g1 g2 g3 x1 at1 => ?_
  rw [e3] at g1; cases g1
  have R1 := R.grow x1
  obtain ⟨v', h1, h2⟩ := R1.sl i _ e3
  rw [g3] at h1; cases h1
  obtain ⟨vs1, Fa1, ha1, hL1, _⟩ := h2.mut at1 e5
  refine ⟨.inl ⟨rfl, _, SqL.of ha1⟩, ?_⟩
  refine se G H1 σ ρ fp _ _ R1 e2 fun w F H2 x2 o2 => ?_
  obtain ⟨vs2, Fa2, ha2, hL2, hn2, hsub2, hai, hmut⟩ := R1.mutate x2 e3 g3 (at1.mono x2) e5
  obtain ⟨hr, hfr⟩ := o2
  cases hr with
  | @own b zs _ F0 hb hT hbn =>
    refine ⟨a, b, vs2, zs, rfl, rfl, ha2, hb, ?_, ?_⟩
    · rw [← hL2.len, ← hT.len]; exact Evl.sz_of hl
    · have es : Ex (stb H2) (stb (upd H2 a (.lst (vs2 ++ zs)))) := stb_upd ha2
      have fr0 : ∀ c ∈ F0, H1 c = none := fun c m => hfr c (List.mem_cons_of_mem _ m)
      have hdj : ∀ c, c ∈ Fa2 → c ∉ F0 := fun c m z => by
        obtain ⟨xs, hc⟩ := R1.ls i c (hsub2 c m)
        rw [fr0 c z] at hc; cases hc
      have haF : a ∉ F0 := fun z => by
        obtain ⟨xs, hc⟩ := R1.ls i a hai
        rw [fr0 a z] at hc; cases hc
      have r1 : RepL X.K (upd H2 a (.lst (vs2 ++ zs))) (ss ++ ts) (vs2 ++ zs) (Fa2 ++ F0) :=
        (hL2.keep ⟨es, fun c m u h => by rw [upd_ne (by rintro rfl; exact hn2 m)]; exact h⟩).append (hT.keep ⟨es, fun c m u h => by rw [upd_ne (by rintro rfl; exact haF m)]; exact h⟩) hdj
      obtain ⟨fp', R'⟩ := hmut _ _ _ r1 (fun z => by
        rcases List.mem_append.mp z with z | z
        · exact hn2 z
        · exact haF z) (fun c m => by
        rcases List.mem_append.mp m with m | m
        · exact .inl m
        · exact .inr (fr0 c m))
      exact q _ _ fp' R'
end
/-! ### the order of tables -/
def rLtD (K : PySem.W.Frag) : R2 := fun x y H Q => ∃ d e, Dp K H x d ∧ Dp K H y e ∧ PySem.W.alike d e = true ∧ d ≠ .none ∧ min d.depth e.depth ≤ 64 ∧ Q (.bl (PySem.W.dataLt d e)) H
theorem op_ltD {X : Cx} (hu : X.A.units + 64 < cLine) : OpR X (compareOp .Lt) (rLtD X.K) := by
  intro pins s σ H x y v u Q I rx ry h
  obtain ⟨d, e, hd, he, al, nn, hdep, q⟩ := h
  obtain ⟨as, r1⟩ := Dp.reads I d x v hd rx
  obtain ⟨bs, r2⟩ := Dp.reads I e y u he ry
  exact PySem.W.lt_data r1 r2 al nn (by omega) ⟨.bl _, H, I, rfl, q⟩
def tabs? : List D → Option (List (List Int))
  | [] => some []
  | .lst r :: ds => match ints? r, tabs? ds with
    | some ns, some t => some (ns :: t)
    | _, _ => none
  | _ => none
theorem tabs?_some : ∀ {ds : List D} {t : List (List Int)}, tabs? ds = some t → ds = t.map dRow
  | [], _, h => by cases h; rfl
  | .lst r :: ds, t, h => by
    unfold tabs? at h
    split at h
    · rename_i ns u e1 e2; cases h
      rw [ints?_some e1, tabs?_some e2]; rfl
    · cases h
  | .non :: _, _, h => by simp [tabs?] at h
  | .bl _ :: _, _, h => by simp [tabs?] at h
  | .int _ :: _, _, h => by simp [tabs?] at h
  | .str _ :: _, _, h => by simp [tabs?] at h
  | .tup _ :: _, _, h => by simp [tabs?] at h
  | .scr _ :: _, _, h => by simp [tabs?] at h
@[simp] theorem tabs?_map (t : List (List Int)) : tabs? (t.map dRow) = some t := by
  induction t with
  | nil => rfl
  | cons r t ih =>
    have e : ints? (r.map D.int) = some r := ints?_map r
    show (match ints? (r.map D.int), tabs? (t.map dRow) with
      | some ns, some t => some (ns :: t)
      | _, _ => none) = _
    rw [e, ih]
/-- of two tables -/
def tabLt (t u : List (List Int)) : Bool := PySem.W.DatumOrd.lt t u
theorem pyL_map {α : Type} (f : α → D) : ∀ xs : List α, D.pyL (xs.map f) = xs.map fun x => (f x).py
  | [] => rfl
  | x :: xs => by simp [D.pyL, pyL_map f xs]
theorem dTab_py (t : List (List Int)) : (dTab t).py = PySem.W.Datum.toD t := by
  show PyData.list (D.pyL (t.map dRow)) = PyData.list (t.map fun r => PyData.list (r.map PyData.int))
  rw [pyL_map]
  congr 1
  apply List.map_congr_left
  intro r _
  show PyData.list (D.pyL (r.map D.int)) = _
  rw [pyL_map]; rfl
def gLtT : D → D → Option D
  | .int i, .int j => some (.bl (decide (i < j)))
  | .lst xs, .lst ys => match tabs? xs, tabs? ys with
    | some t, some u => some (.bl (tabLt t u))
    | _, _ => none
  | _, _ => none
def fLtT := flat2 gLtT
theorem tab_deep (t : List (List Int)) : (dTab t).py.depth ≤ 2 := (flt_py 2 (dTab t) (flt_tab t)).2
theorem rLtD_tab {K : PySem.W.Frag} {H : Hp} {x y : V} {t u : List (List Int)} {Q : VK} (hx : Dt K H x (dTab t)) (hy : Dt K H y (dTab u)) (q : Q (.bl (tabLt t u)) H) : rLtD K x y H Q := by
  refine ⟨_, _, hx.dp, hy.dp, ?_, ?_, Nat.le_trans (Nat.min_le_left _ _) (Nat.le_trans (tab_deep t) (by decide)), ?_⟩
  · rw [dTab_py, dTab_py]; exact PySem.W.DatumOrd.alike t u
  · rw [dTab_py]; exact PySem.W.DatumOrd.notNone t
  · rw [dTab_py, dTab_py, PySem.W.DatumOrd.lt_eq]; exact q
theorem op2_ltT {K : PySem.W.Frag} : Op2 K (fun x y H Q => rI0 (fun i j => .bl (decide (i < j))) x y H Q ∨ rLtD K x y H Q) fLtT := .flat fun H x dx y dy z Q hx hy hz q => by
  unfold gLtT at hz
  split at hz
  · cases hz; cases hx; cases hy; exact .inl ⟨_, _, rfl, rfl, q _ (.bl _)⟩
  · split at hz
    · rename_i t u e1 e2
      cases hz
      rw [tabs?_some e1] at hx
      rw [tabs?_some e2] at hy
      exact .inr (rLtD_tab hx hy (q _ (.bl _)))
    · cases hz
  · cases hz
end DL

set_option Elab.async false
set_option linter.all false
set_option maxRecDepth 100000
set_option maxHeartbeats 4000000
/-! min, max of two values by their data. -/
namespace ZMm
open PySem PySem.Spec PyProof.Rows PySem.W
section
variable {prog : Program} {w : World} {A : Around} {E : Value → Shared → Prop} {s : Shared} {a b : Value} {x y : PyData} {as bs : List Addr} {Q : Value → Shared → Prop}
theorem alike2 {x y : PyData} (h1 : alike x x = true) (h2 : alike y y = true) (h3 : alike x y = true) (h4 : alike y x = true) (n1 : x ≠ .none) (n2 : y ≠ .none) : AlikeAll [x, y] := by
  have two : ∀ z, z ∈ [x, y] → z = x ∨ z = y := fun z m => by simpa using m
  constructor
  · intro p hp q hq
    rcases two p hp with rfl | rfl <;> rcases two q hq with rfl | rfl <;> assumption
  · intro p hp
    rcases two p hp with rfl | rfl <;> assumption
theorem reads2 {h : Heap} (ra : Reads h a x as) (rb : Reads h b y bs) : ∃ cs, ReadsAll h (#[a, b] : Array Value).toList [x, y] cs := ⟨_, .cons ra (.cons rb .nil)⟩
theorem min2 (hh : A.handled = none) (ra : Reads s.heap a x as) (rb : Reads s.heap b y bs) (al : AlikeAll [x, y]) (hu : A.units + 1 + PyData.depthAll [x, y] < cLine)
    (h : ∀ h' tk, (∀ c o, s.heap.get? c = some o → h'.get? c = some o) → Q (if dataLt y x = true then b else a) { s with heap := h', toks := tk }) :
    wpAny (model prog w) A (call (.builtin "min") [a, b]) Q E s := by
  have loopName : (toString "min" ++ toString ".loop" : String) = "min.loop" := by decide
  refine call_function_tree F.kind_min F.plain_min F.entry_min (F.args_min2 _ _) ?_
  show wpAny _ A.in1 (Builtin.Builtins.bindParams "min" ["key", "default"] 0 ⟨[], []⟩ >>= _) _ _ s
  refine wpAny_bind (wpAny_of_eq (show Builtin.Builtins.bindParams "min" ["key", "default"] 0 ⟨[], []⟩ = pure [none, none] from rfl) ?_)
  show wpAny _ A.in1 (newTuple [a, b] >>= _) _ _ s
  refine wpAny_bind (wpAny_newObj_type ?_)
  let s1 : Shared := { s with heap := s.heap.push { cls := .type "tuple", data := .seq #[a, b] } }
  have k1 : ∀ c o, s.heap.get? c = some o → s1.heap.get? c = some o := fun c o e => Heap.get?_push_of_some _ e
  have tup : s1.heap.IsTuple s.heap.objs.size #[a, b] := ⟨_, Heap.get?_push_size _ rfl, rfl, 0, rfl⟩
  obtain ⟨cs, rall⟩ := reads2 (Reads.keeps k1 ra) (Reads.keeps k1 rb)
  refine wpAny_bind (iter_tupleW (A := A.in1) (s := s1) hh tup fun s2 e2 W st lt hw hk => ?_)
  refine wpAny_bind (wpAny_newObj_type ?_)
  have out : s2.heap.objs.size ∉ [s1.heap.objs.size, s.heap.objs.size] := fun m => Nat.lt_irrefl _ (lt _ m)
  rw [loopName]
  refine wpAny_pure ⟨plainId_quiet F.plain_min_loop _, ?_⟩
  refine codeAny_min_loop_firstH W s1.heap hw _ (cmpIn_lt (A := A.in1) rall al hu) s2.heap.objs.size out (fresh_in hk) _ (show 0 < 2 from Nat.succ_pos 1) (fun c o e => Heap.get?_push_of_some _ (hk c o e)) (W.frame 0 s2 _ s2.toks st (Nat.le_refl _) fun c _ o e => Heap.get?_push_of_some _ e) (Heap.get?_push_size _ rfl) fun v s' hP hm => ?_
  obtain ⟨h', tk, rfl, hk'⟩ := moved_old e2 rfl (Moved.drop_new (tk := s2.toks) hm (Nat.le_refl _))
  have hv : v = if dataLt y x = true then b else a := by
    have hP : (#[a, b] : Array Value)[argBest (fun i j => dataLt ([x, y].getD i .none) ([x, y].getD j .none)) 1]? = some v := hP
    cases hc : dataLt y x <;> simp [argBest, hc] at hP <;> simp [hP]
  rw [hv]
  exact h h' tk fun c o e => hk' c o (k1 c o e)
theorem max2 (hh : A.handled = none) (ra : Reads s.heap a x as) (rb : Reads s.heap b y bs) (al : AlikeAll [x, y]) (hu : A.units + 1 + PyData.depthAll [x, y] < cLine)
    (h : ∀ h' tk, (∀ c o, s.heap.get? c = some o → h'.get? c = some o) → Q (if dataLt x y = true then b else a) { s with heap := h', toks := tk }) :
    wpAny (model prog w) A (call (.builtin "max") [a, b]) Q E s := by
  have loopName : (toString "max" ++ toString ".loop" : String) = "max.loop" := by decide
  refine call_function_tree F.kind_max F.plain_max F.entry_max (F.args_max2 _ _) ?_
  show wpAny _ A.in1 (Builtin.Builtins.bindParams "max" ["key", "default"] 0 ⟨[], []⟩ >>= _) _ _ s
  refine wpAny_bind (wpAny_of_eq (show Builtin.Builtins.bindParams "max" ["key", "default"] 0 ⟨[], []⟩ = pure [none, none] from rfl) ?_)
  show wpAny _ A.in1 (newTuple [a, b] >>= _) _ _ s
  refine wpAny_bind (wpAny_newObj_type ?_)
  let s1 : Shared := { s with heap := s.heap.push { cls := .type "tuple", data := .seq #[a, b] } }
  have k1 : ∀ c o, s.heap.get? c = some o → s1.heap.get? c = some o := fun c o e => Heap.get?_push_of_some _ e
  have tup : s1.heap.IsTuple s.heap.objs.size #[a, b] := ⟨_, Heap.get?_push_size _ rfl, rfl, 0, rfl⟩
  obtain ⟨cs, rall⟩ := reads2 (Reads.keeps k1 ra) (Reads.keeps k1 rb)
  refine wpAny_bind (iter_tupleW (A := A.in1) (s := s1) hh tup fun s2 e2 W st lt hw hk => ?_)
  refine wpAny_bind (wpAny_newObj_type ?_)
  have out : s2.heap.objs.size ∉ [s1.heap.objs.size, s.heap.objs.size] := fun m => Nat.lt_irrefl _ (lt _ m)
  rw [loopName]
  refine wpAny_pure ⟨plainId_quiet F.plain_max_loop _, ?_⟩
  refine codeAny_max_loop_firstH W s1.heap hw _ (cmpIn_gt (A := A.in1) rall al hu) s2.heap.objs.size out (fresh_in hk) _ (show 0 < 2 from Nat.succ_pos 1) (fun c o e => Heap.get?_push_of_some _ (hk c o e)) (W.frame 0 s2 _ s2.toks st (Nat.le_refl _) fun c _ o e => Heap.get?_push_of_some _ e) (Heap.get?_push_size _ rfl) fun v s' hP hm => ?_
  obtain ⟨h', tk, rfl, hk'⟩ := moved_old e2 rfl (Moved.drop_new (tk := s2.toks) hm (Nat.le_refl _))
  have hv : v = if dataLt x y = true then b else a := by
    have hP : (#[a, b] : Array Value)[argBest (fun i j => dataLt ([x, y].getD j .none) ([x, y].getD i .none)) 1]? = some v := hP
    cases hc : dataLt x y <;> simp [argBest, hc] at hP <;> simp [hP]
  rw [hv]
  exact h h' tk fun c o e => hk' c o (k1 c o e)
end
end ZMm
namespace DL
open PySem PySem.Spec PyProof.Rows L2
open Evl (Ex)
/-- two tables, by their data -/
def rTab2 (K : PySem.W.Frag) (f : List (List Int) → List (List Int) → Bool) : List V → Hp → VK → Prop := fun xs H Q => ∃ x y t u, xs = [x, y] ∧ Dp K H x (dTab t).py ∧ Dp K H y (dTab u).py ∧ Q (if f t u = true then y else x) H
theorem tab_alike (t u : List (List Int)) : PySem.W.AlikeAll [(dTab t).py, (dTab u).py] := by
  rw [dTab_py, dTab_py]
  exact ZMm.alike2 (PySem.W.DatumOrd.alike t t) (PySem.W.DatumOrd.alike u u) (PySem.W.DatumOrd.alike t u) (PySem.W.DatumOrd.alike u t) (PySem.W.DatumOrd.notNone t) (PySem.W.DatumOrd.notNone u)
theorem tab_deep2 (t u : List (List Int)) : PyData.depthAll [(dTab t).py, (dTab u).py] ≤ 2 := by
  have h1 := tab_deep t
  have h2 := tab_deep u
  simp only [PyData.depthAll]
  omega
theorem call_minT {X : Cx} (hc : X.calm = true) (hu : X.A.units + 64 < cLine) : CallR X (.builtin "min") (rTab2 X.K fun t u => tabLt u t) := by
  intro pins s σ H xs us Q I r h
  obtain ⟨x, y, t, u, rfl, hx, hy, q⟩ := h
  cases r with
  | cons rx rr =>
    cases rr with
    | cons ry rr =>
      cases rr
      obtain ⟨as, r1⟩ := Dp.reads I _ _ _ hx rx
      obtain ⟨bs, r2⟩ := Dp.reads I _ _ _ hy ry
      have hd := tab_deep2 t u
      refine ZMm.min2 (I.ok.hd hc) r1 r2 (tab_alike t u) (by omega) fun h' tk k => ⟨_, H, I.kept k, ?_, q⟩
      have e : PySem.W.dataLt (dTab u).py (dTab t).py = tabLt u t := by rw [dTab_py, dTab_py]; exact PySem.W.DatumOrd.lt_eq u t
      rw [e]
      show RelV (if tabLt u t = true then y else x) _
      cases tabLt u t
      · exact rx
      · exact ry
theorem call_maxT {X : Cx} (hc : X.calm = true) (hu : X.A.units + 64 < cLine) : CallR X (.builtin "max") (rTab2 X.K fun t u => tabLt t u) := by
  intro pins s σ H xs us Q I r h
  obtain ⟨x, y, t, u, rfl, hx, hy, q⟩ := h
  cases r with
  | cons rx rr =>
    cases rr with
    | cons ry rr =>
      cases rr
      obtain ⟨as, r1⟩ := Dp.reads I _ _ _ hx rx
      obtain ⟨bs, r2⟩ := Dp.reads I _ _ _ hy ry
      have hd := tab_deep2 t u
      refine ZMm.max2 (I.ok.hd hc) r1 r2 (tab_alike t u) (by omega) fun h' tk k => ⟨_, H, I.kept k, ?_, q⟩
      have e : PySem.W.dataLt (dTab t).py (dTab u).py = tabLt t u := by rw [dTab_py, dTab_py]; exact PySem.W.DatumOrd.lt_eq t u
      rw [e]
      show RelV (if tabLt t u = true then y else x) _
      cases tabLt t u
      · exact rx
      · exact ry
def gBest (f : List (List Int) → List (List Int) → Bool) : List D → Option R
  | [.lst xs, .lst ys] => match tabs? xs, tabs? ys with
    | some t, some u => some (.vw (dTab (if f t u = true then u else t)))
    | _, _ => none
  | _ => none
theorem ok_best {K : PySem.W.Frag} {f : List (List Int) → List (List Int) → Bool} : CallOk K (rTab2 K f) (gBest f) := by
  intro H H1 fp vs ds z Q h ls ex hz q
  unfold gBest at hz
  split at hz
  · rename_i xs ys
    split at hz
    · rename_i t u e1 e2; cases hz
      rw [tabs?_some e1, tabs?_some e2] at h
      cases h with
      | cons h1 t1 =>
        cases t1 with
        | cons h2 t2 =>
          cases t2
          refine ⟨_, _, t, u, rfl, h1.dp, h2.dp, q _ [] H1 (Evl.Ex.refl H1) ⟨rfl, ?_⟩⟩
          cases f t u
          · exact h1
          · exact h2
    · cases hz
  · cases hz
def gMinT := gBest fun t u => tabLt u t
def gMaxT := gBest fun t u => tabLt t u
/-! a < b < c of tables -/
section
variable {X : Cx} {a b c : Expr} {ma mb mc : ME} {pos : Pos}
def mChT (ma mb mc : ME) : ME := fun ρ => match ma ρ, mb ρ with
  | some x, some y => match x.data, y.data with
    | .lst xs, .lst ys => match tabs? xs, tabs? ys with
      | some t, some u => if tabLt t u = true then (match mc ρ with
        | some z => match z.data with
          | .lst zs => match tabs? zs with
            | some v => some (.sh (.bl (tabLt u v)))
            | none => none
          | _ => none
        | none => none) else some (.sh (.bl false))
      | _, _ => none
    | _, _ => none
  | _, _ => none
theorem sim_chainT {K : PySem.W.Frag} {ta tb tc : TE} (sa : SimE K ta ma) (sb : SimE K tb mb) (sc : SimE K tc mc) : SimE K (tChain (rLtD K) (rLtD K) ta tb tc) (mChT ma mb mc) := by
  intro G H σ ρ fp r Q R hm q
  unfold mChT at hm
  split at hm
  rotate_left
  · cases hm
  rename_i x y e1 e2
  split at hm
  rotate_left
  · cases hm
  rename_i xs ys e3 e4
  split at hm
  rotate_left
  · cases hm
  rename_i t u e5 e6
  refine sa G H σ ρ fp x _ R e1 fun v F H1 x1 o1 => ?_
  have R1 := R.grow x1
  refine sb G H1 σ ρ fp y _ R1 e2 fun w F2 H2 x2 o2 => ?_
  have d1 := (o1.mono x2).data; rw [e3, tabs?_some e5] at d1
  have d2 := o2.data; rw [e4, tabs?_some e6] at d2
  refine rLtD_tab d1 d2 ⟨tabLt t u, rfl, ?_⟩
  by_cases hf : tabLt t u = true
  · rw [hf] at hm ⊢
    rw [if_pos rfl] at hm ⊢
    split at hm
    rotate_left
    · cases hm
    rename_i z e7
    split at hm
    rotate_left
    · cases hm
    rename_i zs e8
    split at hm
    rotate_left
    · cases hm
    rename_i v' e9
    cases hm
    refine sc G H2 σ ρ fp z _ (R1.grow x2) e7 fun p F3 H3 x3 o3 => ?_
    have d3 := o3.data; rw [e8, tabs?_some e9] at d3
    exact rLtD_tab (d2.mono x3) d3 (q _ [] H3 ((x1.trans x2).trans x3) (Fl.bl _).rok)
  · rw [if_neg hf] at hm ⊢
    cases hm
    exact q _ [] H2 (x1.trans x2) (Fl.bl _).rok
theorem x_chainT (hu : X.A.units + 64 < cLine) (ha : XE X a ma) (hb : XE X b mb) (hc : XE X c mc) (hm : lastMarks [.Lt, .Lt] [b, c] = false := by with_unfolding_all rfl) : XE X (.Compare a [.Lt, .Lt] [b, c] pos) (mChT ma mb mc) := by
  obtain ⟨ta, p, s⟩ := ha
  obtain ⟨tb, p2, s2⟩ := hb
  obtain ⟨tc, p3, s3⟩ := hc
  exact ⟨_, pe_chain (op_ltD hu) (op_ltD hu) p p2 p3 hm, sim_chainT s s2 s3⟩
theorem xt_chainT (hu : X.A.units + 64 < cLine) (ha : XE X a ma) (hb : XE X b mb) (hc : XE X c mc) (hm : lastMarks [.Lt, .Lt] [b, c] = false := by with_unfolding_all rfl) : XT X (.Compare a [.Lt, .Lt] [b, c] pos) (mTst (mChT ma mb mc)) := by
  obtain ⟨ta, p, s⟩ := ha
  obtain ⟨tb, p2, s2⟩ := hb
  obtain ⟨tc, p3, s3⟩ := hc
  exact ⟨_, pt_chain (op_ltD hu) (op_ltD hu) p p2 p3 hm, sim_tst (sim_chainT s s2 s3)⟩
end
end DL

set_option Elab.async false
set_option linter.all false
set_option maxRecDepth 100000
set_option maxHeartbeats 4000000
/-! x in NAME, a module's tuple of texts. -/
namespace DL
open PySem PySem.Spec PyProof.Rows L2
open Evl (Ex)
section
variable {X : Cx} {a : Expr} {ma : ME} {x : Str} {p pos : Pos}
theorem flV_flat {d : D} {v : V} (h : flV d = some v) : flatV v = true := by
  unfold flV at h
  split at h <;> cases h <;> rfl
def mInK (zs : List Str) (ma : ME) : ME := fun ρ => match ma ρ with
  | some r => match flV r.data with
    | some v => some (.sh (.bl (inV v (zs.map V.str))))
    | none => none
  | none => none
theorem strs_flat (zs : List Str) : (zs.map V.str).all flatV = true := by
  rw [List.all_eq_true]
  intro v m
  obtain ⟨z, _, rfl⟩ := List.mem_map.mp m
  rfl
theorem x_inK {t : Addr} {zs : List Str} (hg : Gl X x) (hm : X.mg x = some (.ref t)) (hs : ∀ H, SqT X.K H t (zs.map V.str)) (ha : XE X a ma) (hd : (x == ("__debug__" : Str)) = false := by decide) (hb : behindInMarks .In (.Name x p) = false := by rfl) :
    XE X (.Compare a [.In] [.Name x p] pos) (mInK zs ma) := by
  obtain ⟨ta, pa, sa⟩ := ha
  refine ⟨_, pe_cmpR op_in_seq pa (pe_glob (v := .ref t) hg hm rfl hd) hb, fun G H σ ρ fp r Q R hmm q => ?_⟩
  unfold mInK at hmm
  split at hmm
  · rename_i r0 e1
    split at hmm
    · rename_i v e2; cases hmm
      refine sa G H σ ρ fp r0 _ R e1 fun w F H1 x1 o1 => ?_
      have := flV_ok o1.data e2; subst this
      exact ⟨t, _, rfl, .inr (hs H1), flV_flat e2, strs_flat zs, q _ [] H1 x1 (Fl.bl _).rok⟩
    · cases hmm
  · cases hmm
end
end DL

set_option Elab.async false
set_option linter.all false
set_option maxRecDepth 100000
set_option maxHeartbeats 4000000
namespace My
open PySem PySem.Spec PyProof.Rows L2 DL
noncomputable section
/-! ### the text -/
def topS (i : Nat) : Stmt := PySem.Challenge.pw_boxheap_k13_whole_three_ways.main.body.getD i (.Pass ⟨0, 0, 0, 0⟩)
abbrev s_is_whole : Stmt := topS 8
abbrev N_is_whole : List Str := ["value"]
theorem sc_is_whole : FnScope N_is_whole ["value"] (defScope s_is_whole) := ⟨rfl, rfl, rfl, by decide +kernel, rfl, by decide +kernel, by decide +kernel⟩
abbrev s_is_room : Stmt := topS 9
abbrev N_is_room : List Str := ["room", "number", "most"]
theorem sc_is_room : FnScope N_is_room ["room"] (defScope s_is_room) := ⟨rfl, rfl, rfl, by decide +kernel, rfl, by decide +kernel, by decide +kernel⟩
abbrev s_is_row : Stmt := topS 10
abbrev N_is_row : List Str := ["row", "columns", "height", "number"]
theorem sc_is_row : FnScope N_is_row ["row", "columns", "height"] (defScope s_is_row) := ⟨rfl, rfl, rfl, by decide +kernel, rfl, by decide +kernel, by decide +kernel⟩
abbrev s_never_rises : Stmt := topS 11
abbrev N_never_rises : List Str := ["numbers", "ahead", "number"]
theorem sc_never_rises : FnScope N_never_rises ["numbers"] (defScope s_never_rises) := ⟨rfl, rfl, rfl, by decide +kernel, rfl, by decide +kernel, by decide +kernel⟩
abbrev s_is_table : Stmt := topS 12
abbrev N_is_table : List Str := ["room", "table", "rows", "columns", "height", "row", "column"]
theorem sc_is_table : FnScope N_is_table ["room", "table"] (defScope s_is_table) := ⟨rfl, rfl, rfl, by decide +kernel, rfl, by decide +kernel, by decide +kernel⟩
abbrev s_is_lane : Stmt := topS 13
abbrev N_is_lane : List Str := ["lane", "rights", "downs"]
theorem sc_is_lane : FnScope N_is_lane ["lane", "rights", "downs"] (defScope s_is_lane) := ⟨rfl, rfl, rfl, by decide +kernel, rfl, by decide +kernel, by decide +kernel⟩
abbrev s_are_lanes : Stmt := topS 14
abbrev N_are_lanes : List Str := ["room", "ends", "lanes", "rows", "columns", "height", "k"]
theorem sc_are_lanes : FnScope N_are_lanes ["room", "ends", "lanes"] (defScope s_are_lanes) := ⟨rfl, rfl, rfl, by decide +kernel, rfl, by decide +kernel, by decide +kernel⟩
abbrev s_check_room : Stmt := topS 15
abbrev N_check_room : List Str := ["room"]
theorem sc_check_room : FnScope N_check_room ["room"] (defScope s_check_room) := ⟨rfl, rfl, rfl, by decide +kernel, rfl, by decide +kernel, by decide +kernel⟩
abbrev s_check_table : Stmt := topS 16
abbrev N_check_table : List Str := ["room", "table"]
theorem sc_check_table : FnScope N_check_table ["room", "table"] (defScope s_check_table) := ⟨rfl, rfl, rfl, by decide +kernel, rfl, by decide +kernel, by decide +kernel⟩
abbrev s_lanes_of : Stmt := topS 18
abbrev N_lanes_of : List Str := ["room", "table", "row"]
theorem sc_lanes_of : FnScope N_lanes_of ["room", "table"] (defScope s_lanes_of) := ⟨rfl, rfl, rfl, by decide +kernel, rfl, by decide +kernel, by decide +kernel⟩
abbrev s_table_of : Stmt := topS 19
abbrev N_table_of : List Str := ["room", "lanes", "table", "lane"]
theorem sc_table_of : FnScope N_table_of ["room", "lanes"] (defScope s_table_of) := ⟨rfl, rfl, rfl, by decide +kernel, rfl, by decide +kernel, by decide +kernel⟩
abbrev s_lane_of : Stmt := topS 20
abbrev N_lane_of : List Str := ["row", "height", "lane", "ahead", "number"]
theorem sc_lane_of : FnScope N_lane_of ["row", "height"] (defScope s_lane_of) := ⟨rfl, rfl, rfl, by decide +kernel, rfl, by decide +kernel, by decide +kernel⟩
abbrev s_row_of : Stmt := topS 21
abbrev N_row_of : List Str := ["lane", "height", "row", "number", "step"]
theorem sc_row_of : FnScope N_row_of ["lane", "height"] (defScope s_row_of) := ⟨rfl, rfl, rfl, by decide +kernel, rfl, by decide +kernel, by decide +kernel⟩
abbrev s_floor_of : Stmt := topS 24
abbrev N_floor_of : List Str := ["room", "table", "height", "tops", "fronts", "sides", "i", "row", "j", "number", "column", "h"]
theorem sc_floor_of : FnScope N_floor_of ["room", "table"] (defScope s_floor_of) := ⟨rfl, rfl, rfl, by decide +kernel, rfl, by decide +kernel, by decide +kernel⟩
abbrev s_covered : Stmt := topS 25
abbrev N_covered : List Str := ["tile", "kind", "u", "v"]
theorem sc_covered : FnScope N_covered ["tile"] (defScope s_covered) := ⟨rfl, rfl, rfl, by decide +kernel, rfl, by decide +kernel, by decide +kernel⟩
abbrev s_ground : Stmt := topS 26
abbrev N_ground : List Str := ["room", "empty", "_"]
theorem sc_ground : FnScope N_ground ["room"] (defScope s_ground) := ⟨rfl, rfl, rfl, by decide +kernel, rfl, by decide +kernel, by decide +kernel⟩
abbrev s_heap_of : Stmt := topS 27
abbrev N_heap_of : List Str := ["room", "tiles", "rows", "columns", "numbers", "apart", "place", "u", "i", "j"]
theorem sc_heap_of : FnScope N_heap_of ["room", "tiles"] (defScope s_heap_of) := ⟨rfl, rfl, rfl, by decide +kernel, rfl, by decide +kernel, by decide +kernel⟩
abbrev s_above : Stmt := topS 28
abbrev N_above : List Str := ["numbers", "level", "number"]
theorem sc_above : FnScope N_above ["numbers", "level"] (defScope s_above) := ⟨rfl, rfl, rfl, by decide +kernel, rfl, by decide +kernel, by decide +kernel⟩
abbrev s_all_covered : Stmt := topS 29
abbrev N_all_covered : List Str := ["tiles", "tile", "triangle"]
theorem sc_all_covered : FnScope N_all_covered ["tiles"] (defScope s_all_covered) := ⟨rfl, rfl, rfl, by decide +kernel, rfl, by decide +kernel, by decide +kernel⟩
abbrev s_is_tile : Stmt := topS 30
abbrev N_is_tile : List Str := ["tile"]
theorem sc_is_tile : FnScope N_is_tile ["tile"] (defScope s_is_tile) := ⟨rfl, rfl, rfl, by decide +kernel, rfl, by decide +kernel, by decide +kernel⟩
abbrev s_is_floor : Stmt := topS 31
abbrev N_is_floor : List Str := ["room", "tiles", "tile"]
theorem sc_is_floor : FnScope N_is_floor ["room", "tiles"] (defScope s_is_floor) := ⟨rfl, rfl, rfl, by decide +kernel, rfl, by decide +kernel, by decide +kernel⟩
abbrev s_places_apart : Stmt := topS 32
abbrev N_places_apart : List Str := ["room", "apart", "i"]
theorem sc_places_apart : FnScope N_places_apart ["room", "apart"] (defScope s_places_apart) := ⟨rfl, rfl, rfl, by decide +kernel, rfl, by decide +kernel, by decide +kernel⟩
abbrev s_tops_apart : Stmt := topS 33
abbrev N_tops_apart : List Str := ["tiles", "apart", "kind", "u", "v"]
theorem sc_tops_apart : FnScope N_tops_apart ["tiles", "apart"] (defScope s_tops_apart) := ⟨rfl, rfl, rfl, by decide +kernel, rfl, by decide +kernel, by decide +kernel⟩
abbrev s_puts : Stmt := topS 35
abbrev N_puts : List Str := ["room", "table", "place"]
theorem sc_puts : FnScope N_puts ["room", "table"] (defScope s_puts) := ⟨rfl, rfl, rfl, by decide +kernel, rfl, by decide +kernel, by decide +kernel⟩
abbrev s_climb : Stmt := topS 36
abbrev N_climb : List Str := ["room", "table", "places", "level", "row", "column"]
theorem sc_climb : FnScope N_climb ["room", "table"] (defScope s_climb) := ⟨rfl, rfl, rfl, by decide +kernel, rfl, by decide +kernel, by decide +kernel⟩
abbrev s_after : Stmt := topS 37
abbrev N_after : List Str := ["room", "table", "places", "row", "column", "columns", "ahead", "raised", "behind", "numbers", "_"]
theorem sc_after : FnScope N_after ["room", "table"] (defScope s_after) := ⟨rfl, rfl, rfl, by decide +kernel, rfl, by decide +kernel, by decide +kernel⟩
abbrev s_ground_places : Stmt := topS 38
abbrev N_ground_places : List Str := ["room", "row", "column"]
theorem sc_ground_places : FnScope N_ground_places ["room"] (defScope s_ground_places) := ⟨rfl, rfl, rfl, by decide +kernel, rfl, by decide +kernel, by decide +kernel⟩
abbrev s_may_put : Stmt := topS 39
abbrev N_may_put : List Str := ["room", "table", "place", "row", "column", "height", "left", "ahead"]
theorem sc_may_put : FnScope N_may_put ["room", "table", "place"] (defScope s_may_put) := ⟨rfl, rfl, rfl, by decide +kernel, rfl, by decide +kernel, by decide +kernel⟩
abbrev s__law_of : Stmt := topS 41
abbrev N__law_of : List Str := ["_law_script", "_law_k"]
theorem sc__law_of : FnScope N__law_of ["_law_script", "_law_k"] (defScope s__law_of) := ⟨rfl, rfl, rfl, by decide +kernel, rfl, by decide +kernel, by decide +kernel⟩
abbrev s__law_drawn : Stmt := topS 42
abbrev N__law_drawn : List Str := ["_law_script", "_law_k"]
theorem sc__law_drawn : FnScope N__law_drawn ["_law_script", "_law_k"] (defScope s__law_drawn) := ⟨rfl, rfl, rfl, by decide +kernel, rfl, by decide +kernel, by decide +kernel⟩
abbrev s__law_room : Stmt := topS 43
abbrev N__law_room : List Str := ["_law_cell", "_law_wide"]
theorem sc__law_room : FnScope N__law_room ["_law_cell"] (defScope s__law_room) := ⟨rfl, rfl, rfl, by decide +kernel, rfl, by decide +kernel, by decide +kernel⟩
abbrev s__law_most : Stmt := topS 44
abbrev N__law_most : List Str := ["_law_table_here", "_law_room_here", "_law_i", "_law_j", "_law_most_here"]
theorem sc__law_most : FnScope N__law_most ["_law_table_here", "_law_room_here", "_law_i", "_law_j"] (defScope s__law_most) := ⟨rfl, rfl, rfl, by decide +kernel, rfl, by decide +kernel, by decide +kernel⟩
abbrev s__law_table : Stmt := topS 45
abbrev N__law_table : List Str := ["_law_script", "_law_start", "_law_room_here", "_law_table_here", "_law_i", "_law_j", "_law_most_here", "_law_cell", "_law_number"]
theorem sc__law_table : FnScope N__law_table ["_law_script", "_law_start", "_law_room_here"] (defScope s__law_table) := ⟨rfl, rfl, rfl, by decide +kernel, rfl, by decide +kernel, by decide +kernel⟩
abbrev s__law_copy : Stmt := topS 46
abbrev N__law_copy : List Str := ["_law_table_here", "_law_row"]
theorem sc__law_copy : FnScope N__law_copy ["_law_table_here"] (defScope s__law_copy) := ⟨rfl, rfl, rfl, by decide +kernel, rfl, by decide +kernel, by decide +kernel⟩
abbrev s__law_two : Stmt := topS 47
abbrev N__law_two : List Str := ["_law_script", "_law_room_here", "_law_one", "_law_other", "_law_cell", "_law_i", "_law_j"]
theorem sc__law_two : FnScope N__law_two ["_law_script", "_law_room_here"] (defScope s__law_two) := ⟨rfl, rfl, rfl, by decide +kernel, rfl, by decide +kernel, by decide +kernel⟩
abbrev s__law_back : Stmt := topS 48
abbrev N__law_back : List Str := ["_law_room_here", "_law_table_here"]
theorem sc__law_back : FnScope N__law_back ["_law_room_here", "_law_table_here"] (defScope s__law_back) := ⟨rfl, rfl, rfl, by decide +kernel, rfl, by decide +kernel, by decide +kernel⟩
abbrev s_law : Stmt := topS 49
abbrev N_law : List Str := ["_law_script", "_law_room_here", "_law_two_here", "_law_alike", "_law_here", "_law_turn", "_law_further", "_law_i"]
theorem sc_law : FnScope N_law ["_law_script"] (defScope s_law) := ⟨rfl, rfl, rfl, by decide +kernel, rfl, by decide +kernel, by decide +kernel⟩
/-- where all stands -/
structure Ad where
  a_is_whole : Addr
  d_is_whole : FuncData
  a_is_room : Addr
  d_is_room : FuncData
  a_is_row : Addr
  d_is_row : FuncData
  a_never_rises : Addr
  d_never_rises : FuncData
  a_is_table : Addr
  d_is_table : FuncData
  a_is_lane : Addr
  d_is_lane : FuncData
  a_are_lanes : Addr
  d_are_lanes : FuncData
  a_check_room : Addr
  d_check_room : FuncData
  a_check_table : Addr
  d_check_table : FuncData
  a_lanes_of : Addr
  d_lanes_of : FuncData
  a_table_of : Addr
  d_table_of : FuncData
  a_lane_of : Addr
  d_lane_of : FuncData
  a_row_of : Addr
  d_row_of : FuncData
  a_floor_of : Addr
  d_floor_of : FuncData
  a_covered : Addr
  d_covered : FuncData
  a_ground : Addr
  d_ground : FuncData
  a_heap_of : Addr
  d_heap_of : FuncData
  a_above : Addr
  d_above : FuncData
  a_all_covered : Addr
  d_all_covered : FuncData
  a_is_tile : Addr
  d_is_tile : FuncData
  a_is_floor : Addr
  d_is_floor : FuncData
  a_places_apart : Addr
  d_places_apart : FuncData
  a_tops_apart : Addr
  d_tops_apart : FuncData
  a_puts : Addr
  d_puts : FuncData
  a_climb : Addr
  d_climb : FuncData
  a_after : Addr
  d_after : FuncData
  a_ground_places : Addr
  d_ground_places : FuncData
  a_may_put : Addr
  d_may_put : FuncData
  a__law_of : Addr
  d__law_of : FuncData
  a__law_drawn : Addr
  d__law_drawn : FuncData
  a__law_room : Addr
  d__law_room : FuncData
  a__law_most : Addr
  d__law_most : FuncData
  a__law_table : Addr
  d__law_table : FuncData
  a__law_copy : Addr
  d__law_copy : FuncData
  a__law_two : Addr
  d__law_two : FuncData
  a__law_back : Addr
  d__law_back : FuncData
  a_law : Addr
  d_law : FuncData
  c_NoRoom : Addr
  c_NoTable : Addr
  c_NoLanes : Addr
  c_NoFloor : Addr
  t_MOST : Addr
  t_KINDS : Addr
structure Df (K : PySem.W.Frag) (mg : Str → Option Value) (x : Str) (st : Stmt) (ps : List Str) (f : Addr) (fd : FuncData) : Prop where
  F : Fun K x x st f fd
  b : Binds K fd ps []
  g : mg x = some (.ref f)
structure Txt (K : PySem.W.Frag) (mg : Str → Option Value) (A : Ad) : Prop where
  is_whole : Df K mg "is_whole" s_is_whole ["value"] A.a_is_whole A.d_is_whole
  is_room : Df K mg "is_room" s_is_room ["room"] A.a_is_room A.d_is_room
  is_row : Df K mg "is_row" s_is_row ["row", "columns", "height"] A.a_is_row A.d_is_row
  never_rises : Df K mg "never_rises" s_never_rises ["numbers"] A.a_never_rises A.d_never_rises
  is_table : Df K mg "is_table" s_is_table ["room", "table"] A.a_is_table A.d_is_table
  is_lane : Df K mg "is_lane" s_is_lane ["lane", "rights", "downs"] A.a_is_lane A.d_is_lane
  are_lanes : Df K mg "are_lanes" s_are_lanes ["room", "ends", "lanes"] A.a_are_lanes A.d_are_lanes
  check_room : Df K mg "check_room" s_check_room ["room"] A.a_check_room A.d_check_room
  check_table : Df K mg "check_table" s_check_table ["room", "table"] A.a_check_table A.d_check_table
  lanes_of : Df K mg "lanes_of" s_lanes_of ["room", "table"] A.a_lanes_of A.d_lanes_of
  table_of : Df K mg "table_of" s_table_of ["room", "lanes"] A.a_table_of A.d_table_of
  lane_of : Df K mg "lane_of" s_lane_of ["row", "height"] A.a_lane_of A.d_lane_of
  row_of : Df K mg "row_of" s_row_of ["lane", "height"] A.a_row_of A.d_row_of
  floor_of : Df K mg "floor_of" s_floor_of ["room", "table"] A.a_floor_of A.d_floor_of
  covered : Df K mg "covered" s_covered ["tile"] A.a_covered A.d_covered
  ground : Df K mg "ground" s_ground ["room"] A.a_ground A.d_ground
  heap_of : Df K mg "heap_of" s_heap_of ["room", "tiles"] A.a_heap_of A.d_heap_of
  above : Df K mg "above" s_above ["numbers", "level"] A.a_above A.d_above
  all_covered : Df K mg "all_covered" s_all_covered ["tiles"] A.a_all_covered A.d_all_covered
  is_tile : Df K mg "is_tile" s_is_tile ["tile"] A.a_is_tile A.d_is_tile
  is_floor : Df K mg "is_floor" s_is_floor ["room", "tiles"] A.a_is_floor A.d_is_floor
  places_apart : Df K mg "places_apart" s_places_apart ["room", "apart"] A.a_places_apart A.d_places_apart
  tops_apart : Df K mg "tops_apart" s_tops_apart ["tiles", "apart"] A.a_tops_apart A.d_tops_apart
  puts : Df K mg "puts" s_puts ["room", "table"] A.a_puts A.d_puts
  climb : Df K mg "climb" s_climb ["room", "table"] A.a_climb A.d_climb
  after : Df K mg "after" s_after ["room", "table"] A.a_after A.d_after
  ground_places : Df K mg "ground_places" s_ground_places ["room"] A.a_ground_places A.d_ground_places
  may_put : Df K mg "may_put" s_may_put ["room", "table", "place"] A.a_may_put A.d_may_put
  _law_of : Df K mg "_law_of" s__law_of ["_law_script", "_law_k"] A.a__law_of A.d__law_of
  _law_drawn : Df K mg "_law_drawn" s__law_drawn ["_law_script", "_law_k"] A.a__law_drawn A.d__law_drawn
  _law_room : Df K mg "_law_room" s__law_room ["_law_cell"] A.a__law_room A.d__law_room
  _law_most : Df K mg "_law_most" s__law_most ["_law_table_here", "_law_room_here", "_law_i", "_law_j"] A.a__law_most A.d__law_most
  _law_table : Df K mg "_law_table" s__law_table ["_law_script", "_law_start", "_law_room_here"] A.a__law_table A.d__law_table
  _law_copy : Df K mg "_law_copy" s__law_copy ["_law_table_here"] A.a__law_copy A.d__law_copy
  _law_two : Df K mg "_law_two" s__law_two ["_law_script", "_law_room_here"] A.a__law_two A.d__law_two
  _law_back : Df K mg "_law_back" s__law_back ["_law_room_here", "_law_table_here"] A.a__law_back A.d__law_back
  law : Df K mg "law" s_law ["_law_script"] A.a_law A.d_law
  z_all : mg "all" = none
  z_bool : mg "bool" = none
  z_enumerate : mg "enumerate" = none
  z_int : mg "int" = none
  z_isinstance : mg "isinstance" = none
  z_len : mg "len" = none
  z_list : mg "list" = none
  z_max : mg "max" = none
  z_min : mg "min" = none
  z_range : mg "range" = none
  z_sorted : mg "sorted" = none
  z_str : mg "str" = none
  z_tuple : mg "tuple" = none
  z_zip : mg "zip" = none
  e_NoRoom : ExcAt K mg "NoRoom" A.c_NoRoom
  e_NoTable : ExcAt K mg "NoTable" A.c_NoTable
  e_NoLanes : ExcAt K mg "NoLanes" A.c_NoLanes
  e_NoFloor : ExcAt K mg "NoFloor" A.c_NoFloor
  g_MOST : mg "MOST" = some (.ref A.t_MOST)
  s_MOST : ∀ H, SqT K H A.t_MOST (([6, 20, 20] : List Int).map V.int)
  g_KINDS : mg "KINDS" = some (.ref A.t_KINDS)
  s_KINDS : ∀ H, SqT K H A.t_KINDS ((["top", "front", "side"] : List Str).map V.str)
section
variable {P : Program} {w : World} {K : PySem.W.Frag} {mg : Str → Option Value} {base : Heap} {A : Ad}
/-! is_whole -/
def m_is_whole (A : Ad) : MS := (mRet (mAndV (mIsi "int" (mVar 0)) (mNotV (mIsi "bool" (mVar 0)))))
def g_is_whole (A : Ad) : List D → Option FO := runF N_is_whole.length (m_is_whole A)
theorem ok_is_whole (T : Txt K mg A) : FnOk P w K mg base (L2.CX P w) 1 A.a_is_whole A.d_is_whole ["value"] (spD K 1 (g_is_whole A)) := by
  have S := sc_is_whole
  exact fnD T.is_whole.F sc_is_whole rfl fun cdv AA outer s H E hr =>
    (xss_one (xs_ret (x_and (x_isi (T := "int") (by decide) (by rfl) T.z_isinstance (by rfl) T.z_int (by decide +kernel) (xv 0)) (x_one (x_not (x_isi (T := "bool") (by decide) (by rfl) T.z_isinstance (by rfl) T.z_bool (by decide +kernel) (xv 0)))))))
/-! is_room -/
def m_is_room (A : Ad) : MS := (mSeq (mIfS (mOr (mNot (mTst (mIsi "tuple" (mVar 0)))) (mTst (mOp fNe (mCB gLen (mCons (mVar 0) mNil)) (mCB gLen (mCons (mC (.ktp [(6 : Int), (20 : Int), (20 : Int)])) mNil))))) (mRet (mC (.bl false))) mNext)
    (mRet (mCB gAll (mCons (mLc (mZip (mCons (mVar 0) (mCons (mC (.ktp [(6 : Int), (20 : Int), (20 : Int)])) mNil))) (mgTup [1, 2]) mYes (mAndV (mCall 1 (g_is_whole A) (mCons (mVar 1) mNil)) (mCh (fun i j => decide (i ≤ j)) (fun i j => decide (i ≤ j)) (mC (.int 1)) (mVar 1) (mVar 2))) [1, 2]) mNil))))
def g_is_room (A : Ad) : List D → Option FO := runF N_is_room.length (m_is_room A)
theorem ok_is_room (T : Txt K mg A) : FnOk P w K mg base (L2.CX P w) 2 A.a_is_room A.d_is_room ["room"] (spD K 1 (g_is_room A)) := by
  have S := sc_is_room
  exact fnD T.is_room.F sc_is_room rfl fun cdv AA outer s H E hr =>
    (xss_cons (xs_if (xw_pt (xw_or (xt_not (xt_val (x_isi (T := "tuple") (by decide) (by rfl) T.z_isinstance (by rfl) T.z_tuple (by decide +kernel) (xv 0)))) (xw_or1 (xtcmp (op_neD hr.units) op2_ne (nomark _) (xcallB call_len ok_len (by rfl) T.z_len PySem.boot_len (xa (xv 0) xa_nil)) (xcallB call_len ok_len (by rfl) T.z_len PySem.boot_len (xa (xglobT (by rfl) T.g_MOST T.s_MOST) xa_nil)))))) (xss_one (xs_ret xbl)) xss_nil)
    (xss_one (xs_ret (xcallB (cr_all rfl) ok_all (by rfl) T.z_all (by decide +kernel) (xa (x_lc (own := [("number", 1), ("most", 2)]) rfl S.nd (xi_zip (by rfl) T.z_zip (xa (xv 0) (xa (xglobT (by rfl) T.g_MOST T.s_MOST) xa_nil))) (blkOk_by (own := [("number", 1), ("most", 2)]) (N := N_is_room) (sc := defScope s_is_room) (by decide +kernel)) (by decide) (fun _ _ _ _ _ => (xg_tup rfl (xns_cons (i := 1) S.nd rfl (by first | exact Or.inl rfl | exact Or.inr rfl) (xns_cons (i := 2) S.nd rfl (by first | exact Or.inl rfl | exact Or.inr rfl) xns_nil)))) (fun _ _ _ _ _ => xts_nil) (fun _ _ _ _ _ => (x_and (xcall (ok_is_whole T) (hr.mono (by decide)) (by rfl) T.is_whole.g T.is_whole.F.kp T.is_whole.b passL (xa (xv 1) xa_nil)) (x_one (x_chain op_le op_le xint (xv 1) (xv 2)))))) xa_nil)))))
/-! is_row -/
def m_is_row (A : Ad) : MS := (mSeq (mIfS (mOr (mNot (mTst (mIsi "list" (mVar 0)))) (mTst (mOp fNe (mCB gLen (mCons (mVar 0) mNil)) (mVar 1)))) (mRet (mC (.bl false))) mNext)
    (mRet (mCB gAll (mCons (mLc (mIL (mVar 0)) (mgName 3) mYes (mAndV (mCall 1 (g_is_whole A) (mCons (mVar 3) mNil)) (mCh (fun i j => decide (i ≤ j)) (fun i j => decide (i ≤ j)) (mC (.int 0)) (mVar 3) (mVar 2))) [3]) mNil))))
def g_is_row (A : Ad) : List D → Option FO := runF N_is_row.length (m_is_row A)
theorem ok_is_row (T : Txt K mg A) : FnOk P w K mg base (L2.CX P w) 2 A.a_is_row A.d_is_row ["row", "columns", "height"] (spD K 3 (g_is_row A)) := by
  have S := sc_is_row
  exact fnD T.is_row.F sc_is_row rfl fun cdv AA outer s H E hr =>
    (xss_cons (xs_if (xw_pt (xw_or (xt_not (xt_val (x_isi (T := "list") (by decide) (by rfl) T.z_isinstance (by rfl) T.z_list (by decide +kernel) (xv 0)))) (xw_or1 (xtcmp (op_neD hr.units) op2_ne (nomark _) (xcallB call_len ok_len (by rfl) T.z_len PySem.boot_len (xa (xv 0) xa_nil)) (xv 1))))) (xss_one (xs_ret xbl)) xss_nil)
    (xss_one (xs_ret (xcallB (cr_all rfl) ok_all (by rfl) T.z_all (by decide +kernel) (xa (x_lc (own := [("number", 3)]) rfl S.nd (xi_l (xv 0)) (blkOk_by (own := [("number", 3)]) (N := N_is_row) (sc := defScope s_is_row) (by decide +kernel)) (by decide) (fun _ _ _ _ _ => (xg_name (i := 3) S.nd rfl (by first | exact Or.inl rfl | exact Or.inr rfl))) (fun _ _ _ _ _ => xts_nil) (fun _ _ _ _ _ => (x_and (xcall (ok_is_whole T) (hr.mono (by decide)) (by rfl) T.is_whole.g T.is_whole.F.kp T.is_whole.b passL (xa (xv 3) xa_nil)) (x_one (x_chain op_le op_le xint (xv 3) (xv 2)))))) xa_nil)))))
/-! never_rises -/
def m_never_rises (A : Ad) : MS := (mRet (mCB gAll (mCons (mLc (mZip (mCons (mVar 0) (mCons (mSl (mVar 0) (mPart (mC (.int 1))) mNoPart) mNil))) (mgTup [1, 2]) mYes (mOp fLe (mVar 2) (mVar 1)) [1, 2]) mNil)))
def g_never_rises (A : Ad) : List D → Option FO := runF N_never_rises.length (m_never_rises A)
theorem ok_never_rises (T : Txt K mg A) : FnOk P w K mg base (L2.CX P w) 1 A.a_never_rises A.d_never_rises ["numbers"] (spD K 1 (g_never_rises A)) := by
  have S := sc_never_rises
  exact fnD T.never_rises.F sc_never_rises rfl fun cdv AA outer s H E hr =>
    (xss_one (xs_ret (xcallB (cr_all rfl) ok_all (by rfl) T.z_all (by decide +kernel) (xa (x_lc (own := [("ahead", 1), ("number", 2)]) rfl S.nd (xi_zip (by rfl) T.z_zip (xa (xv 0) (xa (x_sl (xv 0) (xo_some xint) xo_none) xa_nil))) (blkOk_by (own := [("ahead", 1), ("number", 2)]) (N := N_never_rises) (sc := defScope s_never_rises) (by decide +kernel)) (by decide) (fun _ _ _ _ _ => (xg_tup rfl (xns_cons (i := 1) S.nd rfl (by first | exact Or.inl rfl | exact Or.inr rfl) (xns_cons (i := 2) S.nd rfl (by first | exact Or.inl rfl | exact Or.inr rfl) xns_nil)))) (fun _ _ _ _ _ => xts_nil) (fun _ _ _ _ _ => (xcmp op_le op2_le (nomark _) (xv 2) (xv 1)))) xa_nil))))
/-! is_table -/
def m_is_table (A : Ad) : MS := (mSeq (mSetT (mgTup [2, 3, 4]) (mVar 0))
    (mSeq (mIfS (mOr (mNot (mTst (mIsi "list" (mVar 1)))) (mTst (mOp fNe (mCB gLen (mCons (mVar 1) mNil)) (mVar 2)))) (mRet (mC (.bl false))) mNext)
    (mSeq (mIfS (mNot (mTst (mCB gAll (mCons (mLc (mIL (mVar 1)) (mgName 5) mYes (mCall 3 (g_is_row A) (mCons (mVar 5) (mCons (mVar 3) (mCons (mVar 4) mNil)))) [5]) mNil)))) (mRet (mC (.bl false))) mNext)
    (mSeq (mIfS (mNot (mTst (mCB gAll (mCons (mLc (mIL (mVar 1)) (mgName 5) mYes (mCall 1 (g_never_rises A) (mCons (mVar 5) mNil)) [5]) mNil)))) (mRet (mC (.bl false))) mNext)
    (mRet (mCB gAll (mCons (mLc (mZipN (mVar 1)) (mgName 6) mYes (mCall 1 (g_never_rises A) (mCons (mVar 6) mNil)) [6]) mNil)))))))
def g_is_table (A : Ad) : List D → Option FO := runF N_is_table.length (m_is_table A)
theorem ok_is_table (T : Txt K mg A) : FnOk P w K mg base (L2.CX P w) 3 A.a_is_table A.d_is_table ["room", "table"] (spD K 2 (g_is_table A)) := by
  have S := sc_is_table
  exact fnD T.is_table.F sc_is_table rfl fun cdv AA outer s H E hr =>
    (xss_cons (xs_setT (xv 0) (xg_tup rfl (xns_cons (i := 2) S.nd rfl (by first | exact Or.inl rfl | exact Or.inr rfl) (xns_cons (i := 3) S.nd rfl (by first | exact Or.inl rfl | exact Or.inr rfl) (xns_cons (i := 4) S.nd rfl (by first | exact Or.inl rfl | exact Or.inr rfl) xns_nil)))))
    (xss_cons (xs_if (xw_pt (xw_or (xt_not (xt_val (x_isi (T := "list") (by decide) (by rfl) T.z_isinstance (by rfl) T.z_list (by decide +kernel) (xv 1)))) (xw_or1 (xtcmp (op_neD hr.units) op2_ne (nomark _) (xcallB call_len ok_len (by rfl) T.z_len PySem.boot_len (xa (xv 1) xa_nil)) (xv 2))))) (xss_one (xs_ret xbl)) xss_nil)
    (xss_cons (xs_if (xt_not (xt_val (xcallB (cr_all rfl) ok_all (by rfl) T.z_all (by decide +kernel) (xa (x_lc (own := [("row", 5)]) rfl S.nd (xi_l (xv 1)) (blkOk_by (own := [("row", 5)]) (N := N_is_table) (sc := defScope s_is_table) (by decide +kernel)) (by decide) (fun _ _ _ _ _ => (xg_name (i := 5) S.nd rfl (by first | exact Or.inl rfl | exact Or.inr rfl))) (fun _ _ _ _ _ => xts_nil) (fun _ _ _ _ _ => (xcall (ok_is_row T) (hr.mono (by decide)) (by rfl) T.is_row.g T.is_row.F.kp T.is_row.b passL (xa (xv 5) (xa (xv 3) (xa (xv 4) xa_nil)))))) xa_nil)))) (xss_one (xs_ret xbl)) xss_nil)
    (xss_cons (xs_if (xt_not (xt_val (xcallB (cr_all rfl) ok_all (by rfl) T.z_all (by decide +kernel) (xa (x_lc (own := [("row", 5)]) rfl S.nd (xi_l (xv 1)) (blkOk_by (own := [("row", 5)]) (N := N_is_table) (sc := defScope s_is_table) (by decide +kernel)) (by decide) (fun _ _ _ _ _ => (xg_name (i := 5) S.nd rfl (by first | exact Or.inl rfl | exact Or.inr rfl))) (fun _ _ _ _ _ => xts_nil) (fun _ _ _ _ _ => (xcall (ok_never_rises T) (hr.mono (by decide)) (by rfl) T.never_rises.g T.never_rises.F.kp T.never_rises.b passL (xa (xv 5) xa_nil)))) xa_nil)))) (xss_one (xs_ret xbl)) xss_nil)
    (xss_one (xs_ret (xcallB (cr_all rfl) ok_all (by rfl) T.z_all (by decide +kernel) (xa (x_lc (own := [("column", 6)]) rfl S.nd (xi_zipN (by rfl) T.z_zip (xv 1)) (blkOk_by (own := [("column", 6)]) (N := N_is_table) (sc := defScope s_is_table) (by decide +kernel)) (by decide) (fun _ _ _ _ _ => (xg_name (i := 6) S.nd rfl (by first | exact Or.inl rfl | exact Or.inr rfl))) (fun _ _ _ _ _ => xts_nil) (fun _ _ _ _ _ => (xcall (ok_never_rises T) (hr.mono (by decide)) (by rfl) T.never_rises.g T.never_rises.F.kp T.never_rises.b passL (xa (xv 6) xa_nil)))) xa_nil))))))))
/-! is_lane -/
def m_is_lane (A : Ad) : MS := (mSeq (mIfS (mOr (mNot (mTst (mIsi "str" (mVar 0)))) (mTst (mOp fNe (mCB gLen (mCons (mVar 0) mNil)) (mOp fAdd (mVar 1) (mVar 2))))) (mRet (mC (.bl false))) mNext)
    (mRet (mAndV (mOp fEq (mCount (mVar 0) (mC (.str (PySem.Str.ofString "r")))) (mVar 1)) (mOp fEq (mCount (mVar 0) (mC (.str (PySem.Str.ofString "d")))) (mVar 2)))))
def g_is_lane (A : Ad) : List D → Option FO := runF N_is_lane.length (m_is_lane A)
theorem ok_is_lane (T : Txt K mg A) : FnOk P w K mg base (L2.CX P w) 1 A.a_is_lane A.d_is_lane ["lane", "rights", "downs"] (spD K 3 (g_is_lane A)) := by
  have S := sc_is_lane
  exact fnD T.is_lane.F sc_is_lane rfl fun cdv AA outer s H E hr =>
    (xss_cons (xs_if (xw_pt (xw_or (xt_not (xt_val (x_isi (T := "str") (by decide) (by rfl) T.z_isinstance (by rfl) T.z_str (by decide +kernel) (xv 0)))) (xw_or1 (xtcmp (op_neD hr.units) op2_ne (nomark _) (xcallB call_len ok_len (by rfl) T.z_len PySem.boot_len (xa (xv 0) xa_nil)) (xadd (xv 1) (xv 2)))))) (xss_one (xs_ret xbl)) xss_nil)
    (xss_one (xs_ret (x_and (xcmp (op_eqD hr.units) op2_eq (nomark _) (x_count (xv 0) xstr) (xv 1)) (x_one (xcmp (op_eqD hr.units) op2_eq (nomark _) (x_count (xv 0) xstr) (xv 2)))))))
/-! are_lanes -/
def m_are_lanes (A : Ad) : MS := (mSeq (mSetT (mgTup [3, 4, 5]) (mVar 0))
    (mSeq (mIfS (mOr (mNot (mTst (mIsi "list" (mVar 2)))) (mTst (mOp fNe (mCB gLen (mCons (mVar 2) mNil)) (mVar 3)))) (mRet (mC (.bl false))) mNext)
    (mRet (mCB gAll (mCons (mLc (mRg1 (mCons (mVar 3) mNil)) (mgName 6) mYes (mCall 3 (g_is_lane A) (mCons (mOp fIx (mVar 2) (mVar 6)) (mCons (mOp fSub (mOp fAdd (mVar 4) (mVar 6)) (mOp fIx (mVar 1) (mVar 6))) (mCons (mOp fAdd (mOp fSub (mVar 5) (mVar 6)) (mOp fIx (mVar 1) (mVar 6))) mNil)))) [6]) mNil)))))
def g_are_lanes (A : Ad) : List D → Option FO := runF N_are_lanes.length (m_are_lanes A)
theorem ok_are_lanes (T : Txt K mg A) : FnOk P w K mg base (L2.CX P w) 2 A.a_are_lanes A.d_are_lanes ["room", "ends", "lanes"] (spD K 3 (g_are_lanes A)) := by
  have S := sc_are_lanes
  exact fnD T.are_lanes.F sc_are_lanes rfl fun cdv AA outer s H E hr =>
    (xss_cons (xs_setT (xv 0) (xg_tup rfl (xns_cons (i := 3) S.nd rfl (by first | exact Or.inl rfl | exact Or.inr rfl) (xns_cons (i := 4) S.nd rfl (by first | exact Or.inl rfl | exact Or.inr rfl) (xns_cons (i := 5) S.nd rfl (by first | exact Or.inl rfl | exact Or.inr rfl) xns_nil)))))
    (xss_cons (xs_if (xw_pt (xw_or (xt_not (xt_val (x_isi (T := "list") (by decide) (by rfl) T.z_isinstance (by rfl) T.z_list (by decide +kernel) (xv 2)))) (xw_or1 (xtcmp (op_neD hr.units) op2_ne (nomark _) (xcallB call_len ok_len (by rfl) T.z_len PySem.boot_len (xa (xv 2) xa_nil)) (xv 3))))) (xss_one (xs_ret xbl)) xss_nil)
    (xss_one (xs_ret (xcallB (cr_all rfl) ok_all (by rfl) T.z_all (by decide +kernel) (xa (x_lc (own := [("k", 6)]) rfl S.nd (xi_rg1 (by rfl) T.z_range (xa (xv 3) xa_nil)) (blkOk_by (own := [("k", 6)]) (N := N_are_lanes) (sc := defScope s_are_lanes) (by decide +kernel)) (by decide) (fun _ _ _ _ _ => (xg_name (i := 6) S.nd rfl (by first | exact Or.inl rfl | exact Or.inr rfl))) (fun _ _ _ _ _ => xts_nil) (fun _ _ _ _ _ => (xcall (ok_is_lane T) (hr.mono (by decide)) (by rfl) T.is_lane.g T.is_lane.F.kp T.is_lane.b passL (xa (xix (xv 2) (xv 6)) (xa (xsub (xadd (xv 4) (xv 6)) (xix (xv 1) (xv 6))) (xa (xadd (xsub (xv 5) (xv 6)) (xix (xv 1) (xv 6))) xa_nil)))))) xa_nil))))))
/-! check_room -/
def m_check_room (A : Ad) : MS := (mIfS (mNot (mTst (mCall 1 (g_is_room A) (mCons (mVar 0) mNil)))) (fun _ => some (.ex A.c_NoRoom)) mNext)
def g_check_room (A : Ad) : List D → Option FO := runF N_check_room.length (m_check_room A)
theorem ok_check_room (T : Txt K mg A) : FnOk P w K mg base (L2.CX P w) 3 A.a_check_room A.d_check_room ["room"] (spD K 1 (g_check_room A)) := by
  have S := sc_check_room
  exact fnD T.check_room.F sc_check_room rfl fun cdv AA outer s H E hr =>
    (xss_one (xs_if (xt_not (xt_val (xcall (ok_is_room T) (hr.mono (by decide)) (by rfl) T.is_room.g T.is_room.F.kp T.is_room.b passL (xa (xv 0) xa_nil)))) (xss_one (xs_raise rfl T.e_NoRoom (takes_of rfl rfl rfl rfl) (by rfl))) xss_nil))
/-! check_table -/
def m_check_table (A : Ad) : MS := (mSeq (mDropC (mCallO 1 (g_check_room A) (mCons (mVar 0) mNil)))
    (mIfS (mNot (mTst (mCall 2 (g_is_table A) (mCons (mVar 0) (mCons (mVar 1) mNil))))) (fun _ => some (.ex A.c_NoTable)) mNext))
def g_check_table (A : Ad) : List D → Option FO := runF N_check_table.length (m_check_table A)
theorem ok_check_table (T : Txt K mg A) : FnOk P w K mg base (L2.CX P w) 4 A.a_check_table A.d_check_table ["room", "table"] (spD K 2 (g_check_table A)) := by
  have S := sc_check_table
  exact fnD T.check_table.F sc_check_table rfl fun cdv AA outer s H E hr =>
    (xss_cons (xs_dropC (xc_call (ok_check_room T) (hr.mono (by decide)) (by rfl) T.check_room.g T.check_room.F.kp T.check_room.b (takes_of rfl rfl rfl rfl) (xa (xv 0) xa_nil)))
    (xss_one (xs_if (xt_not (xt_val (xcall (ok_is_table T) (hr.mono (by decide)) (by rfl) T.is_table.g T.is_table.F.kp T.is_table.b passL (xa (xv 0) (xa (xv 1) xa_nil))))) (xss_one (xs_raise rfl T.e_NoTable (takes_of rfl rfl rfl rfl) (by rfl))) xss_nil)))
/-! lane_of -/
def m_lane_of (A : Ad) : MS := (mSeq (mSet 2 (mC (.str (PySem.Str.ofString ""))))
    (mSeq (mSet 3 (mVar 1))
    (mKill [1, 4] (mSeq (mFor (mIL (mVar 0)) (mgName 4) (mSeq (mSet 2 (mOp fAdd (mOp fAdd (mVar 2) (mOp fMul (mC (.str (PySem.Str.ofString "d"))) (mOp fSub (mVar 3) (mVar 4)))) (mC (.str (PySem.Str.ofString "r")))))
    (mSet 3 (mVar 4))) [4])
    (mRet (mOp fAdd (mVar 2) (mOp fMul (mC (.str (PySem.Str.ofString "d"))) (mVar 3))))))))
def g_lane_of (A : Ad) : List D → Option FO := runF N_lane_of.length (m_lane_of A)
theorem ok_lane_of (T : Txt K mg A) : FnOk P w K mg base (L2.CX P w) 1 A.a_lane_of A.d_lane_of ["row", "height"] (spD K 2 (g_lane_of A)) := by
  have S := sc_lane_of
  exact fnD T.lane_of.F sc_lane_of rfl fun cdv AA outer s H E hr =>
    (xss_cons (xs_set (i := 2) S.nd rfl (by first | exact Or.inl rfl | exact Or.inr rfl) xstr)
    (xss_cons (xs_set (i := 3) S.nd rfl (by first | exact Or.inl rfl | exact Or.inr rfl) (xv 1))
    (xss_kill [1, 4] (xss_cons (xs_for [4] (passes_of rfl) rfl (xi_l (xv 0)) (xg_name (i := 4) S.nd rfl (by first | exact Or.inl rfl | exact Or.inr rfl)) (xss_cons (xs_set (i := 2) S.nd rfl (by first | exact Or.inl rfl | exact Or.inr rfl) (xadd (xadd (xv 2) (xmul xstr (xsub (xv 3) (xv 4)))) xstr))
    (xss_one (xs_set (i := 3) S.nd rfl (by first | exact Or.inl rfl | exact Or.inr rfl) (xv 4)))))
    (xss_one (xs_ret (xadd (xv 2) (xmul xstr (xv 3)))))))))
/-! lanes_of -/
def m_lanes_of (A : Ad) : MS := (mSeq (mDropC (mCallO 2 (g_check_table A) (mCons (mVar 0) (mCons (mVar 1) mNil))))
    (mRet (mLc (mIL (mVar 1)) (mgName 2) mYes (mCall 2 (g_lane_of A) (mCons (mVar 2) (mCons (mOp fIx (mVar 0) (mC (.int 2))) mNil))) [2])))
def g_lanes_of (A : Ad) : List D → Option FO := runF N_lanes_of.length (m_lanes_of A)
theorem ok_lanes_of (T : Txt K mg A) : FnOk P w K mg base (L2.CX P w) 5 A.a_lanes_of A.d_lanes_of ["room", "table"] (spD K 2 (g_lanes_of A)) := by
  have S := sc_lanes_of
  exact fnD T.lanes_of.F sc_lanes_of rfl fun cdv AA outer s H E hr =>
    (xss_cons (xs_dropC (xc_call (ok_check_table T) (hr.mono (by decide)) (by rfl) T.check_table.g T.check_table.F.kp T.check_table.b (takes_of rfl rfl rfl rfl) (xa (xv 0) (xa (xv 1) xa_nil))))
    (xss_one (xs_ret (x_lc (own := [("row", 2)]) rfl S.nd (xi_l (xv 1)) (blkOk_by (own := [("row", 2)]) (N := N_lanes_of) (sc := defScope s_lanes_of) (by decide +kernel)) (by decide) (fun _ _ _ _ _ => (xg_name (i := 2) S.nd rfl (by first | exact Or.inl rfl | exact Or.inr rfl))) (fun _ _ _ _ _ => xts_nil) (fun _ _ _ _ _ => (xcall (ok_lane_of T) (hr.mono (by decide)) (by rfl) T.lane_of.g T.lane_of.F.kp T.lane_of.b passL (xa (xv 2) (xa (xix (xv 0) xint) xa_nil))))))))
/-! row_of -/
def m_row_of (A : Ad) : MS := (mSeq (mSet 2 (mLst mNil))
    (mSeq (mSet 3 (mVar 1))
    (mKill [1, 4] (mSeq (mFor (mIL (mVar 0)) (mgName 4) (mIfS (mTst (mOp fEq (mVar 4) (mC (.str (PySem.Str.ofString "r"))))) (mAppend (mpV 2) (mVar 3)) (mAug 3 (fun a b => a - b) (mC (.int 1)))) [4])
    (mRetV 2)))))
def g_row_of (A : Ad) : List D → Option FO := runF N_row_of.length (m_row_of A)
theorem ok_row_of (T : Txt K mg A) : FnOk P w K mg base (L2.CX P w) 1 A.a_row_of A.d_row_of ["lane", "height"] (spD K 2 (g_row_of A)) := by
  have S := sc_row_of
  exact fnD T.row_of.F sc_row_of rfl fun cdv AA outer s H E hr =>
    (xss_cons (xs_set (i := 2) S.nd rfl (by first | exact Or.inl rfl | exact Or.inr rfl) (x_lst xa_nil))
    (xss_cons (xs_set (i := 3) S.nd rfl (by first | exact Or.inl rfl | exact Or.inr rfl) (xv 1))
    (xss_kill [1, 4] (xss_cons (xs_for [4] (passes_of rfl) rfl (xi_l (xv 0)) (xg_name (i := 4) S.nd rfl (by first | exact Or.inl rfl | exact Or.inr rfl)) (xss_one (xs_if (xtcmp (op_eqD hr.units) op2_eq (nomark _) (xv 4) xstr) (xss_one (xs_append (xp_v 2) (xv 3))) (xss_one (xs_augSub (i := 3) S.nd rfl (by first | exact Or.inl rfl | exact Or.inr rfl) xint)))))
    (xss_one (xs_retV 2))))))
/-! table_of -/
def m_table_of (A : Ad) : MS := (mSeq (mDropC (mCallO 1 (g_check_room A) (mCons (mVar 0) mNil)))
    (mSeq (mIfS (mNot (mTst (mCall 3 (g_are_lanes A) (mCons (mVar 0) (mCons (mListRg (mOp fIx (mVar 0) (mC (.int 0)))) (mCons (mVar 1) mNil)))))) (fun _ => some (.ex A.c_NoLanes)) mNext)
    (mSeq (mSet 2 (mLc (mIL (mVar 1)) (mgName 3) mYes (mCall 2 (g_row_of A) (mCons (mVar 3) (mCons (mOp fIx (mVar 0) (mC (.int 2))) mNil))) [3]))
    (mSeq (mIfS (mNot (mTst (mCall 2 (g_is_table A) (mCons (mVar 0) (mCons (mVar 2) mNil))))) (fun _ => some (.ex A.c_NoLanes)) mNext)
    (mRetV 2)))))
def g_table_of (A : Ad) : List D → Option FO := runF N_table_of.length (m_table_of A)
theorem ok_table_of (T : Txt K mg A) : FnOk P w K mg base (L2.CX P w) 4 A.a_table_of A.d_table_of ["room", "lanes"] (spD K 2 (g_table_of A)) := by
  have S := sc_table_of
  exact fnD T.table_of.F sc_table_of rfl fun cdv AA outer s H E hr =>
    (xss_cons (xs_dropC (xc_call (ok_check_room T) (hr.mono (by decide)) (by rfl) T.check_room.g T.check_room.F.kp T.check_room.b (takes_of rfl rfl rfl rfl) (xa (xv 0) xa_nil)))
    (xss_cons (xs_if (xt_not (xt_val (xcall (ok_are_lanes T) (hr.mono (by decide)) (by rfl) T.are_lanes.g T.are_lanes.F.kp T.are_lanes.b passL (xa (xv 0) (xa (x_listRg rfl (by rfl) T.z_list (by rfl) T.z_range (xix (xv 0) xint)) (xa (xv 1) xa_nil)))))) (xss_one (xs_raise rfl T.e_NoLanes (takes_of rfl rfl rfl rfl) (by rfl))) xss_nil)
    (xss_cons (xs_setLc (i := 2) (own := [("lane", 3)]) rfl S.nd rfl rfl (sw_true rfl rfl rfl (by decide +kernel)) (xi_l (xv 1)) (blkOk_by (own := [("lane", 3)]) (N := N_table_of) (sc := defScope s_table_of) (by decide +kernel)) (by decide) (fun _ _ _ _ _ => (xg_name (i := 3) S.nd rfl (by first | exact Or.inl rfl | exact Or.inr rfl))) (fun _ _ _ _ _ => xts_nil) (fun _ _ _ _ _ => (xcall (ok_row_of T) (hr.mono (by decide)) (by rfl) T.row_of.g T.row_of.F.kp T.row_of.b passL (xa (xv 3) (xa (xix (xv 0) xint) xa_nil)))))
    (xss_cons (xs_if (xt_not (xt_val (xcall (ok_is_table T) (hr.mono (by decide)) (by rfl) T.is_table.g T.is_table.F.kp T.is_table.b passL (xa (xv 0) (xa (xv 2) xa_nil))))) (xss_one (xs_raise rfl T.e_NoLanes (takes_of rfl rfl rfl rfl) (by rfl))) xss_nil)
    (xss_one (xs_retV 2))))))
/-! above -/
def m_above (A : Ad) : MS := (mRet (mCB gLen (mCons (mLc (mILT (mVar 0)) (mgName 2) (mTst (mOp fGt (mVar 2) (mVar 1))) (mVar 2) [2]) mNil)))
def g_above (A : Ad) : List D → Option FO := runF N_above.length (m_above A)
theorem ok_above (T : Txt K mg A) : FnOk P w K mg base (L2.CX P w) 1 A.a_above A.d_above ["numbers", "level"] (spD K 2 (g_above A)) := by
  have S := sc_above
  exact fnD T.above.F sc_above rfl fun cdv AA outer s H E hr =>
    (xss_one (xs_ret (xcallB call_len ok_len (by rfl) T.z_len PySem.boot_len (xa (x_lc (own := [("number", 2)]) rfl S.nd (xi_lt (xv 0)) (blkOk_by (own := [("number", 2)]) (N := N_above) (sc := defScope s_above) (by decide +kernel)) (by decide) (fun _ _ _ _ _ => (xg_name (i := 2) S.nd rfl (by first | exact Or.inl rfl | exact Or.inr rfl))) (fun _ _ _ _ _ => (xts_one (xtcmp op_gt op2_gt (nomark _) (xv 2) (xv 1)))) (fun _ _ _ _ _ => (xv 2))) xa_nil))))
/-! floor_of -/
def m_floor_of (A : Ad) : MS := (mSeq (mDropC (mCallO 2 (g_check_table A) (mCons (mVar 0) (mCons (mVar 1) mNil))))
    (mSeq (mSet 2 (mOp fIx (mVar 0) (mC (.int 2))))
    (mSeq (mSet 3 (mLc2 (mEnum (mCons (mVar 1) mNil)) (mgTup [6, 7]) mYes (mEnum (mCons (mVar 7) mNil)) (mgTup [8, 9]) mYes (mTup (mCons (mC (.str (PySem.Str.ofString "top"))) (mCons (mOp fSub (mVar 6) (mVar 9)) (mCons (mOp fSub (mVar 8) (mVar 9)) mNil)))) [6, 7, 8, 9] [8, 9]))
    (mSeq (mSet 4 (mLc2 (mEnumZip (mVar 1)) (mgTup [8, 10]) mYes (mRg1 (mCons (mVar 2) mNil)) (mgName 11) mYes (mTup (mCons (mC (.str (PySem.Str.ofString "front"))) (mCons (mOp fSub (mCall 2 (g_above A) (mCons (mVar 10) (mCons (mVar 11) mNil))) (mVar 11)) (mCons (mOp fSub (mVar 8) (mVar 11)) mNil)))) [8, 10, 11] [11]))
    (mSeq (mSet 5 (mLc2 (mEnum (mCons (mVar 1) mNil)) (mgTup [6, 7]) mYes (mRg1 (mCons (mVar 2) mNil)) (mgName 11) mYes (mTup (mCons (mC (.str (PySem.Str.ofString "side"))) (mCons (mOp fSub (mVar 6) (mVar 11)) (mCons (mOp fSub (mCall 2 (g_above A) (mCons (mVar 7) (mCons (mVar 11) mNil))) (mVar 11)) mNil)))) [6, 7, 11] [11]))
    (mRet (mCB gSort (mCons (mOp fAdd (mOp fAdd (mVar 3) (mVar 4)) (mVar 5)) mNil))))))))
def g_floor_of (A : Ad) : List D → Option FO := runF N_floor_of.length (m_floor_of A)
theorem ok_floor_of (T : Txt K mg A) : FnOk P w K mg base (L2.CX P w) 5 A.a_floor_of A.d_floor_of ["room", "table"] (spD K 2 (g_floor_of A)) := by
  have S := sc_floor_of
  exact fnD T.floor_of.F sc_floor_of rfl fun cdv AA outer s H E hr =>
    (xss_cons (xs_dropC (xc_call (ok_check_table T) (hr.mono (by decide)) (by rfl) T.check_table.g T.check_table.F.kp T.check_table.b (takes_of rfl rfl rfl rfl) (xa (xv 0) (xa (xv 1) xa_nil))))
    (xss_cons (xs_set (i := 2) S.nd rfl (by first | exact Or.inl rfl | exact Or.inr rfl) (xix (xv 0) xint))
    (xss_cons (xs_setLc2 (i := 3) (own := [("i", 6), ("row", 7), ("j", 8), ("number", 9)]) (vs1 := [8, 9]) rfl S.nd rfl rfl (sw_true rfl rfl rfl (by decide +kernel)) (xi_enum (by rfl) T.z_enumerate (xa (xv 1) xa_nil)) (blkOk_by (own := [("i", 6), ("row", 7), ("j", 8), ("number", 9)]) (N := N_floor_of) (sc := defScope s_floor_of) (by decide +kernel)) (by decide) (by decide) (by decide) (fun _ _ _ _ _ => (xg_tup rfl (xns_cons (i := 6) S.nd rfl (by first | exact Or.inl rfl | exact Or.inr rfl) (xns_cons (i := 7) S.nd rfl (by first | exact Or.inl rfl | exact Or.inr rfl) xns_nil)))) (fun _ _ _ _ _ => xts_nil) (fun _ _ _ _ _ => (xi_enum (by rfl) T.z_enumerate (xa (xv 7) xa_nil))) (fun _ _ _ _ _ => (xg_tup rfl (xns_cons (i := 8) S.nd rfl (by first | exact Or.inl rfl | exact Or.inr rfl) (xns_cons (i := 9) S.nd rfl (by first | exact Or.inl rfl | exact Or.inr rfl) xns_nil)))) (fun _ _ _ _ _ => xts_nil) (fun _ _ _ _ _ => (x_tup (xa xstr (xa (xsub (xv 6) (xv 9)) (xa (xsub (xv 8) (xv 9)) xa_nil))))))
    (xss_cons (xs_setLc2 (i := 4) (own := [("j", 8), ("column", 10), ("h", 11)]) (vs1 := [11]) rfl S.nd rfl rfl (sw_true rfl rfl rfl (by decide +kernel)) (xi_enumZip (by rfl) T.z_enumerate (by rfl) T.z_zip (xv 1)) (blkOk_by (own := [("j", 8), ("column", 10), ("h", 11)]) (N := N_floor_of) (sc := defScope s_floor_of) (by decide +kernel)) (by decide) (by decide) (by decide) (fun _ _ _ _ _ => (xg_tup rfl (xns_cons (i := 8) S.nd rfl (by first | exact Or.inl rfl | exact Or.inr rfl) (xns_cons (i := 10) S.nd rfl (by first | exact Or.inl rfl | exact Or.inr rfl) xns_nil)))) (fun _ _ _ _ _ => xts_nil) (fun _ _ _ _ _ => (xi_rg1 (by rfl) T.z_range (xa (xv 2) xa_nil))) (fun _ _ _ _ _ => (xg_name (i := 11) S.nd rfl (by first | exact Or.inl rfl | exact Or.inr rfl))) (fun _ _ _ _ _ => xts_nil) (fun _ _ _ _ _ => (x_tup (xa xstr (xa (xsub (xcall (ok_above T) (hr.mono (by decide)) (by rfl) T.above.g T.above.F.kp T.above.b passL (xa (xv 10) (xa (xv 11) xa_nil))) (xv 11)) (xa (xsub (xv 8) (xv 11)) xa_nil))))))
    (xss_cons (xs_setLc2 (i := 5) (own := [("i", 6), ("row", 7), ("h", 11)]) (vs1 := [11]) rfl S.nd rfl rfl (sw_true rfl rfl rfl (by decide +kernel)) (xi_enum (by rfl) T.z_enumerate (xa (xv 1) xa_nil)) (blkOk_by (own := [("i", 6), ("row", 7), ("h", 11)]) (N := N_floor_of) (sc := defScope s_floor_of) (by decide +kernel)) (by decide) (by decide) (by decide) (fun _ _ _ _ _ => (xg_tup rfl (xns_cons (i := 6) S.nd rfl (by first | exact Or.inl rfl | exact Or.inr rfl) (xns_cons (i := 7) S.nd rfl (by first | exact Or.inl rfl | exact Or.inr rfl) xns_nil)))) (fun _ _ _ _ _ => xts_nil) (fun _ _ _ _ _ => (xi_rg1 (by rfl) T.z_range (xa (xv 2) xa_nil))) (fun _ _ _ _ _ => (xg_name (i := 11) S.nd rfl (by first | exact Or.inl rfl | exact Or.inr rfl))) (fun _ _ _ _ _ => xts_nil) (fun _ _ _ _ _ => (x_tup (xa xstr (xa (xsub (xv 6) (xv 11)) (xa (xsub (xcall (ok_above T) (hr.mono (by decide)) (by rfl) T.above.g T.above.F.kp T.above.b passL (xa (xv 7) (xa (xv 11) xa_nil))) (xv 11)) xa_nil))))))
    (xss_one (xs_ret (xcallB cr_sort ok_sort (by rfl) T.z_sorted (by decide +kernel) (xa (xadd (xadd (xv 3) (xv 4)) (xv 5)) xa_nil)))))))))
/-! covered -/
def m_covered (A : Ad) : MS := (mSeq (mSetT (mgTup [1, 2, 3]) (mVar 0))
    (mSeq (mIfS (mTst (mOp fEq (mVar 1) (mC (.str (PySem.Str.ofString "top"))))) (mRet (mTup (mCons (mTup (mCons (mC (.str (PySem.Str.ofString "low"))) (mCons (mVar 2) (mCons (mVar 3) mNil)))) (mCons (mTup (mCons (mC (.str (PySem.Str.ofString "up"))) (mCons (mVar 2) (mCons (mVar 3) mNil)))) mNil)))) mNext)
    (mSeq (mIfS (mTst (mOp fEq (mVar 1) (mC (.str (PySem.Str.ofString "front"))))) (mRet (mTup (mCons (mTup (mCons (mC (.str (PySem.Str.ofString "low"))) (mCons (mOp fSub (mVar 2) (mC (.int 1))) (mCons (mOp fSub (mVar 3) (mC (.int 1))) mNil)))) (mCons (mTup (mCons (mC (.str (PySem.Str.ofString "up"))) (mCons (mOp fSub (mVar 2) (mC (.int 1))) (mCons (mVar 3) mNil)))) mNil)))) mNext)
    (mRet (mTup (mCons (mTup (mCons (mC (.str (PySem.Str.ofString "low"))) (mCons (mVar 2) (mCons (mOp fSub (mVar 3) (mC (.int 1))) mNil)))) (mCons (mTup (mCons (mC (.str (PySem.Str.ofString "up"))) (mCons (mOp fSub (mVar 2) (mC (.int 1))) (mCons (mOp fSub (mVar 3) (mC (.int 1))) mNil)))) mNil)))))))
def g_covered (A : Ad) : List D → Option FO := runF N_covered.length (m_covered A)
theorem ok_covered (T : Txt K mg A) : FnOk P w K mg base (L2.CX P w) 1 A.a_covered A.d_covered ["tile"] (spD K 1 (g_covered A)) := by
  have S := sc_covered
  exact fnD T.covered.F sc_covered rfl fun cdv AA outer s H E hr =>
    (xss_cons (xs_setT (xv 0) (xg_tup rfl (xns_cons (i := 1) S.nd rfl (by first | exact Or.inl rfl | exact Or.inr rfl) (xns_cons (i := 2) S.nd rfl (by first | exact Or.inl rfl | exact Or.inr rfl) (xns_cons (i := 3) S.nd rfl (by first | exact Or.inl rfl | exact Or.inr rfl) xns_nil)))))
    (xss_cons (xs_if (xtcmp (op_eqD hr.units) op2_eq (nomark _) (xv 1) xstr) (xss_one (xs_ret (x_tup (xa (x_tup (xa xstr (xa (xv 2) (xa (xv 3) xa_nil)))) (xa (x_tup (xa xstr (xa (xv 2) (xa (xv 3) xa_nil)))) xa_nil))))) xss_nil)
    (xss_cons (xs_if (xtcmp (op_eqD hr.units) op2_eq (nomark _) (xv 1) xstr) (xss_one (xs_ret (x_tup (xa (x_tup (xa xstr (xa (xsub (xv 2) xint) (xa (xsub (xv 3) xint) xa_nil)))) (xa (x_tup (xa xstr (xa (xsub (xv 2) xint) (xa (xv 3) xa_nil)))) xa_nil))))) xss_nil)
    (xss_one (xs_ret (x_tup (xa (x_tup (xa xstr (xa (xv 2) (xa (xsub (xv 3) xint) xa_nil)))) (xa (x_tup (xa xstr (xa (xsub (xv 2) xint) (xa (xsub (xv 3) xint) xa_nil)))) xa_nil))))))))
/-! all_covered -/
def m_all_covered (A : Ad) : MS := (mRet (mCB gSort (mCons (mLc2 (mIL (mVar 0)) (mgName 1) mYes (mILT (mCall 1 (g_covered A) (mCons (mVar 1) mNil))) (mgName 2) mYes (mVar 2) [1, 2] [2]) mNil)))
def g_all_covered (A : Ad) : List D → Option FO := runF N_all_covered.length (m_all_covered A)
theorem ok_all_covered (T : Txt K mg A) : FnOk P w K mg base (L2.CX P w) 2 A.a_all_covered A.d_all_covered ["tiles"] (spD K 1 (g_all_covered A)) := by
  have S := sc_all_covered
  exact fnD T.all_covered.F sc_all_covered rfl fun cdv AA outer s H E hr =>
    (xss_one (xs_ret (xcallB cr_sort ok_sort (by rfl) T.z_sorted (by decide +kernel) (xa (x_lc2 (own := [("tile", 1), ("triangle", 2)]) (vs1 := [2]) rfl S.nd (xi_l (xv 0)) (blkOk_by (own := [("tile", 1), ("triangle", 2)]) (N := N_all_covered) (sc := defScope s_all_covered) (by decide +kernel)) (by decide) (by decide) (by decide) (fun _ _ _ _ _ => (xg_name (i := 1) S.nd rfl (by first | exact Or.inl rfl | exact Or.inr rfl))) (fun _ _ _ _ _ => xts_nil) (fun _ _ _ _ _ => (xi_lt (xcall (ok_covered T) (hr.mono (by decide)) (by rfl) T.covered.g T.covered.F.kp T.covered.b passL (xa (xv 1) xa_nil)))) (fun _ _ _ _ _ => (xg_name (i := 2) S.nd rfl (by first | exact Or.inl rfl | exact Or.inr rfl))) (fun _ _ _ _ _ => xts_nil) (fun _ _ _ _ _ => (xv 2))) xa_nil))))
/-! ground -/
def m_ground (A : Ad) : MS := (mSeq (mDropC (mCallO 1 (g_check_room A) (mCons (mVar 0) mNil)))
    (mSeq (mSet 1 (mLc (mRg1 (mCons (mOp fIx (mVar 0) (mC (.int 0))) mNil)) (mgName 2) mYes (mOp fMul (mLst (mCons (mC (.int 0)) mNil)) (mOp fIx (mVar 0) (mC (.int 1)))) [2]))
    (mRet (mCall 1 (g_all_covered A) (mCons (mCall 2 (g_floor_of A) (mCons (mVar 0) (mCons (mVar 1) mNil))) mNil)))))
def g_ground (A : Ad) : List D → Option FO := runF N_ground.length (m_ground A)
theorem ok_ground (T : Txt K mg A) : FnOk P w K mg base (L2.CX P w) 6 A.a_ground A.d_ground ["room"] (spD K 1 (g_ground A)) := by
  have S := sc_ground
  exact fnD T.ground.F sc_ground rfl fun cdv AA outer s H E hr =>
    (xss_cons (xs_dropC (xc_call (ok_check_room T) (hr.mono (by decide)) (by rfl) T.check_room.g T.check_room.F.kp T.check_room.b (takes_of rfl rfl rfl rfl) (xa (xv 0) xa_nil)))
    (xss_cons (xs_setLc (i := 1) (own := [("_", 2)]) rfl S.nd rfl rfl (sw_true rfl rfl rfl (by decide +kernel)) (xi_rg1 (by rfl) T.z_range (xa (xix (xv 0) xint) xa_nil)) (blkOk_by (own := [("_", 2)]) (N := N_ground) (sc := defScope s_ground) (by decide +kernel)) (by decide) (fun _ _ _ _ _ => (xg_name (i := 2) S.nd rfl (by first | exact Or.inl rfl | exact Or.inr rfl))) (fun _ _ _ _ _ => xts_nil) (fun _ _ _ _ _ => (xmul (x_lst (xa xint xa_nil)) (xix (xv 0) xint))))
    (xss_one (xs_ret (xcall (ok_all_covered T) (hr.mono (by decide)) (by rfl) T.all_covered.g T.all_covered.F.kp T.all_covered.b passL (xa (xcall (ok_floor_of T) (hr.mono (by decide)) (by rfl) T.floor_of.g T.floor_of.F.kp T.floor_of.b passL (xa (xv 0) (xa (xv 1) xa_nil))) xa_nil))))))
/-! is_tile -/
def m_is_tile (A : Ad) : MS := (mSeq (mIfS (mOr (mNot (mTst (mIsi "tuple" (mVar 0)))) (mTst (mOp fNe (mCB gLen (mCons (mVar 0) mNil)) (mC (.int 3))))) (mRet (mC (.bl false))) mNext)
    (mRet (mAndV (mInK ["top", "front", "side"] (mOp fIx (mVar 0) (mC (.int 0)))) (mAndV (mCall 1 (g_is_whole A) (mCons (mOp fIx (mVar 0) (mC (.int 1))) mNil)) (mCall 1 (g_is_whole A) (mCons (mOp fIx (mVar 0) (mC (.int 2))) mNil))))))
def g_is_tile (A : Ad) : List D → Option FO := runF N_is_tile.length (m_is_tile A)
theorem ok_is_tile (T : Txt K mg A) : FnOk P w K mg base (L2.CX P w) 2 A.a_is_tile A.d_is_tile ["tile"] (spD K 1 (g_is_tile A)) := by
  have S := sc_is_tile
  exact fnD T.is_tile.F sc_is_tile rfl fun cdv AA outer s H E hr =>
    (xss_cons (xs_if (xw_pt (xw_or (xt_not (xt_val (x_isi (T := "tuple") (by decide) (by rfl) T.z_isinstance (by rfl) T.z_tuple (by decide +kernel) (xv 0)))) (xw_or1 (xtcmp (op_neD hr.units) op2_ne (nomark _) (xcallB call_len ok_len (by rfl) T.z_len PySem.boot_len (xa (xv 0) xa_nil)) xint)))) (xss_one (xs_ret xbl)) xss_nil)
    (xss_one (xs_ret (x_and (x_inK (by rfl) T.g_KINDS T.s_KINDS (xix (xv 0) xint)) (x_and (xcall (ok_is_whole T) (hr.mono (by decide)) (by rfl) T.is_whole.g T.is_whole.F.kp T.is_whole.b passL (xa (xix (xv 0) xint) xa_nil)) (x_one (xcall (ok_is_whole T) (hr.mono (by decide)) (by rfl) T.is_whole.g T.is_whole.F.kp T.is_whole.b passL (xa (xix (xv 0) xint) xa_nil))))))))
/-! is_floor -/
def m_is_floor (A : Ad) : MS := (mSeq (mIfS (mOr (mNot (mTst (mIsi "list" (mVar 1)))) (mNot (mTst (mCB gAll (mCons (mLc (mIL (mVar 1)) (mgName 2) mYes (mCall 1 (g_is_tile A) (mCons (mVar 2) mNil)) [2]) mNil))))) (mRet (mC (.bl false))) mNext)
    (mRet (mOp fEq (mCall 1 (g_all_covered A) (mCons (mVar 1) mNil)) (mCall 1 (g_ground A) (mCons (mVar 0) mNil)))))
def g_is_floor (A : Ad) : List D → Option FO := runF N_is_floor.length (m_is_floor A)
theorem ok_is_floor (T : Txt K mg A) : FnOk P w K mg base (L2.CX P w) 7 A.a_is_floor A.d_is_floor ["room", "tiles"] (spD K 2 (g_is_floor A)) := by
  have S := sc_is_floor
  exact fnD T.is_floor.F sc_is_floor rfl fun cdv AA outer s H E hr =>
    (xss_cons (xs_if (xw_pt (xw_or (xt_not (xt_val (x_isi (T := "list") (by decide) (by rfl) T.z_isinstance (by rfl) T.z_list (by decide +kernel) (xv 1)))) (xw_or1 (xt_not (xt_val (xcallB (cr_all rfl) ok_all (by rfl) T.z_all (by decide +kernel) (xa (x_lc (own := [("tile", 2)]) rfl S.nd (xi_l (xv 1)) (blkOk_by (own := [("tile", 2)]) (N := N_is_floor) (sc := defScope s_is_floor) (by decide +kernel)) (by decide) (fun _ _ _ _ _ => (xg_name (i := 2) S.nd rfl (by first | exact Or.inl rfl | exact Or.inr rfl))) (fun _ _ _ _ _ => xts_nil) (fun _ _ _ _ _ => (xcall (ok_is_tile T) (hr.mono (by decide)) (by rfl) T.is_tile.g T.is_tile.F.kp T.is_tile.b passL (xa (xv 2) xa_nil)))) xa_nil))))))) (xss_one (xs_ret xbl)) xss_nil)
    (xss_one (xs_ret (xcmp (op_eqD hr.units) op2_eq (nomark _) (xcall (ok_all_covered T) (hr.mono (by decide)) (by rfl) T.all_covered.g T.all_covered.F.kp T.all_covered.b passL (xa (xv 1) xa_nil)) (xcall (ok_ground T) (hr.mono (by decide)) (by rfl) T.ground.g T.ground.F.kp T.ground.b passL (xa (xv 0) xa_nil))))))
/-! tops_apart -/
def m_tops_apart (A : Ad) : MS := (mRet (mCB gSort (mCons (mLc (mIL (mVar 0)) (mgTup [2, 3, 4]) (mAnd (mTst (mOp fEq (mVar 2) (mC (.str (PySem.Str.ofString "top"))))) (mTst (mOp fEq (mOp fSub (mVar 3) (mVar 4)) (mVar 1)))) (mVar 3) [2, 3, 4]) mNil)))
def g_tops_apart (A : Ad) : List D → Option FO := runF N_tops_apart.length (m_tops_apart A)
theorem ok_tops_apart (T : Txt K mg A) : FnOk P w K mg base (L2.CX P w) 1 A.a_tops_apart A.d_tops_apart ["tiles", "apart"] (spD K 2 (g_tops_apart A)) := by
  have S := sc_tops_apart
  exact fnD T.tops_apart.F sc_tops_apart rfl fun cdv AA outer s H E hr =>
    (xss_one (xs_ret (xcallB cr_sort ok_sort (by rfl) T.z_sorted (by decide +kernel) (xa (x_lc (own := [("kind", 2), ("u", 3), ("v", 4)]) rfl S.nd (xi_l (xv 0)) (blkOk_by (own := [("kind", 2), ("u", 3), ("v", 4)]) (N := N_tops_apart) (sc := defScope s_tops_apart) (by decide +kernel)) (by decide) (fun _ _ _ _ _ => (xg_tup rfl (xns_cons (i := 2) S.nd rfl (by first | exact Or.inl rfl | exact Or.inr rfl) (xns_cons (i := 3) S.nd rfl (by first | exact Or.inl rfl | exact Or.inr rfl) (xns_cons (i := 4) S.nd rfl (by first | exact Or.inl rfl | exact Or.inr rfl) xns_nil))))) (fun _ _ _ _ _ => (xts_one (xw_pt (xw_and (xtcmp (op_eqD hr.units) op2_eq (nomark _) (xv 2) xstr) (xw_and1 (xtcmp (op_eqD hr.units) op2_eq (nomark _) (xsub (xv 3) (xv 4)) (xv 1))))))) (fun _ _ _ _ _ => (xv 3))) xa_nil))))
/-! places_apart -/
def m_places_apart (A : Ad) : MS := (mRet (mLc (mRg1 (mCons (mOp fIx (mVar 0) (mC (.int 0))) mNil)) (mgName 2) (mTst (mCh (fun i j => decide (i ≤ j)) (fun i j => decide (i < j)) (mC (.int 0)) (mOp fSub (mVar 2) (mVar 1)) (mOp fIx (mVar 0) (mC (.int 1))))) (mTup (mCons (mVar 2) (mCons (mOp fSub (mVar 2) (mVar 1)) mNil))) [2]))
def g_places_apart (A : Ad) : List D → Option FO := runF N_places_apart.length (m_places_apart A)
theorem ok_places_apart (T : Txt K mg A) : FnOk P w K mg base (L2.CX P w) 1 A.a_places_apart A.d_places_apart ["room", "apart"] (spD K 2 (g_places_apart A)) := by
  have S := sc_places_apart
  exact fnD T.places_apart.F sc_places_apart rfl fun cdv AA outer s H E hr =>
    (xss_one (xs_ret (x_lc (own := [("i", 2)]) rfl S.nd (xi_rg1 (by rfl) T.z_range (xa (xix (xv 0) xint) xa_nil)) (blkOk_by (own := [("i", 2)]) (N := N_places_apart) (sc := defScope s_places_apart) (by decide +kernel)) (by decide) (fun _ _ _ _ _ => (xg_name (i := 2) S.nd rfl (by first | exact Or.inl rfl | exact Or.inr rfl))) (fun _ _ _ _ _ => (xts_one (xt_chain op_le op_lt xint (xsub (xv 2) (xv 1)) (xix (xv 0) xint)))) (fun _ _ _ _ _ => (x_tup (xa (xv 2) (xa (xsub (xv 2) (xv 1)) xa_nil)))))))
/-! heap_of -/
def m_heap_of (A : Ad) : MS := (mSeq (mDropC (mCallO 1 (g_check_room A) (mCons (mVar 0) mNil)))
    (mSeq (mIfS (mNot (mTst (mCall 2 (g_is_floor A) (mCons (mVar 0) (mCons (mVar 1) mNil))))) (fun _ => some (.ex A.c_NoFloor)) mNext)
    (mSeq (mSetT (mgTup [2, 3]) (mTup (mCons (mOp fIx (mVar 0) (mC (.int 0))) (mCons (mOp fIx (mVar 0) (mC (.int 1))) mNil))))
    (mSeq (mSetM 4 (.t []))
    (mKill [5, 6, 7] (mSeq (mFor (mRg2 (mCons (mOp fSub (mC (.int 1)) (mVar 3)) (mCons (mVar 2) mNil))) (mgName 5) (mKill [6, 7] (mFor (mZip (mCons (mCall 2 (g_places_apart A) (mCons (mVar 0) (mCons (mVar 5) mNil))) (mCons (mCall 2 (g_tops_apart A) (mCons (mVar 1) (mCons (mVar 5) mNil))) mNil))) (mgTup [6, 7]) (mDPut 4 (mVar 6) (mOp fSub (mOp fIx (mVar 6) (mC (.int 0))) (mVar 7))) [6, 7])) [5, 6, 7])
    (mRet (mLc (mRg1 (mCons (mVar 2) mNil)) (mgName 8) mYes (mLc (mRg1 (mCons (mVar 3) mNil)) (mgName 9) mYes (mDGet 4 (mTup (mCons (mVar 8) (mCons (mVar 9) mNil)))) [9]) [8]))))))))
def g_heap_of (A : Ad) : List D → Option FO := runF N_heap_of.length (m_heap_of A)
theorem ok_heap_of (T : Txt K mg A) : FnOk P w K mg base (L2.CX P w) 8 A.a_heap_of A.d_heap_of ["room", "tiles"] (spD K 2 (g_heap_of A)) := by
  have S := sc_heap_of
  exact fnD T.heap_of.F sc_heap_of rfl fun cdv AA outer s H E hr =>
    (xss_cons (xs_dropC (xc_call (ok_check_room T) (hr.mono (by decide)) (by rfl) T.check_room.g T.check_room.F.kp T.check_room.b (takes_of rfl rfl rfl rfl) (xa (xv 0) xa_nil)))
    (xss_cons (xs_if (xt_not (xt_val (xcall (ok_is_floor T) (hr.mono (by decide)) (by rfl) T.is_floor.g T.is_floor.F.kp T.is_floor.b passL (xa (xv 0) (xa (xv 1) xa_nil))))) (xss_one (xs_raise rfl T.e_NoFloor (takes_of rfl rfl rfl rfl) (by rfl))) xss_nil)
    (xss_cons (xs_setT (x_tup (xa (xix (xv 0) xint) (xa (xix (xv 0) xint) xa_nil))) (xg_tup rfl (xns_cons (i := 2) S.nd rfl (by first | exact Or.inl rfl | exact Or.inr rfl) (xns_cons (i := 3) S.nd rfl (by first | exact Or.inl rfl | exact Or.inr rfl) xns_nil))))
    (xss_cons (xs_setDT (i := 4) S.nd rfl (by first | exact Or.inl rfl | exact Or.inr rfl))
    (xss_kill [5, 6, 7] (xss_cons (xs_for [5, 6, 7] (passes_of rfl) rfl (xi_rg2 (by rfl) T.z_range (xa (xsub xint (xv 3)) (xa (xv 2) xa_nil))) (xg_name (i := 5) S.nd rfl (by first | exact Or.inl rfl | exact Or.inr rfl)) (xss_kill [6, 7] (xss_one (xs_for [6, 7] (passes_of rfl) rfl (xi_zip (by rfl) T.z_zip (xa (xcall (ok_places_apart T) (hr.mono (by decide)) (by rfl) T.places_apart.g T.places_apart.F.kp T.places_apart.b passL (xa (xv 0) (xa (xv 5) xa_nil))) (xa (xcall (ok_tops_apart T) (hr.mono (by decide)) (by rfl) T.tops_apart.g T.tops_apart.F.kp T.tops_apart.b passL (xa (xv 1) (xa (xv 5) xa_nil))) xa_nil))) (xg_tup rfl (xns_cons (i := 6) S.nd rfl (by first | exact Or.inl rfl | exact Or.inr rfl) (xns_cons (i := 7) S.nd rfl (by first | exact Or.inl rfl | exact Or.inr rfl) xns_nil))) (xss_one (xs_dput (i := 4) (hu_of hr) (xv 6) (xsub (xix (xv 6) xint) (xv 7))))))))
    (xss_one (xs_ret (x_lc (own := [("i", 8)]) rfl S.nd (xi_rg1 (by rfl) T.z_range (xa (xv 2) xa_nil)) (blkOk_by (own := [("i", 8)]) (N := N_heap_of) (sc := defScope s_heap_of) (by decide +kernel)) (by decide) (fun _ _ _ _ _ => (xg_name (i := 8) S.nd rfl (by first | exact Or.inl rfl | exact Or.inr rfl))) (fun _ _ _ _ _ => xts_nil) (fun _ _ _ _ _ => (x_lc (own := [("j", 9)]) rfl S.nd (xi_rg1 (by rfl) T.z_range (xa (xv 3) xa_nil)) (blkOk_by (own := [("j", 9)]) (N := N_heap_of) (sc := relS _ (defScope s_heap_of)) (by decide +kernel)) (by decide) (fun _ _ _ _ _ => (xg_name (i := 9) S.nd rfl (by first | exact Or.inl rfl | exact Or.inr rfl))) (fun _ _ _ _ _ => xts_nil) (fun _ _ _ _ _ => (x_dget (i := 4) (hu_of hr) (x_tup (xa (xv 8) (xa (xv 9) xa_nil))))))))))))))))
/-! ground_places -/
def m_ground_places (A : Ad) : MS := (mRet (mLc2 (mRg1 (mCons (mOp fIx (mVar 0) (mC (.int 0))) mNil)) (mgName 1) mYes (mRg1 (mCons (mOp fIx (mVar 0) (mC (.int 1))) mNil)) (mgName 2) mYes (mTup (mCons (mVar 1) (mCons (mVar 2) mNil))) [1, 2] [2]))
def g_ground_places (A : Ad) : List D → Option FO := runF N_ground_places.length (m_ground_places A)
theorem ok_ground_places (T : Txt K mg A) : FnOk P w K mg base (L2.CX P w) 1 A.a_ground_places A.d_ground_places ["room"] (spD K 1 (g_ground_places A)) := by
  have S := sc_ground_places
  exact fnD T.ground_places.F sc_ground_places rfl fun cdv AA outer s H E hr =>
    (xss_one (xs_ret (x_lc2 (own := [("row", 1), ("column", 2)]) (vs1 := [2]) rfl S.nd (xi_rg1 (by rfl) T.z_range (xa (xix (xv 0) xint) xa_nil)) (blkOk_by (own := [("row", 1), ("column", 2)]) (N := N_ground_places) (sc := defScope s_ground_places) (by decide +kernel)) (by decide) (by decide) (by decide) (fun _ _ _ _ _ => (xg_name (i := 1) S.nd rfl (by first | exact Or.inl rfl | exact Or.inr rfl))) (fun _ _ _ _ _ => xts_nil) (fun _ _ _ _ _ => (xi_rg1 (by rfl) T.z_range (xa (xix (xv 0) xint) xa_nil))) (fun _ _ _ _ _ => (xg_name (i := 2) S.nd rfl (by first | exact Or.inl rfl | exact Or.inr rfl))) (fun _ _ _ _ _ => xts_nil) (fun _ _ _ _ _ => (x_tup (xa (xv 1) (xa (xv 2) xa_nil)))))))
/-! may_put -/
def m_may_put (A : Ad) : MS := (mSeq (mSetT (mgTup [3, 4]) (mVar 2))
    (mSeq (mSet 5 (mOp fIx (mVar 0) (mC (.int 2))))
    (mSeq (mSet 6 (mIf (mTst (mOp fGt (mVar 4) (mC (.int 0)))) (mOp fIx (mOp fIx (mVar 1) (mVar 3)) (mOp fSub (mVar 4) (mC (.int 1)))) (mVar 5)))
    (mSeq (mSet 7 (mIf (mTst (mOp fGt (mVar 3) (mC (.int 0)))) (mOp fIx (mOp fIx (mVar 1) (mOp fSub (mVar 3) (mC (.int 1)))) (mVar 4)) (mVar 5)))
    (mRet (mOp fLt (mOp fIx (mOp fIx (mVar 1) (mVar 3)) (mVar 4)) (mCB gMin (mCons (mVar 6) (mCons (mVar 7) mNil)))))))))
def g_may_put (A : Ad) : List D → Option FO := runF N_may_put.length (m_may_put A)
theorem ok_may_put (T : Txt K mg A) : FnOk P w K mg base (L2.CX P w) 1 A.a_may_put A.d_may_put ["room", "table", "place"] (spD K 3 (g_may_put A)) := by
  have S := sc_may_put
  exact fnD T.may_put.F sc_may_put rfl fun cdv AA outer s H E hr =>
    (xss_cons (xs_setT (xv 2) (xg_tup rfl (xns_cons (i := 3) S.nd rfl (by first | exact Or.inl rfl | exact Or.inr rfl) (xns_cons (i := 4) S.nd rfl (by first | exact Or.inl rfl | exact Or.inr rfl) xns_nil))))
    (xss_cons (xs_set (i := 5) S.nd rfl (by first | exact Or.inl rfl | exact Or.inr rfl) (xix (xv 0) xint))
    (xss_cons (xs_set (i := 6) S.nd rfl (by first | exact Or.inl rfl | exact Or.inr rfl) (x_if (xtcmp op_gt op2_gt (nomark _) (xv 4) xint) (xix (xix (xv 1) (xv 3)) (xsub (xv 4) xint)) (xv 5)))
    (xss_cons (xs_set (i := 7) S.nd rfl (by first | exact Or.inl rfl | exact Or.inr rfl) (x_if (xtcmp op_gt op2_gt (nomark _) (xv 3) xint) (xix (xix (xv 1) (xsub (xv 3) xint)) (xv 4)) (xv 5)))
    (xss_one (xs_ret (xcmp op_lt op2_lt (nomark _) (xix (xix (xv 1) (xv 3)) (xv 4)) (xcallB (call_min2 rfl) ok_min (by rfl) T.z_min (by decide +kernel) (xa (xv 6) (xa (xv 7) xa_nil))))))))))
/-! puts -/
def m_puts (A : Ad) : MS := (mSeq (mDropC (mCallO 2 (g_check_table A) (mCons (mVar 0) (mCons (mVar 1) mNil))))
    (mRet (mLc (mIL (mCall 1 (g_ground_places A) (mCons (mVar 0) mNil))) (mgName 2) (mTst (mCall 3 (g_may_put A) (mCons (mVar 0) (mCons (mVar 1) (mCons (mVar 2) mNil))))) (mVar 2) [2])))
def g_puts (A : Ad) : List D → Option FO := runF N_puts.length (m_puts A)
theorem ok_puts (T : Txt K mg A) : FnOk P w K mg base (L2.CX P w) 5 A.a_puts A.d_puts ["room", "table"] (spD K 2 (g_puts A)) := by
  have S := sc_puts
  exact fnD T.puts.F sc_puts rfl fun cdv AA outer s H E hr =>
    (xss_cons (xs_dropC (xc_call (ok_check_table T) (hr.mono (by decide)) (by rfl) T.check_table.g T.check_table.F.kp T.check_table.b (takes_of rfl rfl rfl rfl) (xa (xv 0) (xa (xv 1) xa_nil))))
    (xss_one (xs_ret (x_lc (own := [("place", 2)]) rfl S.nd (xi_l (xcall (ok_ground_places T) (hr.mono (by decide)) (by rfl) T.ground_places.g T.ground_places.F.kp T.ground_places.b passL (xa (xv 0) xa_nil))) (blkOk_by (own := [("place", 2)]) (N := N_puts) (sc := defScope s_puts) (by decide +kernel)) (by decide) (fun _ _ _ _ _ => (xg_name (i := 2) S.nd rfl (by first | exact Or.inl rfl | exact Or.inr rfl))) (fun _ _ _ _ _ => (xts_one (xt_val (xcall (ok_may_put T) (hr.mono (by decide)) (by rfl) T.may_put.g T.may_put.F.kp T.may_put.b passL (xa (xv 0) (xa (xv 1) (xa (xv 2) xa_nil))))))) (fun _ _ _ _ _ => (xv 2))))))
/-! climb -/
def m_climb (A : Ad) : MS := (mSeq (mDropC (mCallO 2 (g_check_table A) (mCons (mVar 0) (mCons (mVar 1) mNil))))
    (mSeq (mSet 2 (mCall 1 (g_ground_places A) (mCons (mVar 0) mNil)))
    (mFrz 2 (mRet (mLc2 (mRg1 (mCons (mOp fIx (mVar 0) (mC (.int 2))) mNil)) (mgName 3) mYes (mIL (mVar 2)) (mgTup [4, 5]) (mTst (mOp fGt (mOp fIx (mOp fIx (mVar 1) (mVar 4)) (mVar 5)) (mVar 3))) (mTup (mCons (mVar 4) (mCons (mVar 5) mNil))) [3, 4, 5] [4, 5])))))
def g_climb (A : Ad) : List D → Option FO := runF N_climb.length (m_climb A)
theorem ok_climb (T : Txt K mg A) : FnOk P w K mg base (L2.CX P w) 5 A.a_climb A.d_climb ["room", "table"] (spD K 2 (g_climb A)) := by
  have S := sc_climb
  exact fnD T.climb.F sc_climb rfl fun cdv AA outer s H E hr =>
    (xss_cons (xs_dropC (xc_call (ok_check_table T) (hr.mono (by decide)) (by rfl) T.check_table.g T.check_table.F.kp T.check_table.b (takes_of rfl rfl rfl rfl) (xa (xv 0) (xa (xv 1) xa_nil))))
    (xss_cons (xs_set (i := 2) S.nd rfl (by first | exact Or.inl rfl | exact Or.inr rfl) (xcall (ok_ground_places T) (hr.mono (by decide)) (by rfl) T.ground_places.g T.ground_places.F.kp T.ground_places.b passL (xa (xv 0) xa_nil)))
    (xss_frz 2 (xss_one (xs_ret (x_lc2 (own := [("level", 3), ("row", 4), ("column", 5)]) (vs1 := [4, 5]) rfl S.nd (xi_rg1 (by rfl) T.z_range (xa (xix (xv 0) xint) xa_nil)) (blkOk_by (own := [("level", 3), ("row", 4), ("column", 5)]) (N := N_climb) (sc := defScope s_climb) (by decide +kernel)) (by decide) (by decide) (by decide) (fun _ _ _ _ _ => (xg_name (i := 3) S.nd rfl (by first | exact Or.inl rfl | exact Or.inr rfl))) (fun _ _ _ _ _ => xts_nil) (fun _ _ _ _ _ => (xi_l (xv 2))) (fun _ _ _ _ _ => (xg_tup rfl (xns_cons (i := 4) S.nd rfl (by first | exact Or.inl rfl | exact Or.inr rfl) (xns_cons (i := 5) S.nd rfl (by first | exact Or.inl rfl | exact Or.inr rfl) xns_nil)))) (fun _ _ _ _ _ => (xts_one (xtcmp op_gt op2_gt (nomark _) (xix (xix (xv 1) (xv 4)) (xv 5)) (xv 3)))) (fun _ _ _ _ _ => (x_tup (xa (xv 4) (xa (xv 5) xa_nil))))))))))
/-! after -/
def m_after (A : Ad) : MS := (mSeq (mSetC 2 (mCallO 2 (g_puts A) (mCons (mVar 0) (mCons (mVar 1) mNil))))
    (mSeq (mIfS (mNot (mTru (mVar 2))) (mRet (mC .non)) mNext)
    (mSeq (mSetT (mgTup [3, 4]) (mOp fIx (mVar 2) (mNeg (mC (.int 1)))))
    (mSeq (mSet 5 (mOp fIx (mVar 0) (mC (.int 1))))
    (mSeq (mSet 6 (mLc (mIL (mSl (mVar 1) mNoPart (mPart (mVar 3)))) (mgName 9) mYes (mCB gList (mCons (mVar 9) mNil)) [9]))
    (mSeq (mSet 7 (mOp fAdd (mOp fAdd (mSl (mOp fIx (mVar 1) (mVar 3)) mNoPart (mPart (mVar 4))) (mLst (mCons (mOp fAdd (mOp fIx (mOp fIx (mVar 1) (mVar 3)) (mVar 4)) (mC (.int 1))) mNil))) (mOp fMul (mLst (mCons (mC (.int 0)) mNil)) (mOp fSub (mOp fSub (mVar 5) (mVar 4)) (mC (.int 1))))))
    (mSeq (mSet 8 (mLc (mIL (mSl (mVar 1) (mPart (mOp fAdd (mVar 3) (mC (.int 1)))) mNoPart)) (mgName 10) mYes (mOp fMul (mLst (mCons (mC (.int 0)) mNil)) (mVar 5)) [10]))
    (mRetM (mmAdd (mmAdd (mmV 6) (mmLst (mmCons (mmV 7) mmNil))) (mmV 8))))))))))
def g_after (A : Ad) : List D → Option FO := runF N_after.length (m_after A)
theorem ok_after (T : Txt K mg A) : FnOk P w K mg base (L2.CX P w) 6 A.a_after A.d_after ["room", "table"] (spD K 2 (g_after A)) := by
  have S := sc_after
  exact fnD T.after.F sc_after rfl fun cdv AA outer s H E hr =>
    (xss_cons (xs_setC (i := 2) S.nd rfl (by first | exact Or.inl rfl | exact Or.inr rfl) (xc_call (ok_puts T) (hr.mono (by decide)) (by rfl) T.puts.g T.puts.F.kp T.puts.b (takes_of rfl rfl rfl rfl) (xa (xv 0) (xa (xv 1) xa_nil))))
    (xss_cons (xs_if (xt_not (xt_truth (xv 2))) (xss_one (xs_ret xnon)) xss_nil)
    (xss_cons (xs_setT (xix (xv 2) (x_neg xint)) (xg_tup rfl (xns_cons (i := 3) S.nd rfl (by first | exact Or.inl rfl | exact Or.inr rfl) (xns_cons (i := 4) S.nd rfl (by first | exact Or.inl rfl | exact Or.inr rfl) xns_nil))))
    (xss_cons (xs_set (i := 5) S.nd rfl (by first | exact Or.inl rfl | exact Or.inr rfl) (xix (xv 0) xint))
    (xss_cons (xs_setLc (i := 6) (own := [("numbers", 9)]) rfl S.nd rfl rfl (sw_true rfl rfl rfl (by decide +kernel)) (xi_l (x_sl (xv 1) xo_none (xo_some (xv 3)))) (blkOk_by (own := [("numbers", 9)]) (N := N_after) (sc := defScope s_after) (by decide +kernel)) (by decide) (fun _ _ _ _ _ => (xg_name (i := 9) S.nd rfl (by first | exact Or.inl rfl | exact Or.inr rfl))) (fun _ _ _ _ _ => xts_nil) (fun _ _ _ _ _ => (xcallTy call_list_of ok_list (by rfl) T.z_list (by decide +kernel) (xa (xv 9) xa_nil))))
    (xss_cons (xs_set (i := 7) S.nd rfl (by first | exact Or.inl rfl | exact Or.inr rfl) (xadd (xadd (x_sl (xix (xv 1) (xv 3)) xo_none (xo_some (xv 4))) (x_lst (xa (xadd (xix (xix (xv 1) (xv 3)) (xv 4)) xint) xa_nil))) (xmul (x_lst (xa xint xa_nil)) (xsub (xsub (xv 5) (xv 4)) xint))))
    (xss_cons (xs_setLc (i := 8) (own := [("_", 10)]) rfl S.nd rfl rfl (sw_true rfl rfl rfl (by decide +kernel)) (xi_l (x_sl (xv 1) (xo_some (xadd (xv 3) xint)) xo_none)) (blkOk_by (own := [("_", 10)]) (N := N_after) (sc := defScope s_after) (by decide +kernel)) (by decide) (fun _ _ _ _ _ => (xg_name (i := 10) S.nd rfl (by first | exact Or.inl rfl | exact Or.inr rfl))) (fun _ _ _ _ _ => xts_nil) (fun _ _ _ _ _ => (xmul (x_lst (xa xint xa_nil)) (xv 5))))
    (xss_one (xs_retM (xm_add (xm_add (xm_v 6) (xm_lst (xmn (xm_v 7) xmn_nil))) (xm_v 8)))))))))))
/-! _law_of -/
def m__law_of (A : Ad) : MS := (mRet (mOp fIx (mOp fAdd (mSl (mVar 0) (mPart (mVar 1)) (mPart (mOp fAdd (mVar 1) (mC (.int 1))))) (mLst (mCons (mC (.int 0)) mNil))) (mC (.int 0))))
def g__law_of (A : Ad) : List D → Option FO := runF N__law_of.length (m__law_of A)
theorem ok__law_of (T : Txt K mg A) : FnOk P w K mg base (L2.CX P w) 1 A.a__law_of A.d__law_of ["_law_script", "_law_k"] (spD K 2 (g__law_of A)) := by
  have S := sc__law_of
  exact fnD T._law_of.F sc__law_of rfl fun cdv AA outer s H E hr =>
    (xss_one (xs_ret (xix (xadd (x_sl (xv 0) (xo_some (xv 1)) (xo_some (xadd (xv 1) xint))) (x_lst (xa xint xa_nil))) xint)))
/-! _law_drawn -/
def m__law_drawn (A : Ad) : MS := (mSeq (mIfS (mTst (mOp fLt (mVar 1) (mCB gLen (mCons (mVar 0) mNil)))) (mRet (mOp fIx (mVar 0) (mVar 1))) mNext)
    (mRet (mOp fMod (mOp fAdd (mOp fAdd (mOp fMul (mOp fMul (mVar 1) (mVar 1)) (mC (.int 48271))) (mOp fMul (mVar 1) (mC (.int 11)))) (mCall 2 (g__law_of A) (mCons (mVar 0) (mCons (mC (.int 0)) mNil)))) (mC (.int 2147483647)))))
def g__law_drawn (A : Ad) : List D → Option FO := runF N__law_drawn.length (m__law_drawn A)
theorem ok__law_drawn (T : Txt K mg A) : FnOk P w K mg base (L2.CX P w) 2 A.a__law_drawn A.d__law_drawn ["_law_script", "_law_k"] (spD K 2 (g__law_drawn A)) := by
  have S := sc__law_drawn
  exact fnD T._law_drawn.F sc__law_drawn rfl fun cdv AA outer s H E hr =>
    (xss_cons (xs_if (xtcmp op_lt op2_lt (nomark _) (xv 1) (xcallB call_len ok_len (by rfl) T.z_len PySem.boot_len (xa (xv 0) xa_nil))) (xss_one (xs_ret (xix (xv 0) (xv 1)))) xss_nil)
    (xss_one (xs_ret (xmod (xadd (xadd (xmul (xmul (xv 1) (xv 1)) xint) (xmul (xv 1) xint)) (xcall (ok__law_of T) (hr.mono (by decide)) (by rfl) T._law_of.g T._law_of.F.kp T._law_of.b passL (xa (xv 0) (xa xint xa_nil)))) xint))))
/-! _law_room -/
def m__law_room (A : Ad) : MS := (mSeq (mIfS (mTst (mOp fEq (mOp fMod (mOp fDiv (mVar 0) (mC (.int 6))) (mC (.int 4))) (mC (.int 1)))) (mSeq (mSet 1 (mOp fAdd (mC (.int 1)) (mOp fMod (mOp fDiv (mVar 0) (mC (.int 24))) (mC (.int 20)))))
    (mRet (mTup (mCons (mOp fAdd (mC (.int 1)) (mOp fMod (mVar 0) (mC (.int 4)))) (mCons (mVar 1) (mCons (mOp fAdd (mC (.int 1)) (mOp fMod (mOp fDiv (mVar 0) (mC (.int 480))) (mCB gMin (mCons (mC (.int 20)) (mCons (mOp fDiv (mC (.int 40)) (mVar 1)) mNil))))) mNil)))))) mNext)
    (mRet (mTup (mCons (mOp fAdd (mC (.int 1)) (mOp fMod (mVar 0) (mC (.int 6)))) (mCons (mOp fAdd (mC (.int 1)) (mOp fMod (mOp fDiv (mVar 0) (mC (.int 24))) (mC (.int 5)))) (mCons (mOp fAdd (mC (.int 1)) (mOp fMod (mOp fDiv (mVar 0) (mC (.int 120))) (mC (.int 5)))) mNil))))))
def g__law_room (A : Ad) : List D → Option FO := runF N__law_room.length (m__law_room A)
theorem ok__law_room (T : Txt K mg A) : FnOk P w K mg base (L2.CX P w) 1 A.a__law_room A.d__law_room ["_law_cell"] (spD K 1 (g__law_room A)) := by
  have S := sc__law_room
  exact fnD T._law_room.F sc__law_room rfl fun cdv AA outer s H E hr =>
    (xss_cons (xs_if (xtcmp (op_eqD hr.units) op2_eq (nomark _) (xmod (xdiv (xv 0) xint) xint) xint) (xss_cons (xs_set (i := 1) S.nd rfl (by first | exact Or.inl rfl | exact Or.inr rfl) (xadd xint (xmod (xdiv (xv 0) xint) xint)))
    (xss_one (xs_ret (x_tup (xa (xadd xint (xmod (xv 0) xint)) (xa (xv 1) (xa (xadd xint (xmod (xdiv (xv 0) xint) (xcallB (call_min2 rfl) ok_min (by rfl) T.z_min (by decide +kernel) (xa xint (xa (xdiv xint (xv 1)) xa_nil))))) xa_nil))))))) xss_nil)
    (xss_one (xs_ret (x_tup (xa (xadd xint (xmod (xv 0) xint)) (xa (xadd xint (xmod (xdiv (xv 0) xint) xint)) (xa (xadd xint (xmod (xdiv (xv 0) xint) xint)) xa_nil)))))))
/-! _law_most -/
def m__law_most (A : Ad) : MS := (mSeq (mSet 4 (mOp fIx (mVar 1) (mC (.int 2))))
    (mSeq (mIfS (mTst (mOp fGt (mVar 3) (mC (.int 0)))) (mSet 4 (mCB gMin (mCons (mVar 4) (mCons (mOp fIx (mOp fIx (mVar 0) (mVar 2)) (mOp fSub (mVar 3) (mC (.int 1)))) mNil)))) mNext)
    (mSeq (mIfS (mTst (mOp fGt (mVar 2) (mC (.int 0)))) (mSet 4 (mCB gMin (mCons (mVar 4) (mCons (mOp fIx (mOp fIx (mVar 0) (mOp fSub (mVar 2) (mC (.int 1)))) (mVar 3)) mNil)))) mNext)
    (mRetV 4))))
def g__law_most (A : Ad) : List D → Option FO := runF N__law_most.length (m__law_most A)
theorem ok__law_most (T : Txt K mg A) : FnOk P w K mg base (L2.CX P w) 1 A.a__law_most A.d__law_most ["_law_table_here", "_law_room_here", "_law_i", "_law_j"] (spD K 4 (g__law_most A)) := by
  have S := sc__law_most
  exact fnD T._law_most.F sc__law_most rfl fun cdv AA outer s H E hr =>
    (xss_cons (xs_set (i := 4) S.nd rfl (by first | exact Or.inl rfl | exact Or.inr rfl) (xix (xv 1) xint))
    (xss_cons (xs_if (xtcmp op_gt op2_gt (nomark _) (xv 3) xint) (xss_one (xs_set (i := 4) S.nd rfl (by first | exact Or.inl rfl | exact Or.inr rfl) (xcallB (call_min2 rfl) ok_min (by rfl) T.z_min (by decide +kernel) (xa (xv 4) (xa (xix (xix (xv 0) (xv 2)) (xsub (xv 3) xint)) xa_nil))))) xss_nil)
    (xss_cons (xs_if (xtcmp op_gt op2_gt (nomark _) (xv 2) xint) (xss_one (xs_set (i := 4) S.nd rfl (by first | exact Or.inl rfl | exact Or.inr rfl) (xcallB (call_min2 rfl) ok_min (by rfl) T.z_min (by decide +kernel) (xa (xv 4) (xa (xix (xix (xv 0) (xsub (xv 2) xint)) (xv 3)) xa_nil))))) xss_nil)
    (xss_one (xs_retV 4)))))
/-! _law_table -/
def m__law_table (A : Ad) : MS := (mSeq (mSet 3 (mLst mNil))
    (mKill [4, 5, 6, 7, 8] (mSeq (mFor (mRg1 (mCons (mOp fIx (mVar 2) (mC (.int 0))) mNil)) (mgName 4) (mSeq (mAppend (mpV 3) (mLst mNil))
    (mKill [5, 6, 7, 8] (mFor (mRg1 (mCons (mOp fIx (mVar 2) (mC (.int 1))) mNil)) (mgName 5) (mSeq (mSet 6 (mCall 4 (g__law_most A) (mCons (mVar 3) (mCons (mVar 2) (mCons (mVar 4) (mCons (mVar 5) mNil))))))
    (mSeq (mSet 7 (mCall 2 (g__law_drawn A) (mCons (mVar 0) (mCons (mOp fAdd (mOp fAdd (mVar 1) (mOp fMul (mVar 4) (mOp fIx (mVar 2) (mC (.int 1))))) (mVar 5)) mNil))))
    (mSeq (mSet 8 (mOp fMod (mOp fDiv (mVar 7) (mC (.int 3))) (mOp fAdd (mVar 6) (mC (.int 1)))))
    (mSeq (mIfS (mTst (mOp fEq (mOp fMod (mVar 7) (mC (.int 3))) (mC (.int 0)))) (mSet 8 (mVar 6)) mNext)
    (mSeq (mIfS (mTst (mOp fEq (mOp fMod (mVar 7) (mC (.int 3))) (mC (.int 1)))) (mSet 8 (mCB gMax (mCons (mC (.int 0)) (mCons (mOp fSub (mOp fSub (mVar 6) (mC (.int 1))) (mOp fMod (mOp fDiv (mVar 7) (mC (.int 3))) (mC (.int 2)))) mNil)))) mNext)
    (mAppend (mpIx (mpV 3) (mVar 4)) (mVar 8))))))) [5, 6, 7, 8]))) [4, 5, 6, 7, 8])
    (mRetV 3))))
def g__law_table (A : Ad) : List D → Option FO := runF N__law_table.length (m__law_table A)
theorem ok__law_table (T : Txt K mg A) : FnOk P w K mg base (L2.CX P w) 3 A.a__law_table A.d__law_table ["_law_script", "_law_start", "_law_room_here"] (spD K 3 (g__law_table A)) := by
  have S := sc__law_table
  exact fnD T._law_table.F sc__law_table rfl fun cdv AA outer s H E hr =>
    (xss_cons (xs_set (i := 3) S.nd rfl (by first | exact Or.inl rfl | exact Or.inr rfl) (x_lst xa_nil))
    (xss_kill [4, 5, 6, 7, 8] (xss_cons (xs_for [4, 5, 6, 7, 8] (passes_of rfl) rfl (xi_rg1 (by rfl) T.z_range (xa (xix (xv 2) xint) xa_nil)) (xg_name (i := 4) S.nd rfl (by first | exact Or.inl rfl | exact Or.inr rfl)) (xss_cons (xs_append (xp_v 3) (x_lst xa_nil))
    (xss_kill [5, 6, 7, 8] (xss_one (xs_for [5, 6, 7, 8] (passes_of rfl) rfl (xi_rg1 (by rfl) T.z_range (xa (xix (xv 2) xint) xa_nil)) (xg_name (i := 5) S.nd rfl (by first | exact Or.inl rfl | exact Or.inr rfl)) (xss_cons (xs_set (i := 6) S.nd rfl (by first | exact Or.inl rfl | exact Or.inr rfl) (xcall (ok__law_most T) (hr.mono (by decide)) (by rfl) T._law_most.g T._law_most.F.kp T._law_most.b passL (xa (xv 3) (xa (xv 2) (xa (xv 4) (xa (xv 5) xa_nil))))))
    (xss_cons (xs_set (i := 7) S.nd rfl (by first | exact Or.inl rfl | exact Or.inr rfl) (xcall (ok__law_drawn T) (hr.mono (by decide)) (by rfl) T._law_drawn.g T._law_drawn.F.kp T._law_drawn.b passL (xa (xv 0) (xa (xadd (xadd (xv 1) (xmul (xv 4) (xix (xv 2) xint))) (xv 5)) xa_nil))))
    (xss_cons (xs_set (i := 8) S.nd rfl (by first | exact Or.inl rfl | exact Or.inr rfl) (xmod (xdiv (xv 7) xint) (xadd (xv 6) xint)))
    (xss_cons (xs_if (xtcmp (op_eqD hr.units) op2_eq (nomark _) (xmod (xv 7) xint) xint) (xss_one (xs_set (i := 8) S.nd rfl (by first | exact Or.inl rfl | exact Or.inr rfl) (xv 6))) xss_nil)
    (xss_cons (xs_if (xtcmp (op_eqD hr.units) op2_eq (nomark _) (xmod (xv 7) xint) xint) (xss_one (xs_set (i := 8) S.nd rfl (by first | exact Or.inl rfl | exact Or.inr rfl) (xcallB (call_max2 rfl) ok_max (by rfl) T.z_max (by decide +kernel) (xa xint (xa (xsub (xsub (xv 6) xint) (xmod (xdiv (xv 7) xint) xint)) xa_nil))))) xss_nil)
    (xss_one (xs_append (xp_ix (xp_v 3) (xv 4)) (xv 8)))))))))))))
    (xss_one (xs_retV 3)))))
/-! _law_copy -/
def m__law_copy (A : Ad) : MS := (mRet (mLc (mIL (mVar 0)) (mgName 1) mYes (mCB gList (mCons (mVar 1) mNil)) [1]))
def g__law_copy (A : Ad) : List D → Option FO := runF N__law_copy.length (m__law_copy A)
theorem ok__law_copy (T : Txt K mg A) : FnOk P w K mg base (L2.CX P w) 1 A.a__law_copy A.d__law_copy ["_law_table_here"] (spD K 1 (g__law_copy A)) := by
  have S := sc__law_copy
  exact fnD T._law_copy.F sc__law_copy rfl fun cdv AA outer s H E hr =>
    (xss_one (xs_ret (x_lc (own := [("_law_row", 1)]) rfl S.nd (xi_l (xv 0)) (blkOk_by (own := [("_law_row", 1)]) (N := N__law_copy) (sc := defScope s__law_copy) (by decide +kernel)) (by decide) (fun _ _ _ _ _ => (xg_name (i := 1) S.nd rfl (by first | exact Or.inl rfl | exact Or.inr rfl))) (fun _ _ _ _ _ => xts_nil) (fun _ _ _ _ _ => (xcallTy call_list_of ok_list (by rfl) T.z_list (by decide +kernel) (xa (xv 1) xa_nil))))))
/-! _law_two -/
def m__law_two (A : Ad) : MS := (mSeq (mSet 2 (mCall 3 (g__law_table A) (mCons (mVar 0) (mCons (mC (.int 3)) (mCons (mVar 1) mNil)))))
    (mSeq (mSet 3 (mCall 3 (g__law_table A) (mCons (mVar 0) (mCons (mC (.int 5)) (mCons (mVar 1) mNil)))))
    (mSeq (mSet 4 (mCall 2 (g__law_of A) (mCons (mVar 0) (mCons (mC (.int 1)) mNil))))
    (mSeq (mIfS (mTst (mOp fEq (mOp fMod (mVar 4) (mC (.int 2))) (mC (.int 1)))) (mSeq (mSet 3 (mCall 1 (g__law_copy A) (mCons (mVar 2) mNil)))
    (mSeq (mSet 5 (mOp fMod (mOp fDiv (mVar 4) (mC (.int 2))) (mOp fIx (mVar 1) (mC (.int 0)))))
    (mSeq (mSet 6 (mOp fMod (mOp fDiv (mVar 4) (mC (.int 12))) (mOp fIx (mVar 1) (mC (.int 1)))))
    (mIfS (mTst (mOp fLt (mOp fIx (mOp fIx (mVar 2) (mVar 5)) (mVar 6)) (mCall 4 (g__law_most A) (mCons (mVar 2) (mCons (mVar 1) (mCons (mVar 5) (mCons (mVar 6) mNil))))))) (mSetIx (mpIx (mpV 3) (mVar 5)) (mVar 6) (mOp fAdd (mOp fIx (mOp fIx (mVar 2) (mVar 5)) (mVar 6)) (mC (.int 1)))) mNext)))) mNext)
    (mRetM (mmLst (mmCons (mmV 2) (mmCons (mmV 3) mmNil))))))))
def g__law_two (A : Ad) : List D → Option FO := runF N__law_two.length (m__law_two A)
theorem ok__law_two (T : Txt K mg A) : FnOk P w K mg base (L2.CX P w) 4 A.a__law_two A.d__law_two ["_law_script", "_law_room_here"] (spD K 2 (g__law_two A)) := by
  have S := sc__law_two
  exact fnD T._law_two.F sc__law_two rfl fun cdv AA outer s H E hr =>
    (xss_cons (xs_set (i := 2) S.nd rfl (by first | exact Or.inl rfl | exact Or.inr rfl) (xcall (ok__law_table T) (hr.mono (by decide)) (by rfl) T._law_table.g T._law_table.F.kp T._law_table.b passL (xa (xv 0) (xa xint (xa (xv 1) xa_nil)))))
    (xss_cons (xs_set (i := 3) S.nd rfl (by first | exact Or.inl rfl | exact Or.inr rfl) (xcall (ok__law_table T) (hr.mono (by decide)) (by rfl) T._law_table.g T._law_table.F.kp T._law_table.b passL (xa (xv 0) (xa xint (xa (xv 1) xa_nil)))))
    (xss_cons (xs_set (i := 4) S.nd rfl (by first | exact Or.inl rfl | exact Or.inr rfl) (xcall (ok__law_of T) (hr.mono (by decide)) (by rfl) T._law_of.g T._law_of.F.kp T._law_of.b passL (xa (xv 0) (xa xint xa_nil))))
    (xss_cons (xs_if (xtcmp (op_eqD hr.units) op2_eq (nomark _) (xmod (xv 4) xint) xint) (xss_cons (xs_set (i := 3) S.nd rfl (by first | exact Or.inl rfl | exact Or.inr rfl) (xcall (ok__law_copy T) (hr.mono (by decide)) (by rfl) T._law_copy.g T._law_copy.F.kp T._law_copy.b passL (xa (xv 2) xa_nil)))
    (xss_cons (xs_set (i := 5) S.nd rfl (by first | exact Or.inl rfl | exact Or.inr rfl) (xmod (xdiv (xv 4) xint) (xix (xv 1) xint)))
    (xss_cons (xs_set (i := 6) S.nd rfl (by first | exact Or.inl rfl | exact Or.inr rfl) (xmod (xdiv (xv 4) xint) (xix (xv 1) xint)))
    (xss_one (xs_if (xtcmp op_lt op2_lt (nomark _) (xix (xix (xv 2) (xv 5)) (xv 6)) (xcall (ok__law_most T) (hr.mono (by decide)) (by rfl) T._law_most.g T._law_most.F.kp T._law_most.b passL (xa (xv 2) (xa (xv 1) (xa (xv 5) (xa (xv 6) xa_nil)))))) (xss_one (xs_setIx (xadd (xix (xix (xv 2) (xv 5)) (xv 6)) xint) (xp_ix (xp_v 3) (xv 5)) (xv 6))) xss_nil))))) xss_nil)
    (xss_one (xs_retM (xm_lst (xmn (xm_v 2) (xmn (xm_v 3) xmn_nil)))))))))
/-! _law_back -/
def m__law_back (A : Ad) : MS := (mSeq (mIfS (mTst (mOp fNe (mCall 2 (g_table_of A) (mCons (mVar 0) (mCons (mCall 2 (g_lanes_of A) (mCons (mVar 0) (mCons (mCall 1 (g__law_copy A) (mCons (mVar 1) mNil)) mNil))) mNil))) (mVar 1))) (mRet (mC (.bl false))) mNext)
    (mRet (mOp fEq (mCall 2 (g_heap_of A) (mCons (mVar 0) (mCons (mCall 2 (g_floor_of A) (mCons (mVar 0) (mCons (mCall 1 (g__law_copy A) (mCons (mVar 1) mNil)) mNil))) mNil))) (mVar 1))))
def g__law_back (A : Ad) : List D → Option FO := runF N__law_back.length (m__law_back A)
theorem ok__law_back (T : Txt K mg A) : FnOk P w K mg base (L2.CX P w) 9 A.a__law_back A.d__law_back ["_law_room_here", "_law_table_here"] (spD K 2 (g__law_back A)) := by
  have S := sc__law_back
  exact fnD T._law_back.F sc__law_back rfl fun cdv AA outer s H E hr =>
    (xss_cons (xs_if (xtcmp (op_neD hr.units) op2_ne (nomark _) (xcall (ok_table_of T) (hr.mono (by decide)) (by rfl) T.table_of.g T.table_of.F.kp T.table_of.b passL (xa (xv 0) (xa (xcall (ok_lanes_of T) (hr.mono (by decide)) (by rfl) T.lanes_of.g T.lanes_of.F.kp T.lanes_of.b passL (xa (xv 0) (xa (xcall (ok__law_copy T) (hr.mono (by decide)) (by rfl) T._law_copy.g T._law_copy.F.kp T._law_copy.b passL (xa (xv 1) xa_nil)) xa_nil))) xa_nil))) (xv 1)) (xss_one (xs_ret xbl)) xss_nil)
    (xss_one (xs_ret (xcmp (op_eqD hr.units) op2_eq (nomark _) (xcall (ok_heap_of T) (hr.mono (by decide)) (by rfl) T.heap_of.g T.heap_of.F.kp T.heap_of.b passL (xa (xv 0) (xa (xcall (ok_floor_of T) (hr.mono (by decide)) (by rfl) T.floor_of.g T.floor_of.F.kp T.floor_of.b passL (xa (xv 0) (xa (xcall (ok__law_copy T) (hr.mono (by decide)) (by rfl) T._law_copy.g T._law_copy.F.kp T._law_copy.b passL (xa (xv 1) xa_nil)) xa_nil))) xa_nil))) (xv 1)))))
/-! law -/
def m_law (A : Ad) : MS := (mSeq (mSet 1 (mCall 1 (g__law_room A) (mCons (mCall 2 (g__law_of A) (mCons (mVar 0) (mCons (mC (.int 0)) mNil))) mNil)))
    (mSeq (mSet 2 (mCall 2 (g__law_two A) (mCons (mVar 0) (mCons (mVar 1) mNil))))
    (mSeq (mIfS (mOr (mNot (mTst (mCall 2 (g__law_back A) (mCons (mVar 1) (mCons (mOp fIx (mVar 2) (mC (.int 0))) mNil))))) (mNot (mTst (mCall 2 (g__law_back A) (mCons (mVar 1) (mCons (mOp fIx (mVar 2) (mC (.int 1))) mNil)))))) (mRet (mC (.bl false))) mNext)
    (mSeq (mSet 3 (mOp fEq (mOp fIx (mVar 2) (mC (.int 0))) (mOp fIx (mVar 2) (mC (.int 1)))))
    (mSeq (mIfS (mTst (mOp fNe (mOp fEq (mCall 2 (g_lanes_of A) (mCons (mVar 1) (mCons (mOp fIx (mVar 2) (mC (.int 0))) mNil))) (mCall 2 (g_lanes_of A) (mCons (mVar 1) (mCons (mOp fIx (mVar 2) (mC (.int 1))) mNil)))) (mVar 3))) (mRet (mC (.bl false))) mNext)
    (mSeq (mIfS (mTst (mOp fNe (mOp fEq (mCall 2 (g_floor_of A) (mCons (mVar 1) (mCons (mOp fIx (mVar 2) (mC (.int 0))) mNil))) (mCall 2 (g_floor_of A) (mCons (mVar 1) (mCons (mOp fIx (mVar 2) (mC (.int 1))) mNil)))) (mVar 3))) (mRet (mC (.bl false))) mNext)
    (mSeq (mIfS (mTst (mOp fNe (mOp fEq (mCall 2 (g_climb A) (mCons (mVar 1) (mCons (mOp fIx (mVar 2) (mC (.int 0))) mNil))) (mCall 2 (g_climb A) (mCons (mVar 1) (mCons (mOp fIx (mVar 2) (mC (.int 1))) mNil)))) (mVar 3))) (mRet (mC (.bl false))) mNext)
    (mSeq (mSet 4 (mCall 1 (g__law_copy A) (mCons (mCB gMinT (mCons (mOp fIx (mVar 2) (mC (.int 0))) (mCons (mOp fIx (mVar 2) (mC (.int 1))) mNil))) mNil)))
    (mKill [5, 6] (mSeq (mFor (mRg1 (mCons (mOp fMod (mCall 2 (g__law_of A) (mCons (mVar 0) (mCons (mC (.int 2)) mNil))) (mC (.int 4))) mNil)) (mgName 5) (mSeq (mSet 6 (mCall 2 (g_after A) (mCons (mVar 1) (mCons (mCall 1 (g__law_copy A) (mCons (mVar 4) mNil)) mNil))))
    (mKill [0, 5] (mSeq (mIfS (mTst (mOp fIs (mVar 6) (mC .non))) (mKill [0, 2, 3, 5, 6] (mRet (mOp fEq (mVar 4) (mLc (mRg1 (mCons (mOp fIx (mVar 1) (mC (.int 0))) mNil)) (mgName 7) mYes (mOp fMul (mLst (mCons (mOp fIx (mVar 1) (mC (.int 2))) mNil)) (mOp fIx (mVar 1) (mC (.int 1)))) [7])))) mNext)
    (mSeq (mIfS (mOr (mNot (mTst (mOp fLtT (mVar 4) (mVar 6)))) (mAnd (mNot (mTru (mVar 3))) (mTst (mChT (mVar 4) (mCB gMaxT (mCons (mOp fIx (mVar 2) (mC (.int 0))) (mCons (mOp fIx (mVar 2) (mC (.int 1))) mNil))) (mVar 6))))) (mRet (mC (.bl false))) mNext)
    (mMov 4 6))))) [5, 6])
    (mRet (mC (.bl true)))))))))))))
def g_law (A : Ad) : List D → Option FO := runF N_law.length (m_law A)
theorem ok_law (T : Txt K mg A) : FnOk P w K mg base (L2.CX P w) 10 A.a_law A.d_law ["_law_script"] (spD K 1 (g_law A)) := by
  have S := sc_law
  exact fnD T.law.F sc_law rfl fun cdv AA outer s H E hr =>
    (xss_cons (xs_set (i := 1) S.nd rfl (by first | exact Or.inl rfl | exact Or.inr rfl) (xcall (ok__law_room T) (hr.mono (by decide)) (by rfl) T._law_room.g T._law_room.F.kp T._law_room.b passL (xa (xcall (ok__law_of T) (hr.mono (by decide)) (by rfl) T._law_of.g T._law_of.F.kp T._law_of.b passL (xa (xv 0) (xa xint xa_nil))) xa_nil)))
    (xss_cons (xs_set (i := 2) S.nd rfl (by first | exact Or.inl rfl | exact Or.inr rfl) (xcall (ok__law_two T) (hr.mono (by decide)) (by rfl) T._law_two.g T._law_two.F.kp T._law_two.b passL (xa (xv 0) (xa (xv 1) xa_nil))))
    (xss_cons (xs_if (xw_pt (xw_or (xt_not (xt_val (xcall (ok__law_back T) (hr.mono (by decide)) (by rfl) T._law_back.g T._law_back.F.kp T._law_back.b passL (xa (xv 1) (xa (xix (xv 2) xint) xa_nil))))) (xw_or1 (xt_not (xt_val (xcall (ok__law_back T) (hr.mono (by decide)) (by rfl) T._law_back.g T._law_back.F.kp T._law_back.b passL (xa (xv 1) (xa (xix (xv 2) xint) xa_nil)))))))) (xss_one (xs_ret xbl)) xss_nil)
    (xss_cons (xs_set (i := 3) S.nd rfl (by first | exact Or.inl rfl | exact Or.inr rfl) (xcmp (op_eqD hr.units) op2_eq (nomark _) (xix (xv 2) xint) (xix (xv 2) xint)))
    (xss_cons (xs_if (xtcmp (op_neD hr.units) op2_ne (nomark _) (xcmp (op_eqD hr.units) op2_eq (nomark _) (xcall (ok_lanes_of T) (hr.mono (by decide)) (by rfl) T.lanes_of.g T.lanes_of.F.kp T.lanes_of.b passL (xa (xv 1) (xa (xix (xv 2) xint) xa_nil))) (xcall (ok_lanes_of T) (hr.mono (by decide)) (by rfl) T.lanes_of.g T.lanes_of.F.kp T.lanes_of.b passL (xa (xv 1) (xa (xix (xv 2) xint) xa_nil)))) (xv 3)) (xss_one (xs_ret xbl)) xss_nil)
    (xss_cons (xs_if (xtcmp (op_neD hr.units) op2_ne (nomark _) (xcmp (op_eqD hr.units) op2_eq (nomark _) (xcall (ok_floor_of T) (hr.mono (by decide)) (by rfl) T.floor_of.g T.floor_of.F.kp T.floor_of.b passL (xa (xv 1) (xa (xix (xv 2) xint) xa_nil))) (xcall (ok_floor_of T) (hr.mono (by decide)) (by rfl) T.floor_of.g T.floor_of.F.kp T.floor_of.b passL (xa (xv 1) (xa (xix (xv 2) xint) xa_nil)))) (xv 3)) (xss_one (xs_ret xbl)) xss_nil)
    (xss_cons (xs_if (xtcmp (op_neD hr.units) op2_ne (nomark _) (xcmp (op_eqD hr.units) op2_eq (nomark _) (xcall (ok_climb T) (hr.mono (by decide)) (by rfl) T.climb.g T.climb.F.kp T.climb.b passL (xa (xv 1) (xa (xix (xv 2) xint) xa_nil))) (xcall (ok_climb T) (hr.mono (by decide)) (by rfl) T.climb.g T.climb.F.kp T.climb.b passL (xa (xv 1) (xa (xix (xv 2) xint) xa_nil)))) (xv 3)) (xss_one (xs_ret xbl)) xss_nil)
    (xss_cons (xs_set (i := 4) S.nd rfl (by first | exact Or.inl rfl | exact Or.inr rfl) (xcall (ok__law_copy T) (hr.mono (by decide)) (by rfl) T._law_copy.g T._law_copy.F.kp T._law_copy.b passL (xa (xcallB (call_minT rfl hr.units) ok_best (by rfl) T.z_min (by decide +kernel) (xa (xix (xv 2) xint) (xa (xix (xv 2) xint) xa_nil))) xa_nil)))
    (xss_kill [5, 6] (xss_cons (xs_for [5, 6] (passes_of rfl) rfl (xi_rg1 (by rfl) T.z_range (xa (xmod (xcall (ok__law_of T) (hr.mono (by decide)) (by rfl) T._law_of.g T._law_of.F.kp T._law_of.b passL (xa (xv 0) (xa xint xa_nil))) xint) xa_nil)) (xg_name (i := 5) S.nd rfl (by first | exact Or.inl rfl | exact Or.inr rfl)) (xss_cons (xs_set (i := 6) S.nd rfl (by first | exact Or.inl rfl | exact Or.inr rfl) (xcall (ok_after T) (hr.mono (by decide)) (by rfl) T.after.g T.after.F.kp T.after.b passL (xa (xv 1) (xa (xcall (ok__law_copy T) (hr.mono (by decide)) (by rfl) T._law_copy.g T._law_copy.F.kp T._law_copy.b passL (xa (xv 4) xa_nil)) xa_nil))))
    (xss_kill [0, 5] (xss_cons (xs_if (xtcmp op_isN op2_is (nomark _) (xv 6) xnon) (xss_kill [0, 2, 3, 5, 6] (xss_one (xs_ret (xcmp (op_eqD hr.units) op2_eq (nomark _) (xv 4) (x_lc (own := [("_law_i", 7)]) rfl S.nd (xi_rg1 (by rfl) T.z_range (xa (xix (xv 1) xint) xa_nil)) (blkOk_by (own := [("_law_i", 7)]) (N := N_law) (sc := defScope s_law) (by decide +kernel)) (by decide) (fun _ _ _ _ _ => (xg_name (i := 7) S.nd rfl (by first | exact Or.inl rfl | exact Or.inr rfl))) (fun _ _ _ _ _ => xts_nil) (fun _ _ _ _ _ => (xmul (x_lst (xa (xix (xv 1) xint) xa_nil)) (xix (xv 1) xint)))))))) xss_nil)
    (xss_cons (xs_if (xw_pt (xw_or (xt_not (xtcmp (op_lt.or (op_ltD hr.units)) op2_ltT (nomark _) (xv 4) (xv 6))) (xw_or1 (xw_pt (xw_and (xt_not (xt_truth (xv 3))) (xw_and1 (xt_chainT hr.units (xv 4) (xcallB (call_maxT rfl hr.units) ok_best (by rfl) T.z_max (by decide +kernel) (xa (xix (xv 2) xint) (xa (xix (xv 2) xint) xa_nil))) (xv 6)))))))) (xss_one (xs_ret xbl)) xss_nil)
    (xss_one (xs_move (i := 4) 6 S.nd rfl (by first | exact Or.inl rfl | exact Or.inr rfl))))))))
    (xss_one (xs_ret xbl))))))))))))
end
/-! ### the end -/
theorem all_mk {l : PySem.W.OpenLaw} {w : World} {K : PySem.W.Frag} {h : Heap} {mg : Str → Option Value} {fa : Addr} (X : K.In h) (G : h.Ns mainGlobals mg) (hfa : mg "law" = some (.ref fa))
    {f0 f1 f2 f3 f4 f5 f6 f7 f8 f9 f10 f11 f12 f13 f14 f15 f16 f17 f18 f19 f20 f21 f22 f23 f24 f25 f26 f27 f28 f29 f30 f31 f32 f33 f34 f35 f36 : Addr} {od0 an0 od1 an1 od2 an2 od3 an3 od4 an4 od5 an5 od6 an6 od7 an7 od8 an8 od9 an9 od10 an10 od11 an11 od12 an12 od13 an13 od14 an14 od15 an15 od16 an16 od17 an17 od18 an18 od19 an19 od20 an20 od21 an21 od22 an22 od23 an23 od24 an24 od25 an25 od26 an26 od27 an27 od28 an28 od29 an29 od30 an30 od31 an31 od32 an32 od33 an33 od34 an34 od35 an35 od36 an36 : Option Addr} {sl0 sl1 sl2 sl3 sl4 sl5 sl6 sl7 sl8 sl9 sl10 sl11 sl12 sl13 sl14 sl15 sl16 sl17 sl18 sl19 sl20 sl21 sl22 sl23 sl24 sl25 sl26 sl27 sl28 sl29 sl30 sl31 sl32 sl33 sl34 sl35 sl36 : Array (Option Value)}
    {oc0 kV0 dc0 pm0 cd0 ct0 oc1 kV1 dc1 pm1 cd1 ct1 oc2 kV2 dc2 pm2 cd2 ct2 oc3 kV3 dc3 pm3 cd3 ct3 oc4 kV4 dc4 pm4 cd4 ct4 oc5 kV5 dc5 pm5 cd5 ct5 oc6 kV6 dc6 pm6 cd6 ct6 oc7 kV7 dc7 pm7 cd7 ct7 oc8 kV8 dc8 pm8 cd8 ct8 oc9 kV9 dc9 pm9 cd9 ct9 oc10 kV10 dc10 pm10 cd10 ct10 oc11 kV11 dc11 pm11 cd11 ct11 oc12 kV12 dc12 pm12 cd12 ct12 oc13 kV13 dc13 pm13 cd13 ct13 oc14 kV14 dc14 pm14 cd14 ct14 oc15 kV15 dc15 pm15 cd15 ct15 oc16 kV16 dc16 pm16 cd16 ct16 oc17 kV17 dc17 pm17 cd17 ct17 oc18 kV18 dc18 pm18 cd18 ct18 oc19 kV19 dc19 pm19 cd19 ct19 oc20 kV20 dc20 pm20 cd20 ct20 oc21 kV21 dc21 pm21 cd21 ct21 oc22 kV22 dc22 pm22 cd22 ct22 oc23 kV23 dc23 pm23 cd23 ct23 oc24 kV24 dc24 pm24 cd24 ct24 oc25 kV25 dc25 pm25 cd25 ct25 oc26 kV26 dc26 pm26 cd26 ct26 oc27 kV27 dc27 pm27 cd27 ct27 oc28 kV28 dc28 pm28 cd28 ct28 oc29 kV29 dc29 pm29 cd29 ct29 oc30 kV30 dc30 pm30 cd30 ct30 oc31 kV31 dc31 pm31 cd31 ct31 oc32 kV32 dc32 pm32 cd32 ct32 oc33 kV33 dc33 pm33 cd33 ct33 oc34 kV34 dc34 pm34 cd34 ct34 oc35 kV35 dc35 pm35 cd35 ct35 oc36 kV36 dc36 pm36 cd36 ct36 : Value}
    (a0 : PySem.W.nsIn K mainGlobals "is_whole" = some (some (.ref f0))) (l0 : K.lookup f0 = some ⟨oc0, od0, .func (PySem.W.fnOf "is_whole" "is_whole" (defArgs s_is_whole) (defBody s_is_whole) (defScope s_is_whole) .none kV0 dc0 pm0 an0 cd0 ct0), sl0⟩) (c0 : PySem.W.codeIn K cd0 "is_whole" = true) (k0 : PySem.W.keepIn K (.ref f0) = true)
    (a1 : PySem.W.nsIn K mainGlobals "is_room" = some (some (.ref f1))) (l1 : K.lookup f1 = some ⟨oc1, od1, .func (PySem.W.fnOf "is_room" "is_room" (defArgs s_is_room) (defBody s_is_room) (defScope s_is_room) .none kV1 dc1 pm1 an1 cd1 ct1), sl1⟩) (c1 : PySem.W.codeIn K cd1 "is_room" = true) (k1 : PySem.W.keepIn K (.ref f1) = true)
    (a2 : PySem.W.nsIn K mainGlobals "is_row" = some (some (.ref f2))) (l2 : K.lookup f2 = some ⟨oc2, od2, .func (PySem.W.fnOf "is_row" "is_row" (defArgs s_is_row) (defBody s_is_row) (defScope s_is_row) .none kV2 dc2 pm2 an2 cd2 ct2), sl2⟩) (c2 : PySem.W.codeIn K cd2 "is_row" = true) (k2 : PySem.W.keepIn K (.ref f2) = true)
    (a3 : PySem.W.nsIn K mainGlobals "never_rises" = some (some (.ref f3))) (l3 : K.lookup f3 = some ⟨oc3, od3, .func (PySem.W.fnOf "never_rises" "never_rises" (defArgs s_never_rises) (defBody s_never_rises) (defScope s_never_rises) .none kV3 dc3 pm3 an3 cd3 ct3), sl3⟩) (c3 : PySem.W.codeIn K cd3 "never_rises" = true) (k3 : PySem.W.keepIn K (.ref f3) = true)
    (a4 : PySem.W.nsIn K mainGlobals "is_table" = some (some (.ref f4))) (l4 : K.lookup f4 = some ⟨oc4, od4, .func (PySem.W.fnOf "is_table" "is_table" (defArgs s_is_table) (defBody s_is_table) (defScope s_is_table) .none kV4 dc4 pm4 an4 cd4 ct4), sl4⟩) (c4 : PySem.W.codeIn K cd4 "is_table" = true) (k4 : PySem.W.keepIn K (.ref f4) = true)
    (a5 : PySem.W.nsIn K mainGlobals "is_lane" = some (some (.ref f5))) (l5 : K.lookup f5 = some ⟨oc5, od5, .func (PySem.W.fnOf "is_lane" "is_lane" (defArgs s_is_lane) (defBody s_is_lane) (defScope s_is_lane) .none kV5 dc5 pm5 an5 cd5 ct5), sl5⟩) (c5 : PySem.W.codeIn K cd5 "is_lane" = true) (k5 : PySem.W.keepIn K (.ref f5) = true)
    (a6 : PySem.W.nsIn K mainGlobals "are_lanes" = some (some (.ref f6))) (l6 : K.lookup f6 = some ⟨oc6, od6, .func (PySem.W.fnOf "are_lanes" "are_lanes" (defArgs s_are_lanes) (defBody s_are_lanes) (defScope s_are_lanes) .none kV6 dc6 pm6 an6 cd6 ct6), sl6⟩) (c6 : PySem.W.codeIn K cd6 "are_lanes" = true) (k6 : PySem.W.keepIn K (.ref f6) = true)
    (a7 : PySem.W.nsIn K mainGlobals "check_room" = some (some (.ref f7))) (l7 : K.lookup f7 = some ⟨oc7, od7, .func (PySem.W.fnOf "check_room" "check_room" (defArgs s_check_room) (defBody s_check_room) (defScope s_check_room) .none kV7 dc7 pm7 an7 cd7 ct7), sl7⟩) (c7 : PySem.W.codeIn K cd7 "check_room" = true) (k7 : PySem.W.keepIn K (.ref f7) = true)
    (a8 : PySem.W.nsIn K mainGlobals "check_table" = some (some (.ref f8))) (l8 : K.lookup f8 = some ⟨oc8, od8, .func (PySem.W.fnOf "check_table" "check_table" (defArgs s_check_table) (defBody s_check_table) (defScope s_check_table) .none kV8 dc8 pm8 an8 cd8 ct8), sl8⟩) (c8 : PySem.W.codeIn K cd8 "check_table" = true) (k8 : PySem.W.keepIn K (.ref f8) = true)
    (a9 : PySem.W.nsIn K mainGlobals "lanes_of" = some (some (.ref f9))) (l9 : K.lookup f9 = some ⟨oc9, od9, .func (PySem.W.fnOf "lanes_of" "lanes_of" (defArgs s_lanes_of) (defBody s_lanes_of) (defScope s_lanes_of) .none kV9 dc9 pm9 an9 cd9 ct9), sl9⟩) (c9 : PySem.W.codeIn K cd9 "lanes_of" = true) (k9 : PySem.W.keepIn K (.ref f9) = true)
    (a10 : PySem.W.nsIn K mainGlobals "table_of" = some (some (.ref f10))) (l10 : K.lookup f10 = some ⟨oc10, od10, .func (PySem.W.fnOf "table_of" "table_of" (defArgs s_table_of) (defBody s_table_of) (defScope s_table_of) .none kV10 dc10 pm10 an10 cd10 ct10), sl10⟩) (c10 : PySem.W.codeIn K cd10 "table_of" = true) (k10 : PySem.W.keepIn K (.ref f10) = true)
    (a11 : PySem.W.nsIn K mainGlobals "lane_of" = some (some (.ref f11))) (l11 : K.lookup f11 = some ⟨oc11, od11, .func (PySem.W.fnOf "lane_of" "lane_of" (defArgs s_lane_of) (defBody s_lane_of) (defScope s_lane_of) .none kV11 dc11 pm11 an11 cd11 ct11), sl11⟩) (c11 : PySem.W.codeIn K cd11 "lane_of" = true) (k11 : PySem.W.keepIn K (.ref f11) = true)
    (a12 : PySem.W.nsIn K mainGlobals "row_of" = some (some (.ref f12))) (l12 : K.lookup f12 = some ⟨oc12, od12, .func (PySem.W.fnOf "row_of" "row_of" (defArgs s_row_of) (defBody s_row_of) (defScope s_row_of) .none kV12 dc12 pm12 an12 cd12 ct12), sl12⟩) (c12 : PySem.W.codeIn K cd12 "row_of" = true) (k12 : PySem.W.keepIn K (.ref f12) = true)
    (a13 : PySem.W.nsIn K mainGlobals "floor_of" = some (some (.ref f13))) (l13 : K.lookup f13 = some ⟨oc13, od13, .func (PySem.W.fnOf "floor_of" "floor_of" (defArgs s_floor_of) (defBody s_floor_of) (defScope s_floor_of) .none kV13 dc13 pm13 an13 cd13 ct13), sl13⟩) (c13 : PySem.W.codeIn K cd13 "floor_of" = true) (k13 : PySem.W.keepIn K (.ref f13) = true)
    (a14 : PySem.W.nsIn K mainGlobals "covered" = some (some (.ref f14))) (l14 : K.lookup f14 = some ⟨oc14, od14, .func (PySem.W.fnOf "covered" "covered" (defArgs s_covered) (defBody s_covered) (defScope s_covered) .none kV14 dc14 pm14 an14 cd14 ct14), sl14⟩) (c14 : PySem.W.codeIn K cd14 "covered" = true) (k14 : PySem.W.keepIn K (.ref f14) = true)
    (a15 : PySem.W.nsIn K mainGlobals "ground" = some (some (.ref f15))) (l15 : K.lookup f15 = some ⟨oc15, od15, .func (PySem.W.fnOf "ground" "ground" (defArgs s_ground) (defBody s_ground) (defScope s_ground) .none kV15 dc15 pm15 an15 cd15 ct15), sl15⟩) (c15 : PySem.W.codeIn K cd15 "ground" = true) (k15 : PySem.W.keepIn K (.ref f15) = true)
    (a16 : PySem.W.nsIn K mainGlobals "heap_of" = some (some (.ref f16))) (l16 : K.lookup f16 = some ⟨oc16, od16, .func (PySem.W.fnOf "heap_of" "heap_of" (defArgs s_heap_of) (defBody s_heap_of) (defScope s_heap_of) .none kV16 dc16 pm16 an16 cd16 ct16), sl16⟩) (c16 : PySem.W.codeIn K cd16 "heap_of" = true) (k16 : PySem.W.keepIn K (.ref f16) = true)
    (a17 : PySem.W.nsIn K mainGlobals "above" = some (some (.ref f17))) (l17 : K.lookup f17 = some ⟨oc17, od17, .func (PySem.W.fnOf "above" "above" (defArgs s_above) (defBody s_above) (defScope s_above) .none kV17 dc17 pm17 an17 cd17 ct17), sl17⟩) (c17 : PySem.W.codeIn K cd17 "above" = true) (k17 : PySem.W.keepIn K (.ref f17) = true)
    (a18 : PySem.W.nsIn K mainGlobals "all_covered" = some (some (.ref f18))) (l18 : K.lookup f18 = some ⟨oc18, od18, .func (PySem.W.fnOf "all_covered" "all_covered" (defArgs s_all_covered) (defBody s_all_covered) (defScope s_all_covered) .none kV18 dc18 pm18 an18 cd18 ct18), sl18⟩) (c18 : PySem.W.codeIn K cd18 "all_covered" = true) (k18 : PySem.W.keepIn K (.ref f18) = true)
    (a19 : PySem.W.nsIn K mainGlobals "is_tile" = some (some (.ref f19))) (l19 : K.lookup f19 = some ⟨oc19, od19, .func (PySem.W.fnOf "is_tile" "is_tile" (defArgs s_is_tile) (defBody s_is_tile) (defScope s_is_tile) .none kV19 dc19 pm19 an19 cd19 ct19), sl19⟩) (c19 : PySem.W.codeIn K cd19 "is_tile" = true) (k19 : PySem.W.keepIn K (.ref f19) = true)
    (a20 : PySem.W.nsIn K mainGlobals "is_floor" = some (some (.ref f20))) (l20 : K.lookup f20 = some ⟨oc20, od20, .func (PySem.W.fnOf "is_floor" "is_floor" (defArgs s_is_floor) (defBody s_is_floor) (defScope s_is_floor) .none kV20 dc20 pm20 an20 cd20 ct20), sl20⟩) (c20 : PySem.W.codeIn K cd20 "is_floor" = true) (k20 : PySem.W.keepIn K (.ref f20) = true)
    (a21 : PySem.W.nsIn K mainGlobals "places_apart" = some (some (.ref f21))) (l21 : K.lookup f21 = some ⟨oc21, od21, .func (PySem.W.fnOf "places_apart" "places_apart" (defArgs s_places_apart) (defBody s_places_apart) (defScope s_places_apart) .none kV21 dc21 pm21 an21 cd21 ct21), sl21⟩) (c21 : PySem.W.codeIn K cd21 "places_apart" = true) (k21 : PySem.W.keepIn K (.ref f21) = true)
    (a22 : PySem.W.nsIn K mainGlobals "tops_apart" = some (some (.ref f22))) (l22 : K.lookup f22 = some ⟨oc22, od22, .func (PySem.W.fnOf "tops_apart" "tops_apart" (defArgs s_tops_apart) (defBody s_tops_apart) (defScope s_tops_apart) .none kV22 dc22 pm22 an22 cd22 ct22), sl22⟩) (c22 : PySem.W.codeIn K cd22 "tops_apart" = true) (k22 : PySem.W.keepIn K (.ref f22) = true)
    (a23 : PySem.W.nsIn K mainGlobals "puts" = some (some (.ref f23))) (l23 : K.lookup f23 = some ⟨oc23, od23, .func (PySem.W.fnOf "puts" "puts" (defArgs s_puts) (defBody s_puts) (defScope s_puts) .none kV23 dc23 pm23 an23 cd23 ct23), sl23⟩) (c23 : PySem.W.codeIn K cd23 "puts" = true) (k23 : PySem.W.keepIn K (.ref f23) = true)
    (a24 : PySem.W.nsIn K mainGlobals "climb" = some (some (.ref f24))) (l24 : K.lookup f24 = some ⟨oc24, od24, .func (PySem.W.fnOf "climb" "climb" (defArgs s_climb) (defBody s_climb) (defScope s_climb) .none kV24 dc24 pm24 an24 cd24 ct24), sl24⟩) (c24 : PySem.W.codeIn K cd24 "climb" = true) (k24 : PySem.W.keepIn K (.ref f24) = true)
    (a25 : PySem.W.nsIn K mainGlobals "after" = some (some (.ref f25))) (l25 : K.lookup f25 = some ⟨oc25, od25, .func (PySem.W.fnOf "after" "after" (defArgs s_after) (defBody s_after) (defScope s_after) .none kV25 dc25 pm25 an25 cd25 ct25), sl25⟩) (c25 : PySem.W.codeIn K cd25 "after" = true) (k25 : PySem.W.keepIn K (.ref f25) = true)
    (a26 : PySem.W.nsIn K mainGlobals "ground_places" = some (some (.ref f26))) (l26 : K.lookup f26 = some ⟨oc26, od26, .func (PySem.W.fnOf "ground_places" "ground_places" (defArgs s_ground_places) (defBody s_ground_places) (defScope s_ground_places) .none kV26 dc26 pm26 an26 cd26 ct26), sl26⟩) (c26 : PySem.W.codeIn K cd26 "ground_places" = true) (k26 : PySem.W.keepIn K (.ref f26) = true)
    (a27 : PySem.W.nsIn K mainGlobals "may_put" = some (some (.ref f27))) (l27 : K.lookup f27 = some ⟨oc27, od27, .func (PySem.W.fnOf "may_put" "may_put" (defArgs s_may_put) (defBody s_may_put) (defScope s_may_put) .none kV27 dc27 pm27 an27 cd27 ct27), sl27⟩) (c27 : PySem.W.codeIn K cd27 "may_put" = true) (k27 : PySem.W.keepIn K (.ref f27) = true)
    (a28 : PySem.W.nsIn K mainGlobals "_law_of" = some (some (.ref f28))) (l28 : K.lookup f28 = some ⟨oc28, od28, .func (PySem.W.fnOf "_law_of" "_law_of" (defArgs s__law_of) (defBody s__law_of) (defScope s__law_of) .none kV28 dc28 pm28 an28 cd28 ct28), sl28⟩) (c28 : PySem.W.codeIn K cd28 "_law_of" = true) (k28 : PySem.W.keepIn K (.ref f28) = true)
    (a29 : PySem.W.nsIn K mainGlobals "_law_drawn" = some (some (.ref f29))) (l29 : K.lookup f29 = some ⟨oc29, od29, .func (PySem.W.fnOf "_law_drawn" "_law_drawn" (defArgs s__law_drawn) (defBody s__law_drawn) (defScope s__law_drawn) .none kV29 dc29 pm29 an29 cd29 ct29), sl29⟩) (c29 : PySem.W.codeIn K cd29 "_law_drawn" = true) (k29 : PySem.W.keepIn K (.ref f29) = true)
    (a30 : PySem.W.nsIn K mainGlobals "_law_room" = some (some (.ref f30))) (l30 : K.lookup f30 = some ⟨oc30, od30, .func (PySem.W.fnOf "_law_room" "_law_room" (defArgs s__law_room) (defBody s__law_room) (defScope s__law_room) .none kV30 dc30 pm30 an30 cd30 ct30), sl30⟩) (c30 : PySem.W.codeIn K cd30 "_law_room" = true) (k30 : PySem.W.keepIn K (.ref f30) = true)
    (a31 : PySem.W.nsIn K mainGlobals "_law_most" = some (some (.ref f31))) (l31 : K.lookup f31 = some ⟨oc31, od31, .func (PySem.W.fnOf "_law_most" "_law_most" (defArgs s__law_most) (defBody s__law_most) (defScope s__law_most) .none kV31 dc31 pm31 an31 cd31 ct31), sl31⟩) (c31 : PySem.W.codeIn K cd31 "_law_most" = true) (k31 : PySem.W.keepIn K (.ref f31) = true)
    (a32 : PySem.W.nsIn K mainGlobals "_law_table" = some (some (.ref f32))) (l32 : K.lookup f32 = some ⟨oc32, od32, .func (PySem.W.fnOf "_law_table" "_law_table" (defArgs s__law_table) (defBody s__law_table) (defScope s__law_table) .none kV32 dc32 pm32 an32 cd32 ct32), sl32⟩) (c32 : PySem.W.codeIn K cd32 "_law_table" = true) (k32 : PySem.W.keepIn K (.ref f32) = true)
    (a33 : PySem.W.nsIn K mainGlobals "_law_copy" = some (some (.ref f33))) (l33 : K.lookup f33 = some ⟨oc33, od33, .func (PySem.W.fnOf "_law_copy" "_law_copy" (defArgs s__law_copy) (defBody s__law_copy) (defScope s__law_copy) .none kV33 dc33 pm33 an33 cd33 ct33), sl33⟩) (c33 : PySem.W.codeIn K cd33 "_law_copy" = true) (k33 : PySem.W.keepIn K (.ref f33) = true)
    (a34 : PySem.W.nsIn K mainGlobals "_law_two" = some (some (.ref f34))) (l34 : K.lookup f34 = some ⟨oc34, od34, .func (PySem.W.fnOf "_law_two" "_law_two" (defArgs s__law_two) (defBody s__law_two) (defScope s__law_two) .none kV34 dc34 pm34 an34 cd34 ct34), sl34⟩) (c34 : PySem.W.codeIn K cd34 "_law_two" = true) (k34 : PySem.W.keepIn K (.ref f34) = true)
    (a35 : PySem.W.nsIn K mainGlobals "_law_back" = some (some (.ref f35))) (l35 : K.lookup f35 = some ⟨oc35, od35, .func (PySem.W.fnOf "_law_back" "_law_back" (defArgs s__law_back) (defBody s__law_back) (defScope s__law_back) .none kV35 dc35 pm35 an35 cd35 ct35), sl35⟩) (c35 : PySem.W.codeIn K cd35 "_law_back" = true) (k35 : PySem.W.keepIn K (.ref f35) = true)
    (a36 : PySem.W.nsIn K mainGlobals "law" = some (some (.ref f36))) (l36 : K.lookup f36 = some ⟨oc36, od36, .func (PySem.W.fnOf "law" "law" (defArgs s_law) (defBody s_law) (defScope s_law) .none kV36 dc36 pm36 an36 cd36 ct36), sl36⟩) (c36 : PySem.W.codeIn K cd36 "law" = true) (k36 : PySem.W.keepIn K (.ref f36) = true)
    {CNoRoom : Addr} (xa_NoRoom : PySem.W.nsIn K mainGlobals "NoRoom" = some (some (.ref CNoRoom))) (xq_NoRoom : PySem.W.excIn K CNoRoom [.type "ValueError", .type "Exception", .type "BaseException", .type "object"] "ValueError.__new__" = true) (xk_NoRoom : PySem.W.keepIn K (.ref CNoRoom) = true) (xb_NoRoom : PySem.W.subIn K (.ref CNoRoom) (.type "BaseException") = some true) (xt_NoRoom : PySem.W.typeIn K (.ref CNoRoom) = some (.type "type"))
    {CNoTable : Addr} (xa_NoTable : PySem.W.nsIn K mainGlobals "NoTable" = some (some (.ref CNoTable))) (xq_NoTable : PySem.W.excIn K CNoTable [.type "ValueError", .type "Exception", .type "BaseException", .type "object"] "ValueError.__new__" = true) (xk_NoTable : PySem.W.keepIn K (.ref CNoTable) = true) (xb_NoTable : PySem.W.subIn K (.ref CNoTable) (.type "BaseException") = some true) (xt_NoTable : PySem.W.typeIn K (.ref CNoTable) = some (.type "type"))
    {CNoLanes : Addr} (xa_NoLanes : PySem.W.nsIn K mainGlobals "NoLanes" = some (some (.ref CNoLanes))) (xq_NoLanes : PySem.W.excIn K CNoLanes [.type "ValueError", .type "Exception", .type "BaseException", .type "object"] "ValueError.__new__" = true) (xk_NoLanes : PySem.W.keepIn K (.ref CNoLanes) = true) (xb_NoLanes : PySem.W.subIn K (.ref CNoLanes) (.type "BaseException") = some true) (xt_NoLanes : PySem.W.typeIn K (.ref CNoLanes) = some (.type "type"))
    {CNoFloor : Addr} (xa_NoFloor : PySem.W.nsIn K mainGlobals "NoFloor" = some (some (.ref CNoFloor))) (xq_NoFloor : PySem.W.excIn K CNoFloor [.type "ValueError", .type "Exception", .type "BaseException", .type "object"] "ValueError.__new__" = true) (xk_NoFloor : PySem.W.keepIn K (.ref CNoFloor) = true) (xb_NoFloor : PySem.W.subIn K (.ref CNoFloor) (.type "BaseException") = some true) (xt_NoFloor : PySem.W.typeIn K (.ref CNoFloor) = some (.type "type"))
    {TMOST : Addr} {odMOST : Option Addr} {nMOST : Nat} {slMOST : Array (Option Value)} {kMOST0 kMOST1 kMOST2 : Tok} (ca_MOST : PySem.W.nsIn K mainGlobals "MOST" = some (some (.ref TMOST))) (cl_MOST : K.lookup TMOST = some ⟨.type "tuple", odMOST, .seq #[.int 6 kMOST0, .int 20 kMOST1, .int 20 kMOST2] nMOST, slMOST⟩)
    {TKINDS : Addr} {odKINDS : Option Addr} {nKINDS : Nat} {slKINDS : Array (Option Value)} {kKINDS0 kKINDS1 kKINDS2 : Tok} (ca_KINDS : PySem.W.nsIn K mainGlobals "KINDS" = some (some (.ref TKINDS))) (cl_KINDS : K.lookup TKINDS = some ⟨.type "tuple", odKINDS, .seq #[.str "top" kKINDS0, .str "front" kKINDS1, .str "side" kKINDS2] nKINDS, slKINDS⟩)
    (z_all : PySem.W.nsIn K mainGlobals "all" = some none)
    (z_bool : PySem.W.nsIn K mainGlobals "bool" = some none)
    (z_enumerate : PySem.W.nsIn K mainGlobals "enumerate" = some none)
    (z_int : PySem.W.nsIn K mainGlobals "int" = some none)
    (z_isinstance : PySem.W.nsIn K mainGlobals "isinstance" = some none)
    (z_len : PySem.W.nsIn K mainGlobals "len" = some none)
    (z_list : PySem.W.nsIn K mainGlobals "list" = some none)
    (z_max : PySem.W.nsIn K mainGlobals "max" = some none)
    (z_min : PySem.W.nsIn K mainGlobals "min" = some none)
    (z_range : PySem.W.nsIn K mainGlobals "range" = some none)
    (z_sorted : PySem.W.nsIn K mainGlobals "sorted" = some none)
    (z_str : PySem.W.nsIn K mainGlobals "str" = some none)
    (z_tuple : PySem.W.nsIn K mainGlobals "tuple" = some none)
    (z_zip : PySem.W.nsIn K mainGlobals "zip" = some none)
    : ∃ (A : Ad) (fd : FuncData), Txt K mg A ∧ A.a_law = fa ∧ A.d_law = fd ∧ (∀ (s : Shared) (v : Value), BindsTo s fd ⟨[v], []⟩ [("_law_script", v)]) := by
  have e := hfa.symm.trans (PySem.W.mg_of X G a36)
  cases e
  have F0 := fun_mk (st := s_is_whole) l0 c0 k0
  have b0 := F0.binds (ps := ["value"]) fun _ _ _ _ _ _ us hl => match us, hl with | [_], _ => rfl
  have F1 := fun_mk (st := s_is_room) l1 c1 k1
  have b1 := F1.binds (ps := ["room"]) fun _ _ _ _ _ _ us hl => match us, hl with | [_], _ => rfl
  have F2 := fun_mk (st := s_is_row) l2 c2 k2
  have b2 := F2.binds (ps := ["row", "columns", "height"]) fun _ _ _ _ _ _ us hl => match us, hl with | [_, _, _], _ => rfl
  have F3 := fun_mk (st := s_never_rises) l3 c3 k3
  have b3 := F3.binds (ps := ["numbers"]) fun _ _ _ _ _ _ us hl => match us, hl with | [_], _ => rfl
  have F4 := fun_mk (st := s_is_table) l4 c4 k4
  have b4 := F4.binds (ps := ["room", "table"]) fun _ _ _ _ _ _ us hl => match us, hl with | [_, _], _ => rfl
  have F5 := fun_mk (st := s_is_lane) l5 c5 k5
  have b5 := F5.binds (ps := ["lane", "rights", "downs"]) fun _ _ _ _ _ _ us hl => match us, hl with | [_, _, _], _ => rfl
  have F6 := fun_mk (st := s_are_lanes) l6 c6 k6
  have b6 := F6.binds (ps := ["room", "ends", "lanes"]) fun _ _ _ _ _ _ us hl => match us, hl with | [_, _, _], _ => rfl
  have F7 := fun_mk (st := s_check_room) l7 c7 k7
  have b7 := F7.binds (ps := ["room"]) fun _ _ _ _ _ _ us hl => match us, hl with | [_], _ => rfl
  have F8 := fun_mk (st := s_check_table) l8 c8 k8
  have b8 := F8.binds (ps := ["room", "table"]) fun _ _ _ _ _ _ us hl => match us, hl with | [_, _], _ => rfl
  have F9 := fun_mk (st := s_lanes_of) l9 c9 k9
  have b9 := F9.binds (ps := ["room", "table"]) fun _ _ _ _ _ _ us hl => match us, hl with | [_, _], _ => rfl
  have F10 := fun_mk (st := s_table_of) l10 c10 k10
  have b10 := F10.binds (ps := ["room", "lanes"]) fun _ _ _ _ _ _ us hl => match us, hl with | [_, _], _ => rfl
  have F11 := fun_mk (st := s_lane_of) l11 c11 k11
  have b11 := F11.binds (ps := ["row", "height"]) fun _ _ _ _ _ _ us hl => match us, hl with | [_, _], _ => rfl
  have F12 := fun_mk (st := s_row_of) l12 c12 k12
  have b12 := F12.binds (ps := ["lane", "height"]) fun _ _ _ _ _ _ us hl => match us, hl with | [_, _], _ => rfl
  have F13 := fun_mk (st := s_floor_of) l13 c13 k13
  have b13 := F13.binds (ps := ["room", "table"]) fun _ _ _ _ _ _ us hl => match us, hl with | [_, _], _ => rfl
  have F14 := fun_mk (st := s_covered) l14 c14 k14
  have b14 := F14.binds (ps := ["tile"]) fun _ _ _ _ _ _ us hl => match us, hl with | [_], _ => rfl
  have F15 := fun_mk (st := s_ground) l15 c15 k15
  have b15 := F15.binds (ps := ["room"]) fun _ _ _ _ _ _ us hl => match us, hl with | [_], _ => rfl
  have F16 := fun_mk (st := s_heap_of) l16 c16 k16
  have b16 := F16.binds (ps := ["room", "tiles"]) fun _ _ _ _ _ _ us hl => match us, hl with | [_, _], _ => rfl
  have F17 := fun_mk (st := s_above) l17 c17 k17
  have b17 := F17.binds (ps := ["numbers", "level"]) fun _ _ _ _ _ _ us hl => match us, hl with | [_, _], _ => rfl
  have F18 := fun_mk (st := s_all_covered) l18 c18 k18
  have b18 := F18.binds (ps := ["tiles"]) fun _ _ _ _ _ _ us hl => match us, hl with | [_], _ => rfl
  have F19 := fun_mk (st := s_is_tile) l19 c19 k19
  have b19 := F19.binds (ps := ["tile"]) fun _ _ _ _ _ _ us hl => match us, hl with | [_], _ => rfl
  have F20 := fun_mk (st := s_is_floor) l20 c20 k20
  have b20 := F20.binds (ps := ["room", "tiles"]) fun _ _ _ _ _ _ us hl => match us, hl with | [_, _], _ => rfl
  have F21 := fun_mk (st := s_places_apart) l21 c21 k21
  have b21 := F21.binds (ps := ["room", "apart"]) fun _ _ _ _ _ _ us hl => match us, hl with | [_, _], _ => rfl
  have F22 := fun_mk (st := s_tops_apart) l22 c22 k22
  have b22 := F22.binds (ps := ["tiles", "apart"]) fun _ _ _ _ _ _ us hl => match us, hl with | [_, _], _ => rfl
  have F23 := fun_mk (st := s_puts) l23 c23 k23
  have b23 := F23.binds (ps := ["room", "table"]) fun _ _ _ _ _ _ us hl => match us, hl with | [_, _], _ => rfl
  have F24 := fun_mk (st := s_climb) l24 c24 k24
  have b24 := F24.binds (ps := ["room", "table"]) fun _ _ _ _ _ _ us hl => match us, hl with | [_, _], _ => rfl
  have F25 := fun_mk (st := s_after) l25 c25 k25
  have b25 := F25.binds (ps := ["room", "table"]) fun _ _ _ _ _ _ us hl => match us, hl with | [_, _], _ => rfl
  have F26 := fun_mk (st := s_ground_places) l26 c26 k26
  have b26 := F26.binds (ps := ["room"]) fun _ _ _ _ _ _ us hl => match us, hl with | [_], _ => rfl
  have F27 := fun_mk (st := s_may_put) l27 c27 k27
  have b27 := F27.binds (ps := ["room", "table", "place"]) fun _ _ _ _ _ _ us hl => match us, hl with | [_, _, _], _ => rfl
  have F28 := fun_mk (st := s__law_of) l28 c28 k28
  have b28 := F28.binds (ps := ["_law_script", "_law_k"]) fun _ _ _ _ _ _ us hl => match us, hl with | [_, _], _ => rfl
  have F29 := fun_mk (st := s__law_drawn) l29 c29 k29
  have b29 := F29.binds (ps := ["_law_script", "_law_k"]) fun _ _ _ _ _ _ us hl => match us, hl with | [_, _], _ => rfl
  have F30 := fun_mk (st := s__law_room) l30 c30 k30
  have b30 := F30.binds (ps := ["_law_cell"]) fun _ _ _ _ _ _ us hl => match us, hl with | [_], _ => rfl
  have F31 := fun_mk (st := s__law_most) l31 c31 k31
  have b31 := F31.binds (ps := ["_law_table_here", "_law_room_here", "_law_i", "_law_j"]) fun _ _ _ _ _ _ us hl => match us, hl with | [_, _, _, _], _ => rfl
  have F32 := fun_mk (st := s__law_table) l32 c32 k32
  have b32 := F32.binds (ps := ["_law_script", "_law_start", "_law_room_here"]) fun _ _ _ _ _ _ us hl => match us, hl with | [_, _, _], _ => rfl
  have F33 := fun_mk (st := s__law_copy) l33 c33 k33
  have b33 := F33.binds (ps := ["_law_table_here"]) fun _ _ _ _ _ _ us hl => match us, hl with | [_], _ => rfl
  have F34 := fun_mk (st := s__law_two) l34 c34 k34
  have b34 := F34.binds (ps := ["_law_script", "_law_room_here"]) fun _ _ _ _ _ _ us hl => match us, hl with | [_, _], _ => rfl
  have F35 := fun_mk (st := s__law_back) l35 c35 k35
  have b35 := F35.binds (ps := ["_law_room_here", "_law_table_here"]) fun _ _ _ _ _ _ us hl => match us, hl with | [_, _], _ => rfl
  have F36 := fun_mk (st := s_law) l36 c36 k36
  have b36 := F36.binds (ps := ["_law_script"]) fun _ _ _ _ _ _ us hl => match us, hl with | [_], _ => rfl
  refine ⟨{ a_is_whole := f0, d_is_whole := _, a_is_room := f1, d_is_room := _, a_is_row := f2, d_is_row := _, a_never_rises := f3, d_never_rises := _, a_is_table := f4, d_is_table := _, a_is_lane := f5, d_is_lane := _, a_are_lanes := f6, d_are_lanes := _, a_check_room := f7, d_check_room := _, a_check_table := f8, d_check_table := _, a_lanes_of := f9, d_lanes_of := _, a_table_of := f10, d_table_of := _, a_lane_of := f11, d_lane_of := _, a_row_of := f12, d_row_of := _, a_floor_of := f13, d_floor_of := _, a_covered := f14, d_covered := _, a_ground := f15, d_ground := _, a_heap_of := f16, d_heap_of := _, a_above := f17, d_above := _, a_all_covered := f18, d_all_covered := _, a_is_tile := f19, d_is_tile := _, a_is_floor := f20, d_is_floor := _, a_places_apart := f21, d_places_apart := _, a_tops_apart := f22, d_tops_apart := _, a_puts := f23, d_puts := _, a_climb := f24, d_climb := _, a_after := f25, d_after := _, a_ground_places := f26, d_ground_places := _, a_may_put := f27, d_may_put := _, a__law_of := f28, d__law_of := _, a__law_drawn := f29, d__law_drawn := _, a__law_room := f30, d__law_room := _, a__law_most := f31, d__law_most := _, a__law_table := f32, d__law_table := _, a__law_copy := f33, d__law_copy := _, a__law_two := f34, d__law_two := _, a__law_back := f35, d__law_back := _, a_law := fa, d_law := _, c_NoRoom := CNoRoom, c_NoTable := CNoTable, c_NoLanes := CNoLanes, c_NoFloor := CNoFloor, t_MOST := TMOST, t_KINDS := TKINDS }, _, { is_whole := ⟨F0, b0, PySem.W.mg_of X G a0⟩, is_room := ⟨F1, b1, PySem.W.mg_of X G a1⟩, is_row := ⟨F2, b2, PySem.W.mg_of X G a2⟩, never_rises := ⟨F3, b3, PySem.W.mg_of X G a3⟩, is_table := ⟨F4, b4, PySem.W.mg_of X G a4⟩, is_lane := ⟨F5, b5, PySem.W.mg_of X G a5⟩, are_lanes := ⟨F6, b6, PySem.W.mg_of X G a6⟩, check_room := ⟨F7, b7, PySem.W.mg_of X G a7⟩, check_table := ⟨F8, b8, PySem.W.mg_of X G a8⟩, lanes_of := ⟨F9, b9, PySem.W.mg_of X G a9⟩, table_of := ⟨F10, b10, PySem.W.mg_of X G a10⟩, lane_of := ⟨F11, b11, PySem.W.mg_of X G a11⟩, row_of := ⟨F12, b12, PySem.W.mg_of X G a12⟩, floor_of := ⟨F13, b13, PySem.W.mg_of X G a13⟩, covered := ⟨F14, b14, PySem.W.mg_of X G a14⟩, ground := ⟨F15, b15, PySem.W.mg_of X G a15⟩, heap_of := ⟨F16, b16, PySem.W.mg_of X G a16⟩, above := ⟨F17, b17, PySem.W.mg_of X G a17⟩, all_covered := ⟨F18, b18, PySem.W.mg_of X G a18⟩, is_tile := ⟨F19, b19, PySem.W.mg_of X G a19⟩, is_floor := ⟨F20, b20, PySem.W.mg_of X G a20⟩, places_apart := ⟨F21, b21, PySem.W.mg_of X G a21⟩, tops_apart := ⟨F22, b22, PySem.W.mg_of X G a22⟩, puts := ⟨F23, b23, PySem.W.mg_of X G a23⟩, climb := ⟨F24, b24, PySem.W.mg_of X G a24⟩, after := ⟨F25, b25, PySem.W.mg_of X G a25⟩, ground_places := ⟨F26, b26, PySem.W.mg_of X G a26⟩, may_put := ⟨F27, b27, PySem.W.mg_of X G a27⟩, _law_of := ⟨F28, b28, PySem.W.mg_of X G a28⟩, _law_drawn := ⟨F29, b29, PySem.W.mg_of X G a29⟩, _law_room := ⟨F30, b30, PySem.W.mg_of X G a30⟩, _law_most := ⟨F31, b31, PySem.W.mg_of X G a31⟩, _law_table := ⟨F32, b32, PySem.W.mg_of X G a32⟩, _law_copy := ⟨F33, b33, PySem.W.mg_of X G a33⟩, _law_two := ⟨F34, b34, PySem.W.mg_of X G a34⟩, _law_back := ⟨F35, b35, PySem.W.mg_of X G a35⟩, law := ⟨F36, b36, PySem.W.mg_of X G a36⟩, z_all := PySem.W.mg_none_of X G z_all, z_bool := PySem.W.mg_none_of X G z_bool, z_enumerate := PySem.W.mg_none_of X G z_enumerate, z_int := PySem.W.mg_none_of X G z_int, z_isinstance := PySem.W.mg_none_of X G z_isinstance, z_len := PySem.W.mg_none_of X G z_len, z_list := PySem.W.mg_none_of X G z_list, z_max := PySem.W.mg_none_of X G z_max, z_min := PySem.W.mg_none_of X G z_min, z_range := PySem.W.mg_none_of X G z_range, z_sorted := PySem.W.mg_none_of X G z_sorted, z_str := PySem.W.mg_none_of X G z_str, z_tuple := PySem.W.mg_none_of X G z_tuple, z_zip := PySem.W.mg_none_of X G z_zip, e_NoRoom := ⟨PySem.W.mg_of X G xa_NoRoom, xq_NoRoom, xk_NoRoom, xb_NoRoom, xt_NoRoom⟩, e_NoTable := ⟨PySem.W.mg_of X G xa_NoTable, xq_NoTable, xk_NoTable, xb_NoTable, xt_NoTable⟩, e_NoLanes := ⟨PySem.W.mg_of X G xa_NoLanes, xq_NoLanes, xk_NoLanes, xb_NoLanes, xt_NoLanes⟩, e_NoFloor := ⟨PySem.W.mg_of X G xa_NoFloor, xq_NoFloor, xk_NoFloor, xb_NoFloor, xt_NoFloor⟩, g_MOST := PySem.W.mg_of X G ca_MOST, s_MOST := fun H => .inr ⟨_, _, _, cl_MOST, rfl, rfl, by show 3 ≤ sizeLine; decide, .cons ⟨_, rfl⟩ (.cons ⟨_, rfl⟩ (.cons ⟨_, rfl⟩ .nil))⟩, g_KINDS := PySem.W.mg_of X G ca_KINDS, s_KINDS := fun H => .inr ⟨_, _, _, cl_KINDS, rfl, rfl, by show 3 ≤ sizeLine; decide, .cons ⟨_, rfl⟩ (.cons ⟨_, rfl⟩ (.cons ⟨_, rfl⟩ .nil))⟩ }, rfl, rfl, fun s v => .of_eq rfl⟩
--END
end
end My

set_option Elab.async false
set_option linter.all false
set_option maxRecDepth 100000
set_option maxHeartbeats 4000000
namespace My
open PySem PySem.Spec PyProof.Rows L2 DL
variable {A : Ad}
local macro_rules | `(tactic| walk_at "ev") => `(tactic| simp (config := { decide := true }) [runF, env0, outF, mRet, mRetV, mAndV, mOrV, mTst, mIsi, mVar, mNotV, R.data, R.tree, R.slot, R.fixed, D.ty, isTy, imm, immL, mSeq, mIfS, mOr, mNot, mAnd, mOp, mCB, gLen, gMin, gMax, mCons, mNil, mC, fNe, fEq, fSub, fDiv, fMod, fAdd, fMul, fLt, fLe, fGt, fGe, flat2, gI, gIC, fIx, mNext, mSet, mIf, mCall, retR, mNeg, mCh, mLst, mTup, trees, S.data, S.dataL])
theorem is_whole_int (i : Int) : g_is_whole A [.int i] = some (.ret (.d (.bl true))) := by
  simp only [g_is_whole, m_is_whole]
  walk_at "ev"
theorem is_room_ok {r c h : Int} (h1 : 1 ≤ r ∧ r ≤ 6) (h2 : 1 ≤ c ∧ c ≤ 20) (h3 : 1 ≤ h ∧ h ≤ 20) : g_is_room A [.tup [.int r, .int c, .int h]] = some (.ret (.d (.bl true))) := by
  simp only [g_is_room, m_is_room]
  walk_at "ev"
  simp [mLc, mZip, pairs, gather, lcTurn, mgTup, setE, itR, isDead, mYes, is_whole_int, mCh, mVar, mC, mCons, mNil, R.data, R.fixed, R.slot, mAndV, mTst, mCall, retR, nrm, lcRes, noVw, trees, R.tree, imm, gAll, S.data, S.dataL, bls?, h1, h2, h3]
theorem all_true_d {ds : List S} (h : ∀ d ∈ ds, d = .d (.bl true)) : gAll [.lst (S.dataL ds)] = some (.sh (.bl true)) := by
  have e : S.dataL ds = (ds.map fun _ => true).map D.bl := by
    rw [S.dataL_map, List.map_map]
    apply List.map_congr_left
    intro d m; rw [h d m]; rfl
  unfold gAll
  simp only [e, bls?_map, Option.map_some]
  congr 2
  rw [List.all_eq_true.mpr]
  intro x m
  obtain ⟨_, _, rfl⟩ := List.mem_map.mp m
  rfl
theorem is_row_ok {ns : List Int} {c h : Int} (hl : (ns.length : Int) = c) (hc : ns.length ≤ 100000) (hn : ∀ n ∈ ns, 0 ≤ n ∧ n ≤ h) : g_is_row A [dRow ns, .int c, .int h] = some (.ret (.d (.bl true))) := by
  simp only [g_is_row, m_is_row, dRow]
  walk_at "ev"
  simp only [hl]
  walk_at "ev"
  rw [mLc_eval (s := true) (items := ns.map .int) (fun _ => true) (fun _ => .sh (.bl true)) (fun _ => .d (.bl true))]
  · simp only [List.map_cons, List.map_nil, R.data, S.data]
    rw [all_true_d]
    · simp [R.tree, imm]
    · intro d m
      obtain ⟨_, _, rfl⟩ := List.mem_map.mp m
      rfl
  · simp [mIL, mVar, R.data, R.fixed]
  · simpa using hc
  · simp [isDead]
  · intro d m
    obtain ⟨n, hm, rfl⟩ := List.mem_map.mp m
    have := hn n hm
    refine ⟨_, rfl, rfl, fun _ => ⟨?_, rfl⟩⟩
    simp [mgName, itR, mAndV, mTst, mCall, mCons, mNil, mVar, R.slot, R.data, is_whole_int, retR, mCh, mC, this]
/-- no number rises -/
def nr (ns : List Int) : Prop := ∀ (i : Nat) (x y : Int), ns[i]? = some x → ns[i + 1]? = some y → y ≤ x
theorem pairs_mem {ds es : List D} {d : D} (h : d ∈ pairs ds es) : ∃ (i : Nat) (x y : D), ds[i]? = some x ∧ es[i]? = some y ∧ d = .tup [x, y] := by
  obtain ⟨i, hi⟩ := List.getElem?_of_mem h
  obtain ⟨x, y, h1, h2, h3⟩ := pairs_at hi
  exact ⟨i, x, y, h1, h2, h3⟩
theorem cut1 {α : Type} (xs : List α) : cut xs (some 1) none = xs.drop 1 := by
  unfold cut
  rw [show HT.sIx xs.length 0 (some 1) = min 1 xs.length from HT.sIx_nat xs.length 0 1, HT.sIx_none]
  cases xs with
  | nil => rfl
  | cons x r =>
    rw [show min 1 (x :: r).length = 1 by rw [List.length_cons]; omega]
    show (List.take ((x :: r).length - 1) r) = r
    rw [List.length_cons, Nat.add_sub_cancel]
    exact List.take_length
theorem nr_turn {ns : List Int} (h : nr ns) {d : D} (m : d ∈ pairs (ns.map .int) ((ns.drop 1).map .int)) : ∃ x y : Int, d = .tup [.int x, .int y] ∧ y ≤ x := by
  obtain ⟨i, x, y, h1, h2, rfl⟩ := pairs_mem m
  rw [List.getElem?_map, Option.map_eq_some_iff] at h1 h2
  obtain ⟨a, e1, rfl⟩ := h1
  obtain ⟨b, e2, rfl⟩ := h2
  rw [List.getElem?_drop, Nat.add_comm] at e2
  exact ⟨a, b, rfl, h i a b e1 e2⟩
theorem pairs_len {ds es : List D} : (pairs ds es).length ≤ ds.length := by unfold pairs; simp; omega
theorem never_rises_lst {ns : List Int} (hc : ns.length ≤ 100000) (h : nr ns) : g_never_rises A [dRow ns] = some (.ret (.d (.bl true))) := by
  simp only [g_never_rises, m_never_rises, dRow]
  walk_at "ev"
  rw [mLc_eval (s := true) (items := pairs (ns.map .int) ((ns.drop 1).map .int)) (fun _ => true) (fun _ => .sh (.bl true)) (fun _ => .d (.bl true))]
  · simp only [List.map_cons, List.map_nil, R.data, S.data]
    rw [all_true_d]
    · simp [R.tree, imm]
    · intro d m
      obtain ⟨_, _, rfl⟩ := List.mem_map.mp m
      rfl
  · simp [mZip, mCons, mNil, mVar, mSl, mPart, mNoPart, mC, R.data, fSl, newL]
    have : cut (ns.map D.int) (some 1) none = (ns.drop 1).map .int := by rw [cut1, List.map_drop]
    rw [this, if_pos (imm_ints _)]
    simp [R.data, S.data, dataL_d, R.fixed]
    have e2 : (List.map (S.d ∘ D.int) ns).tail = ((ns.drop 1).map D.int).map S.d := by cases ns <;> simp [Function.comp_def]
    rw [e2, dataL_d]
    cases ns <;> simp
  · exact Nat.le_trans pairs_len (by simpa using hc)
  · simp [isDead]
  · intro d m
    obtain ⟨x, y, rfl, hxy⟩ := nr_turn h m
    refine ⟨_, rfl, rfl, fun _ => ⟨?_, rfl⟩⟩
    simp [setE, itR, mOp, mVar, R.slot, R.data, fLe, flat2, gI, hxy]
theorem never_rises_tup {ns : List Int} (hc : ns.length ≤ 100000) (h0 : 0 < ns.length) (h : nr ns) : g_never_rises A [.tup (ns.map .int)] = some (.ret (.d (.bl true))) := by
  simp only [g_never_rises, m_never_rises]
  walk_at "ev"
  rw [mLc_eval (s := true) (items := pairs (ns.map .int) ((ns.drop 1).map .int)) (fun _ => true) (fun _ => .sh (.bl true)) (fun _ => .d (.bl true))]
  · simp only [List.map_cons, List.map_nil, R.data, S.data]
    rw [all_true_d]
    · simp [R.tree, imm]
    · intro d m
      obtain ⟨_, _, rfl⟩ := List.mem_map.mp m
      rfl
  · have e1 : fSl (.tup (ns.map D.int)) (some 1) none = some (.sh (.tup ((ns.drop 1).map .int))) := by
      show (if HT.sIx (ns.map D.int).length 0 (some 1) = 0 ∧ HT.sIx (ns.map D.int).length (ns.map D.int).length none = (ns.map D.int).length then none else (if immL (cut (ns.map D.int) (some 1) none) = true then some (R.sh (.tup (cut (ns.map D.int) (some 1) none))) else none)) = _
      rw [if_neg, cut1, ← List.map_drop, if_pos (imm_ints _)]
      rintro ⟨z, _⟩
      rw [show HT.sIx (ns.map D.int).length 0 (some 1) = min 1 (ns.map D.int).length from HT.sIx_nat _ 0 1, List.length_map] at z
      omega
    simp [mZip, mCons, mNil, mVar, mSl, mPart, mNoPart, mC, R.data, e1, R.fixed]
  · exact Nat.le_trans pairs_len (by simpa using hc)
  · simp [isDead]
  · intro d m
    obtain ⟨x, y, rfl, hxy⟩ := nr_turn h m
    refine ⟨_, rfl, rfl, fun _ => ⟨?_, rfl⟩⟩
    simp [setE, itR, mOp, mVar, R.slot, R.data, fLe, flat2, gI, hxy]
def at2 (t : List (List Int)) (i j : Nat) : Int := (t.getD i []).getD j 0
/-- a table of the room -/
structure Tab (r c h : Nat) (t : List (List Int)) : Prop where
  len : t.length = r
  row : ∀ x ∈ t, x.length = c
  lo : ∀ x ∈ t, ∀ n ∈ x, 0 ≤ n ∧ n ≤ (h : Int)
  nrr : ∀ x ∈ t, nr x
  nrc : ∀ j, j < c → nr (t.map fun x => x.getD j 0)
structure Rm (r c h : Nat) : Prop where
  r : 1 ≤ r ∧ r ≤ 6
  c : 1 ≤ c ∧ c ≤ 20
  h : 1 ≤ h ∧ h ≤ 20
def dRoom (r c h : Nat) : D := .tup [.int r, .int c, .int h]
theorem cols_mem {t : List (List Int)} {c : Nat} (hc : ∀ x ∈ t, x.length = c) {d : D} (m : d ∈ colsD (t.map fun x => x.map D.int) c) : ∃ j, j < c ∧ d = .tup ((t.map fun x => x.getD j 0).map .int) := by
  unfold colsD at m
  obtain ⟨j, hj, rfl⟩ := List.mem_map.mp m
  rw [List.mem_range] at hj
  refine ⟨j, hj, ?_⟩
  congr 1
  rw [List.map_map, List.map_map]
  apply List.map_congr_left
  intro x hx
  have hl : j < x.length := by rw [hc x hx]; exact hj
  simp [hl]
theorem is_table_ok {r c h : Nat} {t : List (List Int)} (M : Rm r c h) (T : Tab r c h t) : g_is_table A [dRoom r c h, dTab t] = some (.ret (.d (.bl true))) := by
  have hr := M.r; have hc := M.c; have hh := M.h
  have c1 : ∀ x ∈ t, g_is_row A [dRow x, .int c, .int h] = some (.ret (.d (.bl true))) := fun x m => is_row_ok (by rw [T.row x m]) (by rw [T.row x m]; omega) (T.lo x m)
  have c2 : ∀ x ∈ t, g_never_rises A [dRow x] = some (.ret (.d (.bl true))) := fun x m => never_rises_lst (by rw [T.row x m]; omega) (T.nrr x m)
  simp only [g_is_table, m_is_table, dRoom, dTab]
  have hlen := T.len
  have ev1 : ∀ ρ : DL.Env, ρ[1]? = some (.sh (.lst (t.map dRow))) → mIL (mVar 1) ρ = some (true, t.map dRow) := fun ρ e => by simp [mIL, mVar, e, R.data, R.fixed]
  simp (config := { decide := true }) [runF, env0, outF, mSeq, mSetT, mVar, mgTup, setE, itR, R.fixed, R.data, R.slot, mIfS, mOr, mNot, mTst, mIsi, D.ty, isTy, mOp, fNe, flat2, mCB, gLen, mCons, mNil, hlen, mNext]
  have e1 : mLc (mIL (mVar 1)) (mgName 5) mYes (mCall 3 (g_is_row A) (mCons (mVar 5) (mCons (mVar 3) (mCons (mVar 4) mNil)))) [5] [.sh (.tup [.int r, .int c, .int h]), .sh (.lst (t.map dRow)), .sh (.int r), .sh (.int c), .sh (.int h), .dead, .dead] = some (.tr (.own (((t.map dRow).filter fun _ => true).map fun _ => .d (.bl true)))) := by
    refine mLc_eval (s := true) (items := t.map dRow) (fun _ => true) (fun _ => .sh (.bl true)) (fun _ => .d (.bl true)) (ev1 _ rfl) (by simp; omega) rfl fun d m => ?_
    obtain ⟨x, hx, rfl⟩ := List.mem_map.mp m
    refine ⟨_, rfl, rfl, fun _ => ⟨?_, rfl⟩⟩
    simp [mgName, itR, setE, mCall, mCons, mNil, mVar, R.slot, R.data, c1 x hx, retR]
  have e2 : mLc (mIL (mVar 1)) (mgName 5) mYes (mCall 1 (g_never_rises A) (mCons (mVar 5) mNil)) [5] [.sh (.tup [.int r, .int c, .int h]), .sh (.lst (t.map dRow)), .sh (.int r), .sh (.int c), .sh (.int h), .dead, .dead] = some (.tr (.own (((t.map dRow).filter fun _ => true).map fun _ => .d (.bl true)))) := by
    refine mLc_eval (s := true) (items := t.map dRow) (fun _ => true) (fun _ => .sh (.bl true)) (fun _ => .d (.bl true)) (ev1 _ rfl) (by simp; omega) rfl fun d m => ?_
    obtain ⟨x, hx, rfl⟩ := List.mem_map.mp m
    refine ⟨_, rfl, rfl, fun _ => ⟨?_, rfl⟩⟩
    simp [mgName, itR, setE, mCall, mCons, mNil, mVar, R.slot, R.data, c2 x hx, retR]
  have e3 : mLc (mZipN (mVar 1)) (mgName 6) mYes (mCall 1 (g_never_rises A) (mCons (mVar 6) mNil)) [6] [.sh (.tup [.int r, .int c, .int h]), .sh (.lst (t.map dRow)), .sh (.int r), .sh (.int c), .sh (.int h), .dead, .dead] = some (.tr (.own (((colsD (t.map fun x => x.map D.int) c).filter fun _ => true).map fun _ => .d (.bl true)))) := by
    refine mLc_eval (s := true) (items := colsD (t.map fun x => x.map D.int) c) (fun _ => true) (fun _ => .sh (.bl true)) (fun _ => .d (.bl true)) ?_ (by unfold colsD; simp; omega) ?hd fun d m => ?_
    case hd => rfl
    · have hrows : rows? (t.map dRow) = some (t.map fun x => x.map D.int) := by
        have : t.map dRow = (t.map fun x => x.map D.int).map D.lst := by rw [List.map_map]; rfl
        rw [this, rows?_map]
      cases t with
      | nil => simp at hlen; omega
      | cons x0 xs =>
        have hx0 := T.row x0 List.mem_cons_self
        have hv : mVar 1 [.sh (.tup [.int r, .int c, .int h]), .sh (.lst ((x0 :: xs).map dRow)), .sh (.int r), .sh (.int c), .sh (.int h), .dead, .dead] = some (.sh (.lst ((x0 :: xs).map dRow))) := rfl
        unfold mZipN
        rw [hv]
        simp only [R.data, hrows]
        rw [List.map_cons]
        simp only []
        rw [if_pos]
        · rw [List.length_map, hx0]; rfl
        · refine ⟨by rw [List.length_map]; simp at hlen; omega, List.all_eq_true.mpr fun y hy => ?_⟩
          obtain ⟨z, hz, rfl⟩ := List.mem_map.mp hy
          rw [List.length_map, List.length_map, hx0, T.row z (List.mem_cons_of_mem _ hz)]
          simp
    · obtain ⟨j, hj, rfl⟩ := cols_mem T.row m
      refine ⟨_, rfl, rfl, fun _ => ⟨?_, rfl⟩⟩
      have := never_rises_tup (A := A) (ns := t.map fun x => x.getD j 0) (by rw [List.length_map]; omega) (by rw [List.length_map]; omega) (T.nrc j hj)
      generalize D.tup ((t.map fun x => x.getD j 0).map .int) = q at this ⊢
      simp [mgName, itR, setE, mCall, mCons, mNil, mVar, R.slot, R.data, this, retR]
  have q1 : ∀ xs : List D, gAll [.lst (S.dataL ((xs.filter fun _ => true).map fun _ => .d (.bl true)))] = some (.sh (.bl true)) := fun xs => all_true_d fun d m => by
    obtain ⟨_, _, rfl⟩ := List.mem_map.mp m
    rfl
  simp only [e1, e2, e3, R.data, List.map_cons, List.map_nil, S.data, q1]
  simp [mRet, mCB, mC, mCons, mNil, e2, e3, R.data, q1, R.tree, imm, S.data]
end My

set_option Elab.async false
set_option linter.all false
set_option maxRecDepth 100000
set_option maxHeartbeats 4000000
namespace My
open PySem PySem.Spec PyProof.Rows L2 DL
variable {A : Ad}
local macro_rules | `(tactic| walk_at "ev") => `(tactic| simp (config := { decide := true }) [runF, env0, outF, mRet, mRetV, mAndV, mOrV, mTst, mIsi, mVar, mNotV, R.data, R.tree, R.slot, R.fixed, D.ty, isTy, imm, immL, mSeq, mIfS, mOr, mNot, mAnd, mOp, mCB, gLen, gMin, gMax, mCons, mNil, mC, fNe, fEq, fSub, fDiv, fMod, fAdd, fMul, fLt, fLe, fGt, fGe, flat2, gI, gIC, fIx, mNext, mSet, mIf, mCall, retR, mNeg, mCh, mLst, mTup, trees, S.data, S.dataL])
theorem cut01 (ns : List Int) : cut ns (some 0) (some 1) = ns.take 1 := by
  unfold cut
  rw [show HT.sIx ns.length 0 (some 0) = min 0 ns.length from HT.sIx_nat ns.length 0 0, show HT.sIx ns.length ns.length (some 1) = min 1 ns.length from HT.sIx_nat ns.length ns.length 1]
  cases ns with
  | nil => rfl
  | cons x r => simp
theorem data_ints (ns : List Int) : S.dataL (ns.map fun n => S.d (.int n)) = ns.map .int := by
  rw [show (ns.map fun n => S.d (.int n)) = (ns.map D.int).map S.d by rw [List.map_map]; rfl, dataL_d]
theorem fIx_sh {ds : List D} {i : Nat} {d : D} (e : ds[i]? = some d) : fIx (.sh (.lst ds)) (.sh (.int i)) = some (.sh d) := by simp [fIx, R.data, atI_nat e]
theorem fIx_vw {ds : List D} {i : Nat} {d : D} (e : ds[i]? = some d) : fIx (.vw (.lst ds)) (.sh (.int i)) = some (.vw d) := by simp [fIx, R.data, atI_nat e]
theorem fIx_tr {s : S} {ds : List D} {i : Nat} {d : D} (h : s.data = .lst ds) (e : ds[i]? = some d) : fIx (.tr s) (.sh (.int i)) = some (.vw d) := by simp [fIx, R.data, atI_nat e, h]
theorem mOp_eq {f : R → R → Option R} {ma mb : ME} {ρ : DL.Env} {x y z : R} (h1 : ma ρ = some x) (h2 : mb ρ = some y) (h3 : f x y = some z) : mOp f ma mb ρ = some z := by
  unfold mOp; rw [h1, h2]; exact h3
theorem law_of_ok (ns : List Int) : g__law_of A [.scr ns, .int 0] = some (.ret (.d (.int (ns.headD 0)))) := by
  have e1 : newL ((cut ns (some 0) (some 1)).map D.int) = .tr (.own ((ns.take 1).map fun n => .d (.int n))) := by
    rw [cut01]
    unfold newL
    rw [if_pos (imm_ints _), List.map_map]; rfl
  have e3 : fIx (newL (List.map D.int (List.take 1 ns) ++ [D.int 0])) (.sh (.int (0 : Nat))) = some (.vw (.int (ns.headD 0))) := by
    have e4 : List.map D.int (List.take 1 ns) ++ [D.int 0] = (List.take 1 ns ++ [0]).map D.int := by simp
    rw [e4]
    unfold newL
    rw [if_pos (imm_ints _), List.map_map, show (S.d ∘ D.int) = fun n => S.d (.int n) from rfl]
    refine fIx_tr (ds := (List.take 1 ns ++ [0]).map D.int) (congrArg D.lst (data_ints _)) ?_
    cases ns <;> rfl
  have e5 : fIx (newL (List.map D.int (List.take 1 ns) ++ [D.int 0])) (.sh (.int 0)) = some (.vw (.int (ns.headD 0))) := e3
  have e6 : mOp fAdd (mSl (mVar 0) (mPart (mVar 1)) (mPart (mOp fAdd (mVar 1) (mC (.int 1))))) (mLst (mCons (mC (.int 0)) mNil)) [.sh (.scr ns), .sh (.int 0)] = some (newL (List.map D.int (List.take 1 ns) ++ [D.int 0])) := by
    refine mOp_eq (x := .tr (.own ((ns.take 1).map fun n => .d (.int n)))) (y := .tr (.own [.d (.int 0)])) ?_ rfl ?_
    · simp only [mSl, mPart, mVar, mOp, mC, fAdd, flat2, gI, fSl, R.data, S.data, List.getElem?_cons_zero, List.getElem?_cons_succ, Int.zero_add, e1]
    · simp only [fAdd, R.data, S.data, data_ints, S.dataL]
      rw [if_pos (by simp; omega)]
  have e7 : mOp fIx (mOp fAdd (mSl (mVar 0) (mPart (mVar 1)) (mPart (mOp fAdd (mVar 1) (mC (.int 1))))) (mLst (mCons (mC (.int 0)) mNil))) (mC (.int 0)) [.sh (.scr ns), .sh (.int 0)] = some (.vw (.int (ns.headD 0))) := mOp_eq e6 rfl e5
  simp only [g__law_of, m__law_of]
  simp [runF, env0, outF, mRet, e7, R.tree, imm]
theorem fMod_ok {r q : R} {i j : Int} (h1 : r.data = .int i) (h2 : q.data = .int j) (h : 0 < j) : fMod r q = some (.sh (.int (i % j))) := by simp [fMod, flat2, h1, h2, gIC, gI, h]
theorem fDiv_ok {r q : R} {i j : Int} (h1 : r.data = .int i) (h2 : q.data = .int j) (h : CDiv i j) : fDiv r q = some (.sh (.int (i / j))) := by simp [fDiv, flat2, h1, h2, gIC, gI, h]
theorem fMul_ok {r q : R} {i j : Int} (h1 : r.data = .int i) (h2 : q.data = .int j) (h : CMul i j) : fMul r q = some (.sh (.int (i * j))) := by simp [fMul, flat2, h1, h2, gIC, gI, h]
theorem fAdd_ok {r q : R} {i j : Int} (h1 : r.data = .int i) (h2 : q.data = .int j) : fAdd r q = some (.sh (.int (i + j))) := by simp [fAdd, flat2, h1, h2, gIC, gI]
theorem fSub_ok {r q : R} {i j : Int} (h1 : r.data = .int i) (h2 : q.data = .int j) : fSub r q = some (.sh (.int (i - j))) := by simp [fSub, flat2, h1, h2, gIC, gI]
theorem run2 {n : Nat} {ds : List D} {a b : MS} {ρ : DL.Env} {s : S} (h1 : a (env0 n ds) = some (.nx ρ)) (h2 : b ρ = some (.rt s)) : runF n (mSeq a b) ds = some (.ret s) := by
  unfold runF mSeq; rw [h1]; simp only [h2]; rfl
theorem mRet_d {m : ME} {ρ : DL.Env} {d : D} (h : m ρ = some (.sh d)) (hi : imm d = true) : mRet m ρ = some (.rt (.d d)) := by
  simp [mRet, h, R.tree, hi]
theorem drawn_aux (ns : List Int) (hl : ns.length ≤ 63) (k : Nat) (hk : k < 1000000) (M : Int) (hM : 0 < M) : ∃ v, runF N__law_drawn.length (mSeq (mIfS (mTst (mOp fLt (mVar 1) (mCB gLen (mCons (mVar 0) mNil)))) (mRet (mOp fIx (mVar 0) (mVar 1))) mNext)
    (mRet (mOp fMod (mOp fAdd (mOp fAdd (mOp fMul (mOp fMul (mVar 1) (mVar 1)) (mC (.int 48271))) (mOp fMul (mVar 1) (mC (.int 11)))) (mCall 2 (g__law_of A) (mCons (mVar 0) (mCons (mC (.int 0)) mNil)))) (mC (.int M))))) [.scr ns, .int k] = some (.ret (.d (.int v))) := by
  have c1 : CMul (k:Int) k := .inl (by omega)
  have c2 : CMul ((k:Int) * k) 48271 := .inr (by omega)
  have c3 : CMul (k:Int) 11 := .inr (by omega)
  have e7 : mOp fMod (mOp fAdd (mOp fAdd (mOp fMul (mOp fMul (mVar 1) (mVar 1)) (mC (.int 48271))) (mOp fMul (mVar 1) (mC (.int 11)))) (mCall 2 (g__law_of A) (mCons (mVar 0) (mCons (mC (.int 0)) mNil)))) (mC (.int M)) [.sh (.scr ns), .sh (.int k)] = some (.sh (.int (((k:Int) * k * 48271 + k * 11 + ns.headD 0) % M))) := by
    have e8 : mCall 2 (g__law_of A) (mCons (mVar 0) (mCons (mC (.int 0)) mNil)) [.sh (.scr ns), .sh (.int k)] = some (.sh (.int (ns.headD 0))) := by
      simp [mCall, mCons, mVar, mC, mNil, R.data, law_of_ok, retR]
    exact mOp_eq (mOp_eq (mOp_eq (mOp_eq (mOp_eq rfl rfl (fMul_ok rfl rfl c1)) rfl (fMul_ok rfl rfl c2)) (mOp_eq rfl rfl (fMul_ok rfl rfl c3)) (fAdd_ok rfl rfl)) e8 (fAdd_ok rfl rfl)) rfl (fMod_ok rfl rfl hM)
  by_cases h : k < ns.length
  · have e : ns[k]? = some ns[k] := List.getElem?_eq_getElem h
    refine ⟨ns[k], ?_⟩
    walk_at "ev"
    simp [h, atI_nat e, imm]
  · generalize ((k:Int) * k * 48271 + k * 11 + ns.headD 0) % M = w at e7
    refine ⟨w, ?_⟩
    have e9 : mIfS (mTst (mOp fLt (mVar 1) (mCB gLen (mCons (mVar 0) mNil)))) (mRet (mOp fIx (mVar 0) (mVar 1))) mNext [.sh (.scr ns), .sh (.int k)] = some (.nx [.sh (.scr ns), .sh (.int k)]) := by
      walk_at "ev"
      simp [h]
    exact run2 e9 (mRet_d e7 rfl)
theorem drawn_ok (ns : List Int) (hl : ns.length ≤ 63) (k : Nat) (hk : k < 1000000) : ∃ v, g__law_drawn A [.scr ns, .int k] = some (.ret (.d (.int v))) := drawn_aux ns hl k hk 2147483647 (by decide)
end My

set_option Elab.async false
set_option linter.all false
set_option maxRecDepth 100000
set_option maxHeartbeats 4000000
namespace My
open PySem PySem.Spec PyProof.Rows L2 DL
variable {A : Ad}
local macro_rules | `(tactic| walk_at "ev") => `(tactic| simp (config := { decide := true }) [runF, env0, outF, mRet, mRetV, mAndV, mOrV, mTst, mIsi, mVar, mNotV, R.data, R.tree, R.slot, R.fixed, D.ty, isTy, imm, immL, mSeq, mIfS, mOr, mNot, mAnd, mOp, mCB, gLen, gMin, gMax, mCons, mNil, mC, fNe, fEq, fSub, fDiv, fMod, fAdd, fMul, fLt, fLe, fGt, fGe, flat2, gI, gIC, fIx, mNext, mSet, mIf, mCall, retR, mNeg, mCh, mLst, mTup, trees, S.data, S.dataL])
theorem rg0 (n : Nat) : rg 0 n = (List.range n).map fun (k : Nat) => D.int k := by simp [rg]
theorem run1 {n : Nat} {ds : List D} {a : MS} {s : S} (h1 : a (env0 n ds) = some (.rt s)) : runF n a ds = some (.ret s) := by unfold runF; rw [h1]; rfl
theorem mRet_t {m : ME} {ρ : DL.Env} {s : S} (h : m ρ = some (.tr s)) : mRet m ρ = some (.rt s) := by simp [mRet, h, R.tree]
theorem mSeq_n {a b : MS} {ρ ρ1 : DL.Env} {o : Option Out} (h1 : a ρ = some (.nx ρ1)) (h2 : b ρ1 = o) : mSeq a b ρ = o := by unfold mSeq; rw [h1]; exact h2
theorem mRg1_eval {ms : MA} {ρ : DL.Env} {r : R} {n : Nat} (h : ms ρ = some [r]) (hd : r.data = .int n) (hn : n ≤ 1000000) : mRg1 ms ρ = some (true, rg 0 n) := by
  unfold mRg1; simp only [h, List.map_cons, List.map_nil, hd]
  rw [if_pos (by omega), Int.toNat_natCast]
theorem one {m : ME} {ρ : DL.Env} {r : R} (h : m ρ = some r) : mCons m mNil ρ = some [r] := by simp [mCons, mNil, h]
theorem ft (xs : List D) : xs.filter (fun _ => true) = xs := List.filter_eq_self.mpr (by simp)
theorem fIx_lst {z y : R} {ds : List D} {i : Nat} {d : D} (hz : z.data = .lst ds) (hy : y.data = .int i) (h : ds[i]? = some d) : ∃ z', fIx z y = some z' ∧ z'.data = d ∧ (imm d = true → z'.slot = .sh d) := by
  have := atI_nat h
  cases z with
  | sh x => cases hz; exact ⟨.sh d, by simp [fIx, hy, this], rfl, fun _ => rfl⟩
  | vw x => cases hz; exact ⟨.vw d, by simp [fIx, hy, this], rfl, fun e => by simp [R.slot, e]⟩
  | tr s => simp only [R.data] at hz; exact ⟨.vw d, by simp [fIx, hy, this, hz], rfl, fun e => by simp [R.slot, e]⟩
theorem mIx {ρ : DL.Env} {ma mb : ME} {z y : R} {ds : List D} {i : Nat} {d : D} (ha : ma ρ = some z) (hb : mb ρ = some y) (hz : z.data = .lst ds) (hy : y.data = .int i) (h : ds[i]? = some d) : ∃ z', mOp fIx ma mb ρ = some z' ∧ z'.data = d ∧ (imm d = true → z'.slot = .sh d) := by
  obtain ⟨z', h1, h2, h3⟩ := fIx_lst hz hy h
  exact ⟨z', mOp_eq ha hb h1, h2, h3⟩
theorem fGt_ok {r q : R} {i j : Int} (h1 : r.data = .int i) (h2 : q.data = .int j) : fGt r q = some (.sh (.bl (decide (j < i)))) := by simp [fGt, flat2, h1, h2, gI]
theorem flat_len {α β : Type} {f : α → List β} {m : Nat} : ∀ {xs : List α}, (∀ x ∈ xs, (f x).length ≤ m) → (xs.flatMap f).length ≤ xs.length * m
  | [], _ => by simp
  | x :: xs, h => by
    have h1 := h x List.mem_cons_self
    have h2 := flat_len (xs := xs) fun y hy => h y (List.mem_cons_of_mem _ hy)
    rw [List.flatMap_cons, List.length_append, List.length_cons, Nat.succ_mul]
    omega
def dP (p : Nat × Nat) : D := .tup [.int p.1, .int p.2]
def places (r c : Nat) : List (Nat × Nat) := (List.range r).flatMap fun i => (List.range c).map fun j => (i, j)
theorem room_ix {ρ : DL.Env} {k : Nat} {r c h : Nat} (e : ρ[k]? = some (.sh (dRoom r c h))) : mOp fIx (mVar k) (mC (.int 0)) ρ = some (.sh (.int r)) ∧ mOp fIx (mVar k) (mC (.int 1)) ρ = some (.sh (.int c)) ∧ mOp fIx (mVar k) (mC (.int 2)) ρ = some (.sh (.int h)) := by
  refine ⟨?_, ?_, ?_⟩ <;> simp [mOp, mVar, e, mC, fIx, dRoom, R.data, atI, ixN]
theorem check_ok {r c h : Nat} {t : List (List Int)} (M : Rm r c h) (T : Tab r c h t) : g_check_table A [dRoom r c h, dTab t] = some (.ret (.d .non)) := by
  have e1 : g_check_room A [dRoom r c h] = some (.ret (.d .non)) := by
    have := is_room_ok (A := A) (r := r) (c := c) (h := h) (by have := M.r; omega) (by have := M.c; omega) (by have := M.h; omega)
    simp [g_check_room, m_check_room, runF, env0, mIfS, mNot, mTst, mCall, mCons, mVar, mNil, R.data, dRoom, this, retR, mNext, outF]
  simp [g_check_table, m_check_table, runF, env0, mSeq, mDropC, mCallO, mIfS, mNot, mTst, mCall, mCons, mVar, mNil, R.data, e1, is_table_ok M T, retR, mNext, outF]
theorem mem_places {r c : Nat} {p : Nat × Nat} : p ∈ places r c ↔ p.1 < r ∧ p.2 < c := by
  obtain ⟨i, j⟩ := p
  simp [places]
theorem tab_at {r c h : Nat} {t : List (List Int)} (T : Tab r c h t) {i j : Nat} (hi : i < r) (hj : j < c) : ∃ x, t[i]? = some x ∧ x[j]? = some (at2 t i j) ∧ x ∈ t := by
  have h1 : i < t.length := by rw [T.len]; exact hi
  have h2 : t[i] ∈ t := List.getElem_mem h1
  have h3 : j < t[i].length := by rw [T.row _ h2]; exact hj
  exact ⟨t[i], List.getElem?_eq_getElem h1, by simp [at2, h1, h3], h2⟩
end My

set_option Elab.async false
set_option linter.all false
set_option maxRecDepth 100000
set_option maxHeartbeats 4000000
namespace My
open PySem PySem.Spec PyProof.Rows L2 DL
variable {A : Ad}
theorem places_ok {r c h : Nat} (M : Rm r c h) : g_ground_places A [dRoom r c h] = some (.ret (.own ((places r c).map fun p => .d (dP p)))) := by
  have hr := M.r; have hc := M.c; have hh := M.h
  refine run1 ?_
  show mRet _ [.sh (dRoom r c h), .dead, .dead] = _
  refine mRet_t ?_
  rw [mLc2_eval (items := rg 0 r) (fun _ _ => true) (fun _ => rg 0 c) (fun d d1 => .sh (.tup [d, d1])) (fun d d1 => .d (.tup [d, d1]))]
  · simp only [ft]
    simp [places, rg0, List.flatMap_map, List.map_flatMap, Function.comp_def, dP]
  · exact mRg1_eval (one (room_ix (k := 0) (r := r) (c := c) (h := h) (ρ := [.sh (dRoom r c h), .dead, .dead]) rfl).1) rfl (by omega)
  · rfl
  · intro d m
    refine ⟨[.sh (dRoom r c h), .sh d, .dead], rfl, rfl, ?_, rfl, fun d1 m1 => ⟨[.sh (dRoom r c h), .sh d, .sh d1], rfl, rfl, fun _ => ⟨?_, ?_⟩⟩⟩
    · exact mRg1_eval (one (room_ix (k := 0) (r := r) (c := c) (h := h) (ρ := killVw [.sh (dRoom r c h), .sh d, .dead]) rfl).2.1) rfl (by omega)
    · rw [rg0] at m m1
      obtain ⟨i, _, rfl⟩ := List.mem_map.mp m
      obtain ⟨j, _, rfl⟩ := List.mem_map.mp m1
      simp [mTup, mCons, mNil, mVar, R.data, immL, imm]
    · rw [rg0] at m m1
      obtain ⟨i, _, rfl⟩ := List.mem_map.mp m
      obtain ⟨j, _, rfl⟩ := List.mem_map.mp m1
      simp [R.tree, immL, imm]
  · refine Nat.le_trans (flat_len (m := 20) fun d _ => ?_) ?_
    · rw [ft, rg0]; simp; omega
    · rw [rg0]; simp; omega
end My

set_option Elab.async false
set_option linter.all false
set_option maxRecDepth 100000
set_option maxHeartbeats 4000000
namespace My
open PySem PySem.Spec PyProof.Rows L2 DL
variable {A : Ad}
local macro_rules | `(tactic| walk_at "ev") => `(tactic| simp (config := { decide := true }) [runF, env0, outF, mRet, mRetV, mAndV, mOrV, mTst, mIsi, mVar, mNotV, R.data, R.tree, R.slot, R.fixed, D.ty, isTy, imm, immL, mSeq, mIfS, mOr, mNot, mAnd, mOp, mCB, gLen, gMin, gMax, mCons, mNil, mC, fNe, fEq, fSub, fDiv, fMod, fAdd, fMul, fLt, fLe, fGt, fGe, flat2, gI, gIC, fIx, mNext, mSet, mIf, mCall, retR, mNeg, mCh, mLst, mTup, trees, S.data, S.dataL])
def ups (t : List (List Int)) (r c : Nat) (l : Nat) : List (Nat × Nat) := (places r c).filter fun p => decide ((l : Int) < at2 t p.1 p.2)
theorem climb_ok {r c h : Nat} {t : List (List Int)} (M : Rm r c h) (T : Tab r c h t) : g_climb A [dRoom r c h, dTab t] = some (.ret (.own (((List.range h).flatMap (ups t r c)).map fun p => .d (dP p)))) := by
  have hr := M.r; have hc := M.c; have hh := M.h
  refine run1 ?_
  show mSeq _ _ [.sh (dRoom r c h), .sh (dTab t), .dead, .dead, .dead, .dead] = _
  have e1 : mDropC (mCallO 2 (g_check_table A) (mCons (mVar 0) (mCons (mVar 1) mNil))) [.sh (dRoom r c h), .sh (dTab t), .dead, .dead, .dead, .dead] = some (.nx [.sh (dRoom r c h), .sh (dTab t), .dead, .dead, .dead, .dead]) := by
    simp [mDropC, mCallO, mCons, mVar, mNil, R.data, check_ok M T]
  refine mSeq_n e1 ?_
  have e2 : mSet 2 (mCall 1 (g_ground_places A) (mCons (mVar 0) mNil)) [.sh (dRoom r c h), .sh (dTab t), .dead, .dead, .dead, .dead] = some (.nx [.sh (dRoom r c h), .sh (dTab t), .tr (.own ((places r c).map fun p => .d (dP p))), .dead, .dead, .dead]) := by
    simp [mSet, mCall, mCons, mVar, mNil, R.data, places_ok M, retR, R.slot]
  refine mSeq_n e2 ?_
  have e3 : S.dataL ((places r c).map fun p => .d (dP p)) = (places r c).map dP := by
    rw [show ((places r c).map fun p => S.d (dP p)) = ((places r c).map dP).map S.d by rw [List.map_map]; rfl, dataL_d]
  show mRet _ [.sh (dRoom r c h), .sh (dTab t), .sh (.lst (S.dataL ((places r c).map fun p => .d (dP p)))), .dead, .dead, .dead] = _
  rw [e3]
  refine mRet_t ?_
  rw [mLc2_eval (items := rg 0 h) (fun d d1 => match d, d1 with | .int l, .tup [.int i, .int j] => decide (l < at2 t i.toNat j.toNat) | _, _ => false) (fun _ => (places r c).map dP) (fun _ d1 => .sh d1) (fun _ d1 => .d d1)]
  · simp [ups, rg0, List.flatMap_map, List.map_flatMap, List.filter_map, Function.comp_def, dP]
  · exact mRg1_eval (one (room_ix (k := 0) (r := r) (c := c) (h := h) (ρ := [.sh (dRoom r c h), .sh (dTab t), .sh (.lst ((places r c).map dP)), .dead, .dead, .dead]) rfl).2.2) rfl (by omega)
  · rfl
  · intro d m
    rw [rg0] at m
    obtain ⟨l, _, rfl⟩ := List.mem_map.mp m
    refine ⟨[.sh (dRoom r c h), .sh (dTab t), .sh (.lst ((places r c).map dP)), .sh (.int l), .dead, .dead], rfl, rfl, rfl, rfl, fun d1 m1 => ?_⟩
    obtain ⟨p, hp, rfl⟩ := List.mem_map.mp m1
    rw [mem_places] at hp
    obtain ⟨x, h1, h2, _⟩ := tab_at T hp.1 hp.2
    refine ⟨[.sh (dRoom r c h), .sh (dTab t), .sh (.lst ((places r c).map dP)), .sh (.int l), .sh (.int p.1), .sh (.int p.2)], rfl, ?_, fun _ => ⟨rfl, ?_⟩⟩
    · obtain ⟨z1, q1, q2, _⟩ := mIx (ma := mVar 1) (mb := mVar 4) (ρ := [.sh (dRoom r c h), .sh (dTab t), .sh (.lst ((places r c).map dP)), .sh (.int l), .sh (.int p.1), .sh (.int p.2)]) rfl rfl (ds := t.map dRow) rfl (i := p.1) rfl (d := dRow x) (by simp [h1])
      obtain ⟨z2, q3, q4, _⟩ := mIx (mb := mVar 5) q1 rfl q2 (i := p.2) rfl (d := .int (at2 t p.1 p.2)) (by simp [h2])
      have q5 := mOp_eq (mb := mVar 3) (f := fGt) q3 rfl (fGt_ok q4 (j := l) rfl)
      simp [mTst, q5, R.data, dP]
    · simp [R.tree, immL, imm, dP]
  · refine Nat.le_trans (flat_len (m := 120) fun d _ => ?_) ?_
    · refine Nat.le_trans (List.length_filter_le _ _) ?_
      rw [List.length_map]
      refine Nat.le_trans (flat_len (m := 20) fun d _ => ?_) ?_
      · simp; omega
      · simp; omega
    · rw [rg0]; simp; omega
end My

set_option Elab.async false
set_option linter.all false
set_option maxRecDepth 100000
set_option maxHeartbeats 4000000
namespace My
open PySem PySem.Spec PyProof.Rows L2 DL
variable {A : Ad}
def mostv (u : List (List Int)) (h i j : Nat) : Int :=
  let b := if 0 < j then min (h : Int) (at2 u i (j - 1)) else h
  if 0 < i then min b (at2 u (i - 1) j) else b
theorem copy_ok {t : List (List Int)} (ht : t.length ≤ 100000) : g__law_copy A [dTab t] = some (.ret (sTab t)) := by
  refine run1 ?_
  show mRet _ [.sh (dTab t), .dead] = _
  refine mRet_t ?_
  rw [mLc_eval (s := true) (items := t.map dRow) (fun _ => true) (fun d => match d with | .lst ds => .tr (.own (ds.map .d)) | _ => .sh .non) (fun d => match d with | .lst ds => .own (ds.map .d) | _ => .d .non)]
  · rw [ft, List.map_map]
    simp only [sTab]
    congr 3
    apply List.map_congr_left
    intro x _
    simp [dRow, sRow]
  · simp [mIL, mVar, dTab, R.data, R.fixed]
  · simpa using ht
  · rfl
  · intro d m
    obtain ⟨x, hx, rfl⟩ := List.mem_map.mp m
    refine ⟨_, rfl, rfl, fun _ => ⟨?_, rfl⟩⟩
    simp [mgName, itR, mCB, mCons, mNil, mVar, R.slot, R.data, gList, dRow, newL, imm_ints]
theorem gMin_ok {a b : Int} : gMin [.int a, .int b] = some (.sh (.int (min a b))) := by
  simp only [gMin]
  congr 3
  split <;> omega
theorem gMax_ok {a b : Int} : gMax [.int a, .int b] = some (.sh (.int (max a b))) := by
  simp only [gMax]
  congr 3
  split <;> omega
theorem mCB_two {g : List D → Option R} {ma mb : ME} {ρ : DL.Env} {x y z : R} (h1 : ma ρ = some x) (h2 : mb ρ = some y) (h3 : g [x.data, y.data] = some z) : mCB g (mCons ma (mCons mb mNil)) ρ = some z := by
  simp [mCB, mCons, mNil, h1, h2, h3]
theorem mSet_d {i : Nat} {m : ME} {ρ : DL.Env} {d : D} (h : m ρ = some (.sh d)) : mSet i m ρ = some (.nx (ρ.set i (.sh d))) := by simp [mSet, h, R.slot]
theorem mIfS_t {c : MT} {a b : MS} {ρ : DL.Env} (h : c ρ = some true) : mIfS c a b ρ = a ρ := by simp [mIfS, h]
theorem mIfS_f {c : MT} {a b : MS} {ρ : DL.Env} (h : c ρ = some false) : mIfS c a b ρ = b ρ := by simp [mIfS, h]
theorem mTst_b {m : ME} {ρ : DL.Env} {b : Bool} (h : m ρ = some (.sh (.bl b))) : mTst m ρ = some b := by simp [mTst, h, R.data]
theorem most_ok {u : List (List Int)} {r c h i j : Nat} (hj : 0 < j → ∃ x, u[i]? = some x ∧ j - 1 < x.length) (hi : 0 < i → ∃ x, u[i - 1]? = some x ∧ j < x.length) : g__law_most A [dTab u, dRoom r c h, .int i, .int j] = some (.ret (.d (.int (mostv u h i j)))) := by
  refine run2 (ρ := [.sh (dTab u), .sh (dRoom r c h), .sh (.int i), .sh (.int j), .sh (.int h)]) ?_ ?_
  · exact mSet_d (room_ix (k := 1) (r := r) (c := c) (h := h) (ρ := [.sh (dTab u), .sh (dRoom r c h), .sh (.int i), .sh (.int j), .dead]) rfl).2.2
  generalize hb : (if 0 < j then min (h : Int) (at2 u i (j - 1)) else h) = b
  have s1 : mIfS (mTst (mOp fGt (mVar 3) (mC (.int 0)))) (mSet 4 (mCB gMin (mCons (mVar 4) (mCons (mOp fIx (mOp fIx (mVar 0) (mVar 2)) (mOp fSub (mVar 3) (mC (.int 1)))) mNil)))) mNext [.sh (dTab u), .sh (dRoom r c h), .sh (.int i), .sh (.int j), .sh (.int h)] = some (.nx [.sh (dTab u), .sh (dRoom r c h), .sh (.int i), .sh (.int j), .sh (.int b)]) := by
    have q : mOp fGt (mVar 3) (mC (.int 0)) [.sh (dTab u), .sh (dRoom r c h), .sh (.int i), .sh (.int j), .sh (.int h)] = some (.sh (.bl (decide ((0:Int) < j)))) := mOp_eq rfl rfl (fGt_ok rfl rfl)
    by_cases h0 : 0 < j
    · rw [if_pos h0] at hb; subst hb
      obtain ⟨x, hx, hl⟩ := hj h0
      rw [mIfS_t (mTst_b (by rw [q]; simp [h0]))]
      obtain ⟨z1, q1, q2, _⟩ := mIx (ma := mVar 0) (mb := mVar 2) (ρ := [.sh (dTab u), .sh (dRoom r c h), .sh (.int i), .sh (.int j), .sh (.int h)]) rfl rfl (ds := u.map dRow) rfl (i := i) rfl (d := dRow x) (by simp [hx])
      have q3 : mOp fSub (mVar 3) (mC (.int 1)) [.sh (dTab u), .sh (dRoom r c h), .sh (.int i), .sh (.int j), .sh (.int h)] = some (.sh (.int ((j - 1 : Nat) : Int))) := by
        rw [show ((j - 1 : Nat) : Int) = (j : Int) - 1 by omega]
        exact mOp_eq rfl rfl (fSub_ok rfl rfl)
      obtain ⟨z2, q4, q5, _⟩ := mIx q1 q3 q2 rfl (d := .int (at2 u i (j - 1))) (by simp [at2, hx, hl])
      exact mSet_d (mCB_two rfl q4 (by rw [q5]; exact gMin_ok))
    · rw [if_neg h0] at hb; subst hb
      rw [mIfS_f (mTst_b (by rw [q]; simp [h0]))]; rfl
  have s2 : mIfS (mTst (mOp fGt (mVar 2) (mC (.int 0)))) (mSet 4 (mCB gMin (mCons (mVar 4) (mCons (mOp fIx (mOp fIx (mVar 0) (mOp fSub (mVar 2) (mC (.int 1)))) (mVar 3)) mNil)))) mNext [.sh (dTab u), .sh (dRoom r c h), .sh (.int i), .sh (.int j), .sh (.int b)] = some (.nx [.sh (dTab u), .sh (dRoom r c h), .sh (.int i), .sh (.int j), .sh (.int (mostv u h i j))]) := by
    have q : mOp fGt (mVar 2) (mC (.int 0)) [.sh (dTab u), .sh (dRoom r c h), .sh (.int i), .sh (.int j), .sh (.int b)] = some (.sh (.bl (decide ((0:Int) < i)))) := mOp_eq rfl rfl (fGt_ok rfl rfl)
    have hm : mostv u h i j = if 0 < i then min b (at2 u (i - 1) j) else b := by rw [← hb]; rfl
    rw [hm]
    by_cases h0 : 0 < i
    · rw [if_pos h0]
      obtain ⟨x, hx, hl⟩ := hi h0
      rw [mIfS_t (mTst_b (by rw [q]; simp [h0]))]
      have q3 : mOp fSub (mVar 2) (mC (.int 1)) [.sh (dTab u), .sh (dRoom r c h), .sh (.int i), .sh (.int j), .sh (.int b)] = some (.sh (.int ((i - 1 : Nat) : Int))) := by
        rw [show ((i - 1 : Nat) : Int) = (i : Int) - 1 by omega]
        exact mOp_eq rfl rfl (fSub_ok rfl rfl)
      obtain ⟨z1, q1, q2, _⟩ := mIx (ma := mVar 0) (ρ := [.sh (dTab u), .sh (dRoom r c h), .sh (.int i), .sh (.int j), .sh (.int b)]) rfl q3 (ds := u.map dRow) rfl rfl (d := dRow x) (by simp [hx])
      obtain ⟨z2, q4, q5, _⟩ := mIx (mb := mVar 3) q1 rfl q2 (i := j) rfl (d := .int (at2 u (i - 1) j)) (by simp [at2, hx, hl])
      exact mSet_d (mCB_two rfl q4 (by rw [q5]; exact gMin_ok))
    · rw [if_neg h0]
      rw [mIfS_f (mTst_b (by rw [q]; simp [h0]))]; rfl
  exact mSeq_n s1 (mSeq_n s2 rfl)
theorem tab_len (t : List (List Int)) : (t.map sRow).length = t.length := List.length_map _
theorem put_row (full : List (List Int)) (cur : List Int) (v : Int) : S.put (.own ((cur.map fun n => S.d (.int n)) ++ [.d (.int v)])) [full.length] (sTab (full ++ [cur])) = sTab (full ++ [cur ++ [v]]) := by
  simp [sTab, S.put, sRow]
end My

set_option Elab.async false
set_option linter.all false
set_option maxRecDepth 100000
set_option maxHeartbeats 4000000
namespace My
open PySem PySem.Spec PyProof.Rows L2 DL
variable {A : Ad}
/-- full rows -/
structure Fl (c h : Nat) (t : List (List Int)) : Prop where
  row : ∀ x ∈ t, x.length = c
  lo : ∀ i j, i < t.length → j < c → 0 ≤ at2 t i j ∧ at2 t i j ≤ (h : Int)
  rr : ∀ i j, i < t.length → j + 1 < c → at2 t i (j + 1) ≤ at2 t i j
  cc : ∀ i j, i + 1 < t.length → j < c → at2 t (i + 1) j ≤ at2 t i j
/-- the row under way -/
structure Cu (c h : Nat) (t : List (List Int)) (x : List Int) : Prop where
  len : x.length ≤ c
  lo : ∀ j, j < x.length → 0 ≤ x.getD j 0 ∧ x.getD j 0 ≤ (h : Int)
  rr : ∀ j, j + 1 < x.length → x.getD (j + 1) 0 ≤ x.getD j 0
  cc : ∀ j, 0 < t.length → j < x.length → x.getD j 0 ≤ at2 t (t.length - 1) j
theorem at2_left {t : List (List Int)} {x : List Int} {i j : Nat} (h : i < t.length) : at2 (t ++ [x]) i j = at2 t i j := by
  simp [at2, List.getElem?_append_left h]
theorem at2_last {t : List (List Int)} {x : List Int} {j : Nat} : at2 (t ++ [x]) t.length j = x.getD j 0 := by
  simp [at2]
theorem Fl.push {c h : Nat} {t : List (List Int)} {x : List Int} (F : Fl c h t) (C : Cu c h t x) (hx : x.length = c) : Fl c h (t ++ [x]) where
  row := fun y m => by
    rcases List.mem_append.mp m with m | m
    · exact F.row y m
    · rw [List.mem_singleton.mp m]; exact hx
  lo := fun i j hi hj => by
    by_cases h1 : i < t.length
    · rw [at2_left h1]; exact F.lo i j h1 hj
    · have : i = t.length := by simp at hi; omega
      subst this; rw [at2_last]; exact C.lo j (by omega)
  rr := fun i j hi hj => by
    by_cases h1 : i < t.length
    · rw [at2_left h1, at2_left h1]; exact F.rr i j h1 hj
    · have : i = t.length := by simp at hi; omega
      subst this; rw [at2_last, at2_last]; exact C.rr j (by omega)
  cc := fun i j hi hj => by
    by_cases h1 : i + 1 < t.length
    · rw [at2_left h1, at2_left (by omega)]; exact F.cc i j h1 hj
    · have : i + 1 = t.length := by simp at hi; omega
      rw [this, at2_last, at2_left (by omega)]
      have := C.cc j (by omega) (by omega)
      rw [show t.length - 1 = i by omega] at this
      exact this
theorem Cu.push {c h : Nat} {t : List (List Int)} {x : List Int} {v : Int} (C : Cu c h t x) (hx : x.length < c) (h0 : 0 ≤ v) (hv : v ≤ mostv (t ++ [x]) h t.length x.length) : Cu c h t (x ++ [v]) := by
  have hg : ∀ j, j < x.length → (x ++ [v]).getD j 0 = x.getD j 0 := fun j hj => by simp [List.getElem?_append_left hj]
  have hl : (x ++ [v]).getD x.length 0 = v := by simp
  have v1 : v ≤ h ∧ (0 < x.length → v ≤ x.getD (x.length - 1) 0) ∧ (0 < t.length → v ≤ at2 t (t.length - 1) x.length) := by
    unfold mostv at hv
    rw [at2_last] at hv
    by_cases ht : 0 < t.length
    · rw [at2_left (by omega)] at hv
      simp only [if_pos ht] at hv
      by_cases hxx : 0 < x.length
      · simp only [if_pos hxx] at hv; exact ⟨by omega, fun _ => by omega, fun _ => by omega⟩
      · simp only [if_neg hxx] at hv; exact ⟨by omega, fun z => absurd z hxx, fun _ => by omega⟩
    · simp only [if_neg ht] at hv
      by_cases hxx : 0 < x.length
      · simp only [if_pos hxx] at hv; exact ⟨by omega, fun _ => by omega, fun z => absurd z ht⟩
      · simp only [if_neg hxx] at hv; exact ⟨by omega, fun z => absurd z hxx, fun z => absurd z ht⟩
  have hlen : (x ++ [v]).length = x.length + 1 := by simp
  refine ⟨by omega, fun j hj => ?_, fun j hj => ?_, fun j ht hj => ?_⟩
  · by_cases h1 : j < x.length
    · rw [hg j h1]; exact C.lo j h1
    · rw [show j = x.length by omega, hl]; exact ⟨h0, v1.1⟩
  · by_cases h1 : j + 1 < x.length
    · rw [hg _ h1, hg j (by omega)]; exact C.rr j h1
    · rw [show j + 1 = x.length by omega, hl, hg j (by omega)]
      have := v1.2.1 (by omega)
      rw [show x.length - 1 = j by omega] at this
      exact this
  · by_cases h1 : j < x.length
    · rw [hg j h1]; exact C.cc j ht h1
    · rw [show j = x.length by omega, hl]; exact v1.2.2 ht
theorem mostv_nn {c h : Nat} {t : List (List Int)} {x : List Int} (F : Fl c h t) (C : Cu c h t x) (hx : x.length < c) : 0 ≤ mostv (t ++ [x]) h t.length x.length := by
  have a1 : 0 < x.length → 0 ≤ x.getD (x.length - 1) 0 := fun z => (C.lo _ (by omega)).1
  have a2 : 0 < t.length → 0 ≤ at2 t (t.length - 1) x.length := fun z => (F.lo _ _ (by omega) hx).1
  unfold mostv
  rw [at2_last]
  by_cases ht : 0 < t.length
  · rw [at2_left (by omega)]
    simp only [if_pos ht]
    by_cases hxx : 0 < x.length
    · simp only [if_pos hxx]; have := a1 hxx; have := a2 ht; omega
    · simp only [if_neg hxx]; have := a2 ht; omega
  · simp only [if_neg ht]
    by_cases hxx : 0 < x.length
    · simp only [if_pos hxx]; have := a1 hxx; omega
    · simp only [if_neg hxx]; omega
theorem Fl.tab {r c h : Nat} {t : List (List Int)} (F : Fl c h t) (hl : t.length = r) : Tab r c h t where
  len := hl
  row := F.row
  lo := fun x m n hn => by
    obtain ⟨i, hi⟩ := List.getElem?_of_mem m
    obtain ⟨j, hj⟩ := List.getElem?_of_mem hn
    have h1 := (List.getElem?_eq_some_iff.mp hi).1
    have h2 := (List.getElem?_eq_some_iff.mp hj).1
    have := F.lo i j h1 (by rw [← F.row x m]; exact h2)
    rw [show at2 t i j = n by simp [at2, hi, hj]] at this
    exact this
  nrr := fun x m => fun j a b ha hb => by
    obtain ⟨i, hi⟩ := List.getElem?_of_mem m
    have h1 := (List.getElem?_eq_some_iff.mp hi).1
    have h2 := (List.getElem?_eq_some_iff.mp hb).1
    have := F.rr i j h1 (by rw [← F.row x m]; exact h2)
    rw [show at2 t i j = a by simp [at2, hi, ha], show at2 t i (j + 1) = b by simp [at2, hi, hb]] at this
    exact this
  nrc := fun j hj => fun i a b ha hb => by
    rw [List.getElem?_map, Option.map_eq_some_iff] at ha hb
    obtain ⟨x, hx, rfl⟩ := ha
    obtain ⟨y, hy, rfl⟩ := hb
    have h1 := (List.getElem?_eq_some_iff.mp hy).1
    have := F.cc i j h1 hj
    rw [show at2 t i j = x.getD j 0 by simp [at2, hx], show at2 t (i + 1) j = y.getD j 0 by simp [at2, hy]] at this
    exact this
end My

set_option Elab.async false
set_option linter.all false
set_option maxRecDepth 100000
set_option maxHeartbeats 4000000
namespace My
open PySem PySem.Spec PyProof.Rows L2 DL
variable {A : Ad}
theorem fEq_int {r q : R} {i j : Int} (h1 : r.data = .int i) (h2 : q.data = .int j) : fEq r q = some (.sh (.bl (decide (i = j)))) := by simp [fEq, flat2, h1, h2]
theorem mCall_d {n : Nat} {g : List D → Option FO} {ms : MA} {ρ : DL.Env} {rs : List R} {d : D} (h1 : ms ρ = some rs) (hn : rs.length = n) (h2 : g (rs.map R.data) = some (.ret (.d d))) : mCall n g ms ρ = some (.sh d) := by
  unfold mCall
  simp [h1, hn, h2, retR]
def ET (k0 : Nat) (ns : List Int) (r c h : Nat) (t : List (List Int)) (a b m w v : Sl) : DL.Env := [.sh (.scr ns), .sh (.int k0), .sh (dRoom r c h), .tr (sTab t), a, b, m, w, v]
theorem drawn_c {ns : List Int} {z3 w : Int} {me : ME} {ρ : DL.Env} (q0 : mVar 0 ρ = some (.sh (.scr ns))) (q : me ρ = some (.sh (.int z3))) (hw : g__law_drawn A [D.scr ns, D.int z3] = some (FO.ret (S.d (D.int w)))) : mCall 2 (g__law_drawn A) (mCons (mVar 0) (mCons me mNil)) ρ = some (.sh (.int w)) := by
  refine mCall_d (rs := [.sh (.scr ns), .sh (.int z3)]) ?_ rfl hw
  simp only [mCons, mNil, q, q0]
theorem ET_0 {k0 : Nat} {ns : List Int} {r c h : Nat} {t : List (List Int)} {a b m w v : Sl} : mVar 0 (ET k0 ns r c h t a b m w v) = some (.sh (.scr ns)) := rfl
theorem drawn_s {k0 : Nat} {ns : List Int} {z3 w : Int} {r c h : Nat} {t : List (List Int)} {a b m : Sl} {me : ME} (q : me (ET k0 ns r c h t a b m .dead .dead) = some (.sh (.int z3))) (hw : g__law_drawn A [D.scr ns, D.int z3] = some (FO.ret (S.d (D.int w)))) : mSet 7 (mCall 2 (g__law_drawn A) (mCons (mVar 0) (mCons me mNil))) (ET k0 ns r c h t a b m .dead .dead) = some (.nx (ET k0 ns r c h t a b m (.sh (.int w)) .dead)) := mSet_d (drawn_c ET_0 q hw)
def mBody (A : Ad) : MS := (mSeq (mSet 6 (mCall 4 (g__law_most A) (mCons (mVar 3) (mCons (mVar 2) (mCons (mVar 4) (mCons (mVar 5) mNil))))))
    (mSeq (mSet 7 (mCall 2 (g__law_drawn A) (mCons (mVar 0) (mCons (mOp fAdd (mOp fAdd (mVar 1) (mOp fMul (mVar 4) (mOp fIx (mVar 2) (mC (.int 1))))) (mVar 5)) mNil))))
    (mSeq (mSet 8 (mOp fMod (mOp fDiv (mVar 7) (mC (.int 3))) (mOp fAdd (mVar 6) (mC (.int 1)))))
    (mSeq (mIfS (mTst (mOp fEq (mOp fMod (mVar 7) (mC (.int 3))) (mC (.int 0)))) (mSet 8 (mVar 6)) mNext)
    (mSeq (mIfS (mTst (mOp fEq (mOp fMod (mVar 7) (mC (.int 3))) (mC (.int 1)))) (mSet 8 (mCB gMax (mCons (mC (.int 0)) (mCons (mOp fSub (mOp fSub (mVar 6) (mC (.int 1))) (mOp fMod (mOp fDiv (mVar 7) (mC (.int 3))) (mC (.int 2)))) mNil)))) mNext)
    (mAppend (mpIx (mpV 3) (mVar 4)) (mVar 8)))))))
theorem body_ok {k0 : Nat} (hk0 : k0 ≤ 1000) {ns : List Int} (hns : ns.length ≤ 63) {r c h : Nat} (M : Rm r c h) {t : List (List Int)} {x : List Int} (F : Fl c h t) (C : Cu c h t x) (hx : x.length < c) (ht : t.length < r) :
    ∃ v m w, 0 ≤ v ∧ v ≤ mostv (t ++ [x]) h t.length x.length ∧ mBody A (ET k0 ns r c h (t ++ [x]) (.sh (.int t.length)) (.sh (.int x.length)) .dead .dead .dead) = some (.nx (ET k0 ns r c h (t ++ [x ++ [v]]) (.sh (.int t.length)) (.sh (.int x.length)) (.sh (.int m)) (.sh (.int w)) (.sh (.int v)))) := by
  have hr := M.r; have hc := M.c; have hh := M.h
  have hm0 := mostv_nn F C hx
  generalize hm : mostv (t ++ [x]) h t.length x.length = m at hm0
  have hk : k0 + t.length * c + x.length < 1000000 := by
    have := Nat.mul_le_mul (show t.length ≤ 6 by omega) hc.2
    omega
  obtain ⟨w, hw⟩ := drawn_ok (A := A) ns hns (k0 + t.length * c + x.length) hk
  have e1 : mSet 6 (mCall 4 (g__law_most A) (mCons (mVar 3) (mCons (mVar 2) (mCons (mVar 4) (mCons (mVar 5) mNil))))) (ET k0 ns r c h (t ++ [x]) (.sh (.int t.length)) (.sh (.int x.length)) .dead .dead .dead) = some (.nx (ET k0 ns r c h (t ++ [x]) (.sh (.int t.length)) (.sh (.int x.length)) (.sh (.int m)) .dead .dead)) := by
    refine mSet_d (mCall_d (rs := [.vw (sTab (t ++ [x])).data, .sh (dRoom r c h), .sh (.int t.length), .sh (.int x.length)]) rfl rfl ?_)
    rw [← hm]
    simp only [List.map_cons, List.map_nil, R.data, sTab_data]
    refine most_ok (fun z => ⟨x, by simp, by omega⟩) fun z => ⟨t[t.length - 1], ?_, ?_⟩
    · rw [List.getElem?_append_left (by omega)]; exact List.getElem?_eq_getElem (by omega)
    · rw [F.row _ (List.getElem_mem _)]; exact hx
  have cm : CMul (t.length : Int) (c : Int) := .inr (by omega)
  have e2 : mSet 7 (mCall 2 (g__law_drawn A) (mCons (mVar 0) (mCons (mOp fAdd (mOp fAdd (mVar 1) (mOp fMul (mVar 4) (mOp fIx (mVar 2) (mC (.int 1))))) (mVar 5)) mNil))) (ET k0 ns r c h (t ++ [x]) (.sh (.int t.length)) (.sh (.int x.length)) (.sh (.int m)) .dead .dead) = some (.nx (ET k0 ns r c h (t ++ [x]) (.sh (.int t.length)) (.sh (.int x.length)) (.sh (.int m)) (.sh (.int w)) .dead)) := by
    have q1 : mOp fMul (mVar 4) (mOp fIx (mVar 2) (mC (.int 1))) (ET k0 ns r c h (t ++ [x]) (.sh (.int t.length)) (.sh (.int x.length)) (.sh (.int m)) .dead .dead) = some (.sh (.int (t.length * c))) :=
      mOp_eq (x := .sh (.int t.length)) (y := .sh (.int c)) rfl (room_ix (k := 2) (r := r) (c := c) (h := h) rfl).2.1 (fMul_ok rfl rfl cm)
    have hp : ((k0 : Int) + (t.length : Int) * c + x.length) = ((k0 + t.length * c + x.length : Nat) : Int) := by simp
    generalize ((t.length : Int) * c) = z1 at q1 hp
    have q2 : mOp fAdd (mVar 1) (mOp fMul (mVar 4) (mOp fIx (mVar 2) (mC (.int 1)))) (ET k0 ns r c h (t ++ [x]) (.sh (.int t.length)) (.sh (.int x.length)) (.sh (.int m)) .dead .dead) = some (.sh (.int (k0 + z1))) :=
      mOp_eq (x := .sh (.int k0)) rfl q1 (fAdd_ok rfl rfl)
    generalize ((k0 : Int) + z1) = z2 at q2 hp
    have q : mOp fAdd (mOp fAdd (mVar 1) (mOp fMul (mVar 4) (mOp fIx (mVar 2) (mC (.int 1))))) (mVar 5) (ET k0 ns r c h (t ++ [x]) (.sh (.int t.length)) (.sh (.int x.length)) (.sh (.int m)) .dead .dead) = some (.sh (.int (z2 + x.length))) :=
      mOp_eq (y := .sh (.int x.length)) q2 rfl (fAdd_ok rfl rfl)
    rw [hp] at q
    generalize ((k0 + t.length * c + x.length : Nat) : Int) = z3 at q hw
    exact drawn_s q hw
  let E := ET k0 ns r c h (t ++ [x]) (.sh (.int t.length)) (.sh (.int x.length)) (.sh (.int m)) (.sh (.int w))
  have c3 : CDiv w 3 := ⟨by decide, by decide⟩
  have e3 : mSet 8 (mOp fMod (mOp fDiv (mVar 7) (mC (.int 3))) (mOp fAdd (mVar 6) (mC (.int 1)))) (E .dead) = some (.nx (E (.sh (.int (w / 3 % (m + 1)))))) :=
    mSet_d (mOp_eq (mOp_eq rfl rfl (fDiv_ok rfl rfl c3)) (mOp_eq rfl rfl (fAdd_ok rfl rfl)) (fMod_ok rfl rfl (by omega)))
  have hv1 : 0 ≤ w / 3 % (m + 1) ∧ w / 3 % (m + 1) ≤ m := by
    have := Int.emod_nonneg (w / 3) (b := m + 1) (by omega)
    have := Int.emod_lt_of_pos (w / 3) (b := m + 1) (by omega)
    omega
  generalize w / 3 % (m + 1) = v1 at e3 hv1
  have hM : ∀ s, mOp fMod (mVar 7) (mC (.int 3)) (E s) = some (.sh (.int (w % 3))) := fun s => mOp_eq rfl rfl (fMod_ok rfl rfl (by decide))
  obtain ⟨v2, hv2, e4⟩ : ∃ v2, (0 ≤ v2 ∧ v2 ≤ m) ∧ mIfS (mTst (mOp fEq (mOp fMod (mVar 7) (mC (.int 3))) (mC (.int 0)))) (mSet 8 (mVar 6)) mNext (E (.sh (.int v1))) = some (.nx (E (.sh (.int v2)))) := by
    by_cases h0 : w % 3 = 0
    · refine ⟨m, ⟨by omega, by omega⟩, ?_⟩
      rw [mIfS_t (mTst_b (mOp_eq (hM _) rfl ((fEq_int rfl rfl).trans (by rw [h0]; rfl))))]
      exact mSet_d rfl
    · refine ⟨v1, hv1, ?_⟩
      rw [mIfS_f (mTst_b (mOp_eq (hM _) rfl ((fEq_int rfl rfl).trans (by rw [decide_eq_false h0]))))]
      rfl
  obtain ⟨v, hv, e5⟩ : ∃ v, (0 ≤ v ∧ v ≤ m) ∧ mIfS (mTst (mOp fEq (mOp fMod (mVar 7) (mC (.int 3))) (mC (.int 1)))) (mSet 8 (mCB gMax (mCons (mC (.int 0)) (mCons (mOp fSub (mOp fSub (mVar 6) (mC (.int 1))) (mOp fMod (mOp fDiv (mVar 7) (mC (.int 3))) (mC (.int 2)))) mNil)))) mNext (E (.sh (.int v2))) = some (.nx (E (.sh (.int v)))) := by
    by_cases h0 : w % 3 = 1
    · refine ⟨max 0 (m - 1 - w / 3 % 2), ⟨by omega, by omega⟩, ?_⟩
      rw [mIfS_t (mTst_b (mOp_eq (hM _) rfl ((fEq_int rfl rfl).trans (by rw [h0]; rfl))))]
      have q2 : mOp fMod (mOp fDiv (mVar 7) (mC (.int 3))) (mC (.int 2)) (E (.sh (.int v2))) = some (.sh (.int (w / 3 % 2))) := mOp_eq (mOp_eq rfl rfl (fDiv_ok rfl rfl c3)) rfl (fMod_ok rfl rfl (by decide))
      generalize w / 3 % 2 = z at q2
      exact mSet_d (mCB_two rfl (mOp_eq (mOp_eq rfl rfl (fSub_ok rfl rfl)) q2 (fSub_ok rfl rfl)) gMax_ok)
    · refine ⟨v2, hv2, ?_⟩
      rw [mIfS_f (mTst_b (mOp_eq (hM _) rfl ((fEq_int rfl rfl).trans (by rw [decide_eq_false h0]))))]
      rfl
  refine ⟨v, m, w, hv.1, by omega, ?_⟩
  refine mSeq_n e1 (mSeq_n e2 (mSeq_n e3 (mSeq_n e4 (mSeq_n e5 ?_))))
  have p : mpIx (mpV 3) (mVar 4) (E (.sh (.int v))) = some (3, [t.length]) := by
    have hlt : (t.length : Int) < t.length + 1 := by omega
    simp [mpIx, mpV, E, ET, sTab, nodeAt, S.get, mVar, R.data, ixN, isNode, sRow, hlt]
  have g : S.get [t.length] (sTab (t ++ [x])) = some (.own (x.map fun n => .d (.int n))) := by simp [S.get, sTab, sRow]
  unfold mAppend
  rw [p]
  have q3 : mVar 8 (E (.sh (.int v))) = some (.sh (.int v)) := rfl
  have q4 : (E (.sh (.int v)))[3]? = some (.tr (sTab (t ++ [x]))) := rfl
  have q5 : R.tree (.sh (.int v)) = some (.d (.int v)) := by simp [R.tree, imm]
  simp only [q3, q4, q5, g, put_row]
  rw [if_pos (by rw [List.length_map]; omega)]
  rfl
end My

set_option Elab.async false
set_option linter.all false
set_option maxRecDepth 100000
set_option maxHeartbeats 4000000
namespace My
open PySem PySem.Spec PyProof.Rows L2 DL
variable {A : Ad}
theorem rg_at {n i : Nat} {d : D} (h : (rg 0 n)[i]? = some d) : i < n ∧ d = .int i := by
  rw [rg0, List.getElem?_map, Option.map_eq_some_iff] at h
  obtain ⟨k, hk, rfl⟩ := h
  have h1 := (List.getElem?_eq_some_iff.mp hk).1
  rw [List.length_range] at h1
  rw [List.getElem?_range h1] at hk
  cases hk
  exact ⟨h1, rfl⟩
theorem mFor_eq {mi : MI} {g : MG} {body : MS} {ks : List Nat} {ρ : DL.Env} {items : List D} (h : mi ρ = some (true, items)) : mFor mi g body ks ρ = forGo true g body ks items ρ := by unfold mFor; rw [h]
theorem Cu.nil {c h : Nat} {t : List (List Int)} : Cu c h t [] := ⟨Nat.zero_le _, fun j z => by simp at z, fun j z => by simp at z, fun j _ z => by simp at z⟩
theorem Fl.nil {c h : Nat} : Fl c h [] where
  row := fun x m => by cases m
  lo := fun i j z => absurd z (Nat.not_lt_zero _)
  rr := fun i j z => absurd z (Nat.not_lt_zero _)
  cc := fun i j z => absurd z (Nat.not_lt_zero _)
theorem ET_room {k0 : Nat} {ns : List Int} {r c h : Nat} {t : List (List Int)} {a b m w v : Sl} : (ET k0 ns r c h t a b m w v)[2]? = some (.sh (dRoom r c h)) := rfl
theorem inner_ok {k0 : Nat} (hk0 : k0 ≤ 1000) {ns : List Int} (hns : ns.length ≤ 63) {r c h : Nat} (M : Rm r c h) {t : List (List Int)} (F : Fl c h t) (ht : t.length < r) :
    ∃ x, Cu c h t x ∧ x.length = c ∧ forGo true (mgName 5) (mBody A) [5, 6, 7, 8] (rg 0 c) (ET k0 ns r c h (t ++ [[]]) (.sh (.int t.length)) .dead .dead .dead .dead) = some (.nx (ET k0 ns r c h (t ++ [x]) (.sh (.int t.length)) .dead .dead .dead .dead)) := by
  obtain ⟨ρ, h1, x, h2, h3, rfl⟩ := forGo_inv (s := true) (g := mgName 5) (body := mBody A) (ks := [5, 6, 7, 8]) (items := rg 0 c) (ρ0 := ET k0 ns r c h (t ++ [[]]) (.sh (.int t.length)) .dead .dead .dead .dead) (fun i ρ => ∃ x, x.length = i ∧ Cu c h t x ∧ ρ = ET k0 ns r c h (t ++ [x]) (.sh (.int t.length)) .dead .dead .dead .dead) ⟨[], rfl, .nil, rfl⟩ fun i d ρ hd hI => by
    obtain ⟨x, hx, C, rfl⟩ := hI
    obtain ⟨hi, rfl⟩ := rg_at hd
    subst hx
    obtain ⟨v, m, w, hv0, hv1, hb⟩ := body_ok (A := A) hk0 hns M F C hi ht
    exact ⟨ET k0 ns r c h (t ++ [x]) (.sh (.int t.length)) (.sh (.int x.length)) .dead .dead .dead, _, rfl, .inl hb, x ++ [v], by simp, C.push hi hv0 hv1, rfl⟩
  refine ⟨x, h3, ?_, h1⟩
  rw [h2, rg0]; simp
theorem app_row (k0 : Nat) (ns : List Int) (r c h : Nat) (t : List (List Int)) (a : Sl) (ht : t.length < 100000) (ha : ∀ x, a ≠ .vw x) : mAppend (mpV 3) (mLst mNil) (ET k0 ns r c h t a .dead .dead .dead .dead) = some (.nx (ET k0 ns r c h (t ++ [[]]) a .dead .dead .dead .dead)) := by
  have q1 : mpV 3 (ET k0 ns r c h t a .dead .dead .dead .dead) = some (3, []) := rfl
  have q2 : mLst mNil (ET k0 ns r c h t a .dead .dead .dead .dead) = some (.tr (.own [])) := by simp [mLst, mNil, trees]
  have q4 : (ET k0 ns r c h t a .dead .dead .dead .dead)[3]? = some (.tr (sTab t)) := rfl
  have q5 : R.tree (.tr (.own [])) = some (.own []) := rfl
  have q6 : S.get [] (sTab t) = some (.own (t.map sRow)) := rfl
  have q7 : S.put (.own (t.map sRow ++ [.own []])) [] (sTab t) = sTab (t ++ [[]]) := by simp [S.put, sTab, sRow]
  unfold mAppend
  simp only [q1, q2, q4, q5, q6, q7]
  rw [if_pos (by rw [List.length_map]; exact ht)]
  cases a with
  | vw x => exact (ha x rfl).elim
  | _ => rfl
theorem table_fl {k0 : Nat} (hk0 : k0 ≤ 1000) {ns : List Int} (hns : ns.length ≤ 63) {r c h : Nat} (M : Rm r c h) : ∃ t, (Fl c h t ∧ t.length = r) ∧ g__law_table A [.scr ns, .int k0, dRoom r c h] = some (.ret (sTab t)) := by
  have hr := M.r; have hc := M.c; have hh := M.h
  let ob : MS := (mSeq (mAppend (mpV 3) (mLst mNil)) (mKill [5, 6, 7, 8] (mFor (mRg1 (mCons (mOp fIx (mVar 2) (mC (.int 1))) mNil)) (mgName 5) (mBody A) [5, 6, 7, 8])))
  obtain ⟨ρ, h1, t, h2, h3, rfl⟩ := forGo_inv (s := true) (g := mgName 4) (body := ob) (ks := [4, 5, 6, 7, 8]) (items := rg 0 r) (ρ0 := ET k0 ns r c h [] .dead .dead .dead .dead .dead) (fun i ρ => ∃ t, t.length = i ∧ Fl c h t ∧ ρ = ET k0 ns r c h t .dead .dead .dead .dead .dead) ⟨[], rfl, .nil, rfl⟩ fun i d ρ hd hI => by
    obtain ⟨t, hx, F, rfl⟩ := hI
    obtain ⟨hi, rfl⟩ := rg_at hd
    subst hx
    obtain ⟨x, C, hx, hb⟩ := inner_ok (A := A) hk0 hns M F hi
    refine ⟨ET k0 ns r c h t (.sh (.int t.length)) .dead .dead .dead .dead, ET k0 ns r c h (t ++ [x]) (.sh (.int t.length)) .dead .dead .dead .dead, rfl, .inl ?_, t ++ [x], by simp, F.push C hx, rfl⟩
    refine mSeq_n (app_row k0 ns r c h t _ (by omega) (fun x => by simp)) ?_
    show mFor _ _ _ _ (ET k0 ns r c h (t ++ [[]]) (.sh (.int t.length)) .dead .dead .dead .dead) = _
    rw [mFor_eq (mRg1_eval (one (room_ix ET_room).2.1) rfl (by omega))]
    exact hb
  have hl : t.length = r := by rw [h2, rg0]; simp
  refine ⟨t, ⟨h3, hl⟩, ?_⟩
  refine run2 (ρ := ET k0 ns r c h [] .dead .dead .dead .dead .dead) ?_ ?_
  · simp [mSet, mLst, mNil, trees, R.slot, env0, ET, sTab]
  · show mSeq _ _ (ET k0 ns r c h [] .dead .dead .dead .dead .dead) = _
    have e : mFor (mRg1 (mCons (mOp fIx (mVar 2) (mC (.int 0))) mNil)) (mgName 4) ob [4, 5, 6, 7, 8] (ET k0 ns r c h [] .dead .dead .dead .dead .dead) = some (.nx (ET k0 ns r c h t .dead .dead .dead .dead .dead)) := by
      rw [mFor_eq (mRg1_eval (one (room_ix ET_room).1) rfl (by omega))]
      exact h1
    refine mSeq_n e ?_
    rfl
theorem table_ok {k0 : Nat} (hk0 : k0 ≤ 1000) {ns : List Int} (hns : ns.length ≤ 63) {r c h : Nat} (M : Rm r c h) : ∃ t, Tab r c h t ∧ g__law_table A [.scr ns, .int k0, dRoom r c h] = some (.ret (sTab t)) :=
  let ⟨t, ⟨h1, h2⟩, h3⟩ := table_fl hk0 hns M
  ⟨t, h1.tab h2, h3⟩
end My

set_option Elab.async false
set_option linter.all false
set_option maxRecDepth 100000
set_option maxHeartbeats 4000000
namespace My
open PySem PySem.Spec PyProof.Rows L2 DL
variable {A : Ad}
/-! loops, for many envs at once -/
inductive Go {ι : Type} (g : MG) (body : MS) (ks : List Nat) : List D → (ι → DL.Env) → (ι → DL.Env) → Prop
  | nil {ρ : ι → DL.Env} : Go g body ks [] ρ ρ
  | cons {d : D} {ds : List D} {ρ ρ1 ρ2 ρ' : ι → DL.Env} : (∀ v, g true d (ρ v) = some (ρ1 v)) → (∀ v, body (ρ1 v) = some (.nx (ρ2 v))) → Go g body ks ds (fun v => killE ks (ρ2 v)) ρ' → Go g body ks (d :: ds) ρ ρ'
theorem Go.run {ι : Type} {g : MG} {body : MS} {ks : List Nat} {ds : List D} {ρ ρ' : ι → DL.Env} (h : Go g body ks ds ρ ρ') (v : ι) : forGo true g body ks ds (ρ v) = some (.nx (ρ' v)) := by
  induction h with
  | nil => rfl
  | cons h1 h2 _ ih =>
    unfold forGo
    simp only [h1, h2]
    exact ih
theorem Go.append {ι : Type} {g : MG} {body : MS} {ks : List Nat} {ds es : List D} {ρ ρ1 ρ' : ι → DL.Env} (h : Go g body ks ds ρ ρ1) (h' : Go g body ks es ρ1 ρ') : Go g body ks (ds ++ es) ρ ρ' := by
  induction h with
  | nil => exact h'
  | cons h1 h2 _ ih => exact .cons h1 h2 (ih h')
theorem Go.flat {ι α : Type} {g : MG} {body : MS} {ks : List Nat} (Inv : Nat → (ι → DL.Env) → Prop) {L : List α} {f : α → List D} {ρ0 : ι → DL.Env} (h0 : Inv 0 ρ0)
    (step : ∀ k a ρ, L[k]? = some a → Inv k ρ → ∃ ρ', Go g body ks (f a) ρ ρ' ∧ Inv (k + 1) ρ') : ∃ ρ, Go g body ks (L.flatMap f) ρ0 ρ ∧ Inv L.length ρ := by
  induction L generalizing Inv ρ0 with
  | nil => exact ⟨ρ0, .nil, h0⟩
  | cons a as ih =>
    obtain ⟨ρ1, h1, h2⟩ := step 0 a ρ0 rfl h0
    obtain ⟨ρ, h4, h5⟩ := ih (fun i ρ => Inv (i + 1) ρ) h2 fun i d' ρ e hi => step (i + 1) d' ρ (by simpa using e) hi
    exact ⟨ρ, by rw [List.flatMap_cons]; exact h1.append h4, h5⟩
structure HS (r c : Nat) (f : Nat → Nat → Int) (u : List (List Int)) : Prop where
  len : u.length = r
  row : ∀ x ∈ u, x.length = c
  at_ : ∀ i j, i < r → j < c → at2 u i j = f i j
theorem HS.congr {r c : Nat} {f g : Nat → Nat → Int} {u : List (List Int)} (h : HS r c f u) (e : ∀ i j, i < r → j < c → f i j = g i j) : HS r c g u := ⟨h.len, h.row, fun i j hi hj => (h.at_ i j hi hj).trans (e i j hi hj)⟩
theorem HS.ext {r c h : Nat} {t u : List (List Int)} (T : Tab r c h t) (U : HS r c (at2 t) u) : u = t := by
  apply List.ext_getElem
  · rw [U.len, T.len]
  · intro i h1 h2
    have l1 := U.row _ (List.getElem_mem h1)
    have l2 := T.row _ (List.getElem_mem h2)
    apply List.ext_getElem
    · rw [l1, l2]
    · intro j h3 h4
      have := U.at_ i j (by rw [← U.len]; exact h1) (by rw [← l1]; exact h3)
      simpa [at2, h1, h2, h3, h4] using this
theorem HS.look {r c : Nat} {f : Nat → Nat → Int} {u : List (List Int)} (U : HS r c f u) {i j : Nat} (hi : i < r) (hj : j < c) : ∃ x, u[i]? = some x ∧ x.length = c ∧ x[j]? = some (f i j) := by
  have h1 : i < u.length := by rw [U.len]; exact hi
  have h2 := U.row _ (List.getElem_mem h1)
  have h3 : j < u[i].length := by rw [h2]; exact hj
  refine ⟨u[i], List.getElem?_eq_getElem h1, h2, ?_⟩
  rw [← U.at_ i j hi hj]
  simp [at2, h1, h3]
def put2 (u : List (List Int)) (i j : Nat) (v : Int) : List (List Int) := u.set i ((u.getD i []).set j v)
theorem HS.put {r c : Nat} {f : Nat → Nat → Int} {u : List (List Int)} (U : HS r c f u) {i j : Nat} (hi : i < r) (hj : j < c) (v : Int) : HS r c (fun i' j' => if i' = i ∧ j' = j then v else f i' j') (put2 u i j v) where
  len := by unfold put2; rw [List.length_set]; exact U.len
  row := fun x m => by
    unfold put2 at m
    rcases List.mem_or_eq_of_mem_set m with m | rfl
    · exact U.row x m
    · obtain ⟨y, h1, h2, _⟩ := U.look hi hj
      rw [List.length_set]; simp [h1, h2]
  at_ := fun i' j' hi' hj' => by
    have h1 : i < u.length := by rw [U.len]; exact hi
    have h2 := U.row _ (List.getElem_mem h1)
    have h3 : j < u[i].length := by rw [h2]; exact hj
    have hf := U.at_ i' j' hi' hj'
    unfold put2
    by_cases hii : i' = i
    · subst hii
      by_cases hjj : j' = j
      · subst hjj
        rw [if_pos ⟨rfl, rfl⟩]
        simp [at2, h1, h3]
      · rw [if_neg fun z => hjj z.2, ← hf]
        simp [at2, h1, List.getElem?_set_ne (Ne.symm hjj)]
    · rw [if_neg fun z => hii z.1, ← hf]
      simp [at2, List.getElem?_set_ne (Ne.symm hii)]
end My

set_option Elab.async false
set_option linter.all false
set_option maxRecDepth 100000
set_option maxHeartbeats 4000000
namespace My
open PySem PySem.Spec PyProof.Rows L2 DL
variable {A : Ad}
theorem mSet_z {i : Nat} {m : ME} {ρ : DL.Env} {z : R} {s : Sl} (h : m ρ = some z) (hs : z.slot = s) : mSet i m ρ = some (.nx (ρ.set i s)) := by simp [mSet, h, hs]
theorem mIf_t {c : MT} {a b : ME} {ρ : DL.Env} (h : c ρ = some true) : mIf c a b ρ = a ρ := by simp [mIf, h]
theorem mIf_f {c : MT} {a b : ME} {ρ : DL.Env} (h : c ρ = some false) : mIf c a b ρ = b ρ := by simp [mIf, h]
theorem fLt_ok {r q : R} {i j : Int} (h1 : r.data = .int i) (h2 : q.data = .int j) : fLt r q = some (.sh (.bl (decide (i < j)))) := by simp [fLt, flat2, h1, h2, gI]
theorem cut_take {α : Type} (xs : List α) (i : Nat) : cut xs none (some (i : Int)) = xs.take i := by
  unfold cut
  rw [show HT.sIx xs.length xs.length (some (i : Int)) = min i xs.length from HT.sIx_nat xs.length xs.length i, HT.sIx_none]
  simp
theorem cut_drop {α : Type} (xs : List α) (i : Nat) : cut xs (some (i : Int)) none = xs.drop i := by
  unfold cut
  rw [show HT.sIx xs.length 0 (some (i : Int)) = min i xs.length from HT.sIx_nat xs.length 0 i, HT.sIx_none]
  by_cases h : i ≤ xs.length
  · rw [Nat.min_eq_left h]; exact List.take_of_length_le (by simp)
  · rw [Nat.min_eq_right (by omega), List.drop_of_length_le (by omega), List.drop_of_length_le (by omega)]; simp
theorem fAdd_l {x y : R} {ns ms : List Int} (h1 : x.data = .lst (ns.map .int)) (h2 : y.data = .lst (ms.map .int)) (hl : ns.length + ms.length ≤ 100000) : fAdd x y = some (.tr (sRow (ns ++ ms))) := by
  simp only [fAdd, h1, h2]
  rw [if_pos (by simpa using hl), ← List.map_append]
  unfold newL
  rw [if_pos (imm_ints _), List.map_map]; rfl
theorem fMul_l {x y : R} {n : Int} {k : Nat} (h1 : x.data = .lst [.int n]) (h2 : y.data = .int k) (hk : k ≤ 100000) : fMul x y = some (.tr (sRow (List.replicate k n))) := by
  have e : (List.replicate k [D.int n]).flatten = (List.replicate k n).map .int := by
    simp [List.map_replicate, List.flatten_replicate_singleton]
  simp only [fMul, h1, h2]
  rw [if_pos ⟨by omega, by omega, by simp; omega⟩, Int.toNat_natCast, e]
  unfold newL
  rw [if_pos (imm_ints _), List.map_map]; rfl
theorem mLst_one {m : ME} {ρ : DL.Env} {n : Int} (h : m ρ = some (.sh (.int n))) : mLst (mCons m mNil) ρ = some (.tr (.own [.d (.int n)])) := by
  simp [mLst, mCons, mNil, h, trees, R.tree, imm]
theorem mCB_one {g : List D → Option R} {m : ME} {ρ : DL.Env} {x z : R} (h1 : m ρ = some x) (h3 : g [x.data] = some z) : mCB g (mCons m mNil) ρ = some z := by
  simp [mCB, mCons, mNil, h1, h3]
theorem Fl.hs {r c h : Nat} {t : List (List Int)} (F : Fl c h t) (hl : t.length = r) : HS r c (at2 t) t := ⟨hl, F.row, fun _ _ _ _ => rfl⟩
/-- a table of the room, by its places -/
structure Pw (r c h : Nat) (f : Nat → Nat → Int) : Prop where
  lo : ∀ i j, i < r → j < c → 0 ≤ f i j ∧ f i j ≤ (h : Int)
  rr : ∀ i j, i < r → j + 1 < c → f i (j + 1) ≤ f i j
  cc : ∀ i j, i + 1 < r → j < c → f (i + 1) j ≤ f i j
theorem Pw.fl {r c h : Nat} {f : Nat → Nat → Int} {t : List (List Int)} (P : Pw r c h f) (H : HS r c f t) : Fl c h t where
  row := H.row
  lo := fun i j hi hj => by rw [H.len] at hi; rw [H.at_ i j hi hj]; exact P.lo i j hi hj
  rr := fun i j hi hj => by rw [H.len] at hi; rw [H.at_ i j hi (by omega), H.at_ i _ hi hj]; exact P.rr i j hi hj
  cc := fun i j hi hj => by rw [H.len] at hi; rw [H.at_ i j (by omega) hj, H.at_ _ j hi hj]; exact P.cc i j hi hj
theorem Fl.pw {r c h : Nat} {t : List (List Int)} (F : Fl c h t) (hl : t.length = r) : Pw r c h (at2 t) where
  lo := fun i j hi hj => F.lo i j (by omega) hj
  rr := fun i j hi hj => F.rr i j (by omega) hj
  cc := fun i j hi hj => F.cc i j (by omega) hj
/-- what most says -/
theorem mostv_spec (t : List (List Int)) (h i j : Nat) (v : Int) : v ≤ mostv t h i j ↔ v ≤ h ∧ (0 < j → v ≤ at2 t i (j - 1)) ∧ (0 < i → v ≤ at2 t (i - 1) j) ∨ (v ≤ mostv t h i j ∧ False) := by
  unfold mostv
  by_cases h1 : 0 < j
  · by_cases h2 : 0 < i
    · simp only [if_pos h1, if_pos h2]; omega
    · simp only [if_pos h1, if_neg h2]; omega
  · by_cases h2 : 0 < i
    · simp only [if_neg h1, if_pos h2]; omega
    · simp only [if_neg h1, if_neg h2]; omega
theorem mostv_le {t : List (List Int)} {h i j : Nat} {v : Int} (hv : v ≤ mostv t h i j) : v ≤ h ∧ (0 < j → v ≤ at2 t i (j - 1)) ∧ (0 < i → v ≤ at2 t (i - 1) j) := by
  rcases (mostv_spec t h i j v).mp hv with z | z
  · exact z
  · exact z.2.elim
theorem Pw.le_most {r c h : Nat} {t : List (List Int)} (P : Pw r c h (at2 t)) {i j : Nat} (hi : i < r) (hj : j < c) : at2 t i j ≤ mostv t h i j := by
  rw [mostv_spec]
  refine .inl ⟨(P.lo i j hi hj).2, fun z => ?_, fun z => ?_⟩
  · have := P.rr i (j - 1) hi (by omega); rw [show j - 1 + 1 = j by omega] at this; exact this
  · have := P.cc (i - 1) j (by omega) hj; rw [show i - 1 + 1 = i by omega] at this; exact this
theorem fNe_int {r q : R} {i j : Int} (h1 : r.data = .int i) (h2 : q.data = .int j) : fNe r q = some (.sh (.bl (!decide (i = j)))) := by simp [fNe, flat2, h1, h2]
theorem mOr_f {a b : MT} {ρ : DL.Env} (h1 : a ρ = some false) (h2 : b ρ = some false) : mOr a b ρ = some false := by simp [mOr, h1, h2]
theorem mNot_t {a : MT} {ρ : DL.Env} (h1 : a ρ = some true) : mNot a ρ = some false := by simp [mNot, h1]
theorem isi_lst {m : ME} {ρ : DL.Env} {z : R} {ds : List D} (h : m ρ = some z) (hz : z.data = .lst ds) : mTst (mIsi "list" m) ρ = some true := by
  unfold mTst mIsi
  rw [h]
  simp only [Option.map_some, hz]
  simp (config := { decide := true }) [R.data, D.ty, isTy]
theorem mCB_1 {g : List D → Option R} {m : ME} {ρ : DL.Env} {x z : R} (h1 : m ρ = some x) (h3 : g [x.data] = some z) : mCB g (mCons m mNil) ρ = some z := by
  simp [mCB, mCons, mNil, h1, h3]
theorem four {ma mb mc md : ME} {ρ : DL.Env} {x y z w : R} (h1 : ma ρ = some x) (h2 : mb ρ = some y) (h3 : mc ρ = some z) (h4 : md ρ = some w) : mCons ma (mCons mb (mCons mc (mCons md mNil))) ρ = some [x, y, z, w] := by simp [mCons, mNil, h1, h2, h3, h4]
theorem most_hs {r c h : Nat} {u : List (List Int)} (U : HS r c (at2 u) u) {i j : Nat} (hi : i < r) (hj : j < c) : g__law_most A [dTab u, dRoom r c h, .int i, .int j] = some (.ret (.d (.int (mostv u h i j)))) := by
  refine most_ok (fun z => ?_) fun z => ?_
  · obtain ⟨y, k1, k2, _⟩ := U.look hi (show j - 1 < c by omega)
    exact ⟨y, k1, by omega⟩
  · obtain ⟨y, k1, k2, _⟩ := U.look (show i - 1 < r by omega) hj
    exact ⟨y, k1, by omega⟩
theorem cut_len {α : Type} (xs : List α) (a b : Option Int) : (cut xs a b).length ≤ xs.length := by
  unfold cut
  rw [List.length_take, List.length_drop]
  omega
theorem law_of_any (ns : List Int) (hl : ns.length ≤ 63) (k : Int) : ∃ v, g__law_of A [.scr ns, .int k] = some (.ret (.d (.int v))) := by
  generalize hz : cut ns (some k) (some (k + 1)) = zs
  have hzl : zs.length ≤ 63 := by rw [← hz]; exact Nat.le_trans (cut_len _ _ _) hl
  have e1 : mSl (mVar 0) (mPart (mVar 1)) (mPart (mOp fAdd (mVar 1) (mC (.int 1)))) [.sh (.scr ns), .sh (.int k)] = some (.tr (sRow zs)) := by
    have w0 : mVar 0 [.sh (.scr ns), .sh (.int k)] = some (.sh (.scr ns)) := rfl
    have w1 : mPart (mVar 1) [.sh (.scr ns), .sh (.int k)] = some (some k) := rfl
    have w2 : mPart (mOp fAdd (mVar 1) (mC (.int 1))) [.sh (.scr ns), .sh (.int k)] = some (some (k + 1)) := rfl
    unfold mSl
    rw [w0, w1, w2]
    simp only [R.data, fSl, hz, newL, imm_ints, if_true]
    rw [List.map_map]; rfl
  have e2 : mOp fAdd (mSl (mVar 0) (mPart (mVar 1)) (mPart (mOp fAdd (mVar 1) (mC (.int 1))))) (mLst (mCons (mC (.int 0)) mNil)) [.sh (.scr ns), .sh (.int k)] = some (.tr (sRow (zs ++ [0]))) :=
    mOp_eq e1 (mLst_one rfl) (fAdd_l (sRow_data _) (ms := [0]) rfl (by simp; omega))
  obtain ⟨v, hv⟩ : ∃ v, (zs ++ [0])[0]? = some v := ⟨(zs ++ [0])[0]'(by simp), List.getElem?_eq_getElem _⟩
  have e3 : mOp fIx (mOp fAdd (mSl (mVar 0) (mPart (mVar 1)) (mPart (mOp fAdd (mVar 1) (mC (.int 1))))) (mLst (mCons (mC (.int 0)) mNil))) (mC (.int 0)) [.sh (.scr ns), .sh (.int k)] = some (.vw (.int v)) :=
    mOp_eq e2 rfl (fIx_tr (i := 0) (sRow_data _) (by simp only [List.getElem?_map, hv, Option.map_some]))
  refine ⟨v, run1 ?_⟩
  show mRet _ [.sh (.scr ns), .sh (.int k)] = _
  simp [mRet, e3, R.tree, imm]
theorem wh_run {mt : MT} {body : MS} {ks : List Nat} (E : Nat → DL.Env) {p : Nat} (hc : ∀ k, k < p → mt (E k) = some true) (hb : ∀ k, k < p → ∃ ρ, body (E k) = some (.nx ρ) ∧ killE ks ρ = E (k + 1)) (he : mt (E p) = some false) :
    ∀ (m k n : Nat), k + m = p → m < n → whGo mt body ks n (E k) = some (.nx (E p)) := by
  intro m
  induction m with
  | zero =>
    intro k n hk hn
    cases n with
    | zero => omega
    | succ n =>
      rw [Nat.add_zero] at hk; subst hk
      unfold whGo
      simp only [he]
  | succ m ih =>
    intro k n hk hn
    cases n with
    | zero => omega
    | succ n =>
      obtain ⟨ρ, h1, h2⟩ := hb k (by omega)
      unfold whGo
      simp only [hc k (by omega), h1, h2]
      exact ih (k + 1) n (by omega) (by omega)
theorem mCall_t {n : Nat} {g : List D → Option FO} {ms : MA} {ρ : DL.Env} {rs : List R} {ss : List S} (h1 : ms ρ = some rs) (hn : rs.length = n) (h2 : g (rs.map R.data) = some (.ret (.own ss))) : mCall n g ms ρ = some (.tr (.own ss)) := by
  unfold mCall
  simp [h1, hn, h2, retR]
theorem two {ma mb : ME} {ρ : DL.Env} {x y : R} (h1 : ma ρ = some x) (h2 : mb ρ = some y) : mCons ma (mCons mb mNil) ρ = some [x, y] := by simp [mCons, mNil, h1, h2]
theorem three {ma mb mc : ME} {ρ : DL.Env} {x y z : R} (h1 : ma ρ = some x) (h2 : mb ρ = some y) (h3 : mc ρ = some z) : mCons ma (mCons mb (mCons mc mNil)) ρ = some [x, y, z] := by simp [mCons, mNil, h1, h2, h3]
theorem mLst_3 {ma mb mc : ME} {ρ : DL.Env} {x y z : Int} (h1 : ma ρ = some (.sh (.int x))) (h2 : mb ρ = some (.sh (.int y))) (h3 : mc ρ = some (.sh (.int z))) : mLst (mCons ma (mCons mb (mCons mc mNil))) ρ = some (.tr (sRow [x, y, z])) := by
  simp [mLst, mCons, mNil, h1, h2, h3, trees, R.tree, imm, sRow]
theorem mRg2_eval {ma mb : ME} {ρ : DL.Env} {x y : R} {i n : Nat} (h1 : ma ρ = some x) (h2 : mb ρ = some y) (d1 : x.data = .int i) (d2 : y.data = .int ((i + n : Nat) : Int)) (hn : i + n ≤ 1000000) : mRg2 (mCons ma (mCons mb mNil)) ρ = some (true, rg i n) := by
  unfold mRg2
  rw [two h1 h2]
  simp only [List.map_cons, List.map_nil, d1, d2]
  rw [if_pos (by omega), show (((i + n : Nat) : Int) - i).toNat = n by omega]
theorem gInt_b (b : Bool) : gInt [.bl b] = some (.sh (.int (if b then 1 else 0))) := rfl
theorem mAnd_t {a b : MT} {ρ : DL.Env} {v : Bool} (h1 : a ρ = some true) (h2 : b ρ = some v) : mAnd a b ρ = some v := by simp [mAnd, h1, h2]
theorem HS.self {r c h : Nat} {f : Nat → Nat → Int} {u : List (List Int)} (P : Pw r c h f) (H : HS r c f u) : HS r c (at2 u) u ∧ Pw r c h (at2 u) ∧ Tab r c h u := by
  have F := P.fl H
  exact ⟨F.hs H.len, F.pw H.len, F.tab H.len⟩
/-- a place may be raised to what most says -/
theorem Pw.raise {r c h : Nat} {t : List (List Int)} (P : Pw r c h (at2 t)) {i j : Nat} (hi : i < r) (hj : j < c) {v : Int} (h0 : at2 t i j ≤ v) (hv : v ≤ mostv t h i j) : Pw r c h (fun i' j' => if i' = i ∧ j' = j then v else at2 t i' j') where
  lo := fun i' j' hi' hj' => by
    have := P.lo i j hi hj
    have := mostv_le hv
    have := P.lo i' j' hi' hj'
    by_cases e : i' = i ∧ j' = j
    · simp only [if_pos e]; omega
    · simp only [if_neg e]; omega
  rr := fun i' j' hi' hj' => by
    have k1 := P.rr i' j' hi' hj'
    have k2 := (mostv_le hv).2.1
    by_cases e1 : i' = i ∧ j' + 1 = j
    · obtain ⟨rfl, rfl⟩ := e1
      have := k2 (by omega)
      rw [show j' + 1 - 1 = j' by omega] at this
      rw [if_pos ⟨rfl, rfl⟩, if_neg (show ¬ (i' = i' ∧ j' = j' + 1) by omega)]; exact this
    · by_cases e2 : i' = i ∧ j' = j
      · obtain ⟨rfl, rfl⟩ := e2
        rw [if_neg e1, if_pos ⟨rfl, rfl⟩]; omega
      · rw [if_neg e1, if_neg e2]; exact k1
  cc := fun i' j' hi' hj' => by
    have k1 := P.cc i' j' hi' hj'
    have k2 := (mostv_le hv).2.2
    by_cases e1 : i' + 1 = i ∧ j' = j
    · obtain ⟨rfl, rfl⟩ := e1
      have := k2 (by omega)
      rw [show i' + 1 - 1 = i' by omega] at this
      rw [if_pos ⟨rfl, rfl⟩, if_neg (show ¬ (i' = i' + 1 ∧ j' = j') by omega)]; exact this
    · by_cases e2 : i' = i ∧ j' = j
      · obtain ⟨rfl, rfl⟩ := e2
        rw [if_neg e1, if_pos ⟨rfl, rfl⟩]; omega
      · rw [if_neg e1, if_neg e2]; exact k1
theorem setIx_tab {ρ : DL.Env} {u : List (List Int)} {r c : Nat} {f : Nat → Nat → Int} (U : HS r c f u) {q i j : Nat} {mi mj me : ME} {y1 y2 z : R} {v : Int} (hq : ρ[q]? = some (.tr (sTab u))) (h1 : mi ρ = some y1) (d1 : y1.data = .int i) (h2 : mj ρ = some y2) (d2 : y2.data = .int j) (h3 : me ρ = some z) (d3 : z.tree = some (.d (.int v))) (hi : i < r) (hj : j < c) :
    mSetIx (mpIx (mpV q) mi) mj me ρ = some (.nx ((killVw ρ).set q (.tr (sTab (put2 u i j v))))) := by
  obtain ⟨x, hx1, hx2, hx3⟩ := U.look hi hj
  have hiu : i < u.length := by rw [U.len]; exact hi
  have w5 : mpV q ρ = some (q, []) := by unfold mpV; rw [hq]; rfl
  have p : mpIx (mpV q) mi ρ = some (q, [i]) := by
    have n1 : nodeAt ρ q [] = some (u.map sRow) := by unfold nodeAt; rw [hq]; rfl
    have k1 : ixN (u.map sRow).length i = some i := by rw [tab_len]; simp [ixN, hiu]
    have k2 : (u.map sRow)[i]? = some (sRow x) := by simp [hx1]
    unfold mpIx
    rw [w5, h1]
    simp only [n1, d1, k1, k2]
    rfl
  have gp : S.get [i] (sTab u) = some (.own (x.map fun n => .d (.int n))) := by
    have k2 : (u.map sRow)[i]? = some (sRow x) := by simp [hx1]
    simp only [S.get, sTab, k2]; rfl
  have k3 : ixN (x.map fun n => S.d (.int n)).length j = some j := by rw [List.length_map]; simp [ixN, hx2, hj]
  have pp : S.put (.own ((x.map fun n => S.d (.int n)).set j (.d (.int v)))) [i] (sTab u) = sTab (put2 u i j v) := by
    have k2 : (u.map sRow)[i]? = some (sRow x) := by simp [hx1]
    simp only [S.put, sTab, k2, put2, List.map_set]
    congr 2
    simp [sRow, hx1, List.map_set]
  unfold mSetIx
  rw [p, h2, h3]
  simp only [hq, d2, d3, gp, k3, pp]
end My

set_option Elab.async false
set_option linter.all false
set_option maxRecDepth 100000
set_option maxHeartbeats 4000000
namespace My
open PySem PySem.Spec PyProof.Rows L2 DL
variable {A : Ad}
def EP (r c h : Nat) (t : List (List Int)) (i j : Nat) (s6 s7 : Sl) : DL.Env := [.sh (dRoom r c h), .sh (dTab t), .sh (dP (i, j)), .sh (.int i), .sh (.int j), .sh (.int h), s6, s7]
theorem two_ix {r c h : Nat} {t : List (List Int)} (T : Tab r c h t) {ρ : DL.Env} {mi mj : ME} {i j : Nat} {y z : R} (ht : ρ[1]? = some (.sh (dTab t))) (h1 : mi ρ = some y) (h2 : mj ρ = some z) (hy : y.data = .int i) (hz : z.data = .int j) (hi : i < r) (hj : j < c) : ∃ w, mOp fIx (mOp fIx (mVar 1) mi) mj ρ = some w ∧ w.data = .int (at2 t i j) ∧ w.slot = .sh (.int (at2 t i j)) := by
  obtain ⟨x, k1, k2, _⟩ := tab_at T hi hj
  have w1 : mVar 1 ρ = some (.sh (dTab t)) := by simp [mVar, ht]
  obtain ⟨z1, q1, q2, _⟩ := mIx (ma := mVar 1) w1 h1 (ds := t.map dRow) rfl hy (d := dRow x) (by simp [k1])
  obtain ⟨z2, q3, q4, q5⟩ := mIx q1 h2 q2 hz (d := .int (at2 t i j)) (by simp [k2])
  exact ⟨z2, q3, q4, q5 rfl⟩
theorem mayput_ok {r c h : Nat} {t : List (List Int)} (M : Rm r c h) (T : Tab r c h t) {i j : Nat} (hi : i < r) (hj : j < c) (lo : ∀ i j, i < r → j < c → at2 t i j ≤ h) : g_may_put A [dRoom r c h, dTab t, dP (i, j)] = some (.ret (.d (.bl (decide (at2 t i j < mostv t h i j))))) := by
  refine run2 (ρ := [.sh (dRoom r c h), .sh (dTab t), .sh (dP (i, j)), .sh (.int i), .sh (.int j), .dead, .dead, .dead]) ?_ ?_
  · simp [mSetT, mVar, env0, mgTup, setE, itR, R.slot, dP, R.data, R.fixed]
  refine mSeq_n (ρ1 := EP r c h t i j .dead .dead) (mSet_d (room_ix (k := 0) (r := r) (c := c) (h := h) rfl).2.2) ?_
  generalize hL : (if 0 < j then at2 t i (j - 1) else (h : Int)) = lf
  generalize hA : (if 0 < i then at2 t (i - 1) j else (h : Int)) = ah
  have e6 : mSet 6 (mIf (mTst (mOp fGt (mVar 4) (mC (.int 0)))) (mOp fIx (mOp fIx (mVar 1) (mVar 3)) (mOp fSub (mVar 4) (mC (.int 1)))) (mVar 5)) (EP r c h t i j .dead .dead) = some (.nx (EP r c h t i j (.sh (.int lf)) .dead)) := by
    have q : mOp fGt (mVar 4) (mC (.int 0)) (EP r c h t i j .dead .dead) = some (.sh (.bl (decide ((0:Int) < j)))) := mOp_eq rfl rfl (fGt_ok rfl rfl)
    by_cases h0 : 0 < j
    · rw [if_pos h0] at hL; subst hL
      have q3 : mOp fSub (mVar 4) (mC (.int 1)) (EP r c h t i j .dead .dead) = some (.sh (.int ((j - 1 : Nat) : Int))) := by
        rw [show ((j - 1 : Nat) : Int) = (j : Int) - 1 by omega]
        exact mOp_eq rfl rfl (fSub_ok rfl rfl)
      obtain ⟨w, w1, w2, w3⟩ := two_ix T (mi := mVar 3) (i := i) (ρ := EP r c h t i j .dead .dead) rfl rfl q3 rfl rfl hi (by omega)
      exact mSet_z ((mIf_t (mTst_b (by rw [q]; simp [h0]))).trans w1) w3
    · rw [if_neg h0] at hL; subst hL
      exact mSet_z ((mIf_f (mTst_b (by rw [q]; simp [h0]))).trans rfl) rfl
  have e7 : mSet 7 (mIf (mTst (mOp fGt (mVar 3) (mC (.int 0)))) (mOp fIx (mOp fIx (mVar 1) (mOp fSub (mVar 3) (mC (.int 1)))) (mVar 4)) (mVar 5)) (EP r c h t i j (.sh (.int lf)) .dead) = some (.nx (EP r c h t i j (.sh (.int lf)) (.sh (.int ah)))) := by
    have q : mOp fGt (mVar 3) (mC (.int 0)) (EP r c h t i j (.sh (.int lf)) .dead) = some (.sh (.bl (decide ((0:Int) < i)))) := mOp_eq rfl rfl (fGt_ok rfl rfl)
    by_cases h0 : 0 < i
    · rw [if_pos h0] at hA; subst hA
      have q3 : mOp fSub (mVar 3) (mC (.int 1)) (EP r c h t i j (.sh (.int lf)) .dead) = some (.sh (.int ((i - 1 : Nat) : Int))) := by
        rw [show ((i - 1 : Nat) : Int) = (i : Int) - 1 by omega]
        exact mOp_eq rfl rfl (fSub_ok rfl rfl)
      obtain ⟨w, w1, w2, w3⟩ := two_ix T (mj := mVar 4) (j := j) (ρ := EP r c h t i j (.sh (.int lf)) .dead) rfl q3 rfl rfl rfl (by omega) hj
      exact mSet_z ((mIf_t (mTst_b (by rw [q]; simp [h0]))).trans w1) w3
    · rw [if_neg h0] at hA; subst hA
      exact mSet_z ((mIf_f (mTst_b (by rw [q]; simp [h0]))).trans rfl) rfl
  refine mSeq_n e6 (mSeq_n e7 (mRet_d ?_ rfl))
  obtain ⟨w, w1, w2, _⟩ := two_ix T (mi := mVar 3) (mj := mVar 4) (i := i) (j := j) (ρ := EP r c h t i j (.sh (.int lf)) (.sh (.int ah))) rfl rfl rfl rfl rfl hi hj
  have q : mCB gMin (mCons (mVar 6) (mCons (mVar 7) mNil)) (EP r c h t i j (.sh (.int lf)) (.sh (.int ah))) = some (.sh (.int (min lf ah))) := mCB_two rfl rfl gMin_ok
  refine mOp_eq w1 q ((fLt_ok w2 rfl).trans ?_)
  have hm : min lf ah = mostv t h i j := by
    unfold mostv
    rw [← hL, ← hA]
    by_cases h1 : 0 < j
    · have := lo i (j - 1) hi (by omega)
      by_cases h2 : 0 < i
      · simp only [if_pos h1, if_pos h2]; omega
      · simp only [if_pos h1, if_neg h2]; omega
    · by_cases h2 : 0 < i
      · have := lo (i - 1) j (by omega) hj
        simp only [if_neg h1, if_pos h2]
      · simp only [if_neg h1, if_neg h2]; omega
  rw [hm]
theorem puts_ok {r c h : Nat} {t : List (List Int)} (M : Rm r c h) (T : Tab r c h t) (lo : ∀ i j, i < r → j < c → at2 t i j ≤ h) : g_puts A [dRoom r c h, dTab t] = some (.ret (.own (((places r c).filter fun p => decide (at2 t p.1 p.2 < mostv t h p.1 p.2)).map fun p => .d (dP p)))) := by
  have hr := M.r; have hc := M.c; have hh := M.h
  refine run2 (ρ := [.sh (dRoom r c h), .sh (dTab t), .dead]) ?_ ?_
  · simp [env0, mDropC, mCallO, mCons, mVar, mNil, R.data, check_ok M T]
  refine mRet_t ?_
  have e3 : S.dataL ((places r c).map fun p => .d (dP p)) = (places r c).map dP := by
    rw [show ((places r c).map fun p => S.d (dP p)) = ((places r c).map dP).map S.d by rw [List.map_map]; rfl, dataL_d]
  rw [mLc_eval (s := true) (items := (places r c).map dP) (fun d => match d with | .tup [.int i, .int j] => decide (at2 t i.toNat j.toNat < mostv t h i.toNat j.toNat) | _ => false) (fun d => .sh d) (fun d => .d d)]
  · simp [List.filter_map, Function.comp_def, dP]
  · simp [mIL, mCall, mCons, mNil, mVar, R.data, places_ok M, retR, R.fixed, S.data, e3]
  · rw [List.length_map]
    refine Nat.le_trans (flat_len (m := 20) fun d _ => ?_) ?_
    · simp; omega
    · simp; omega
  · rfl
  · intro d m
    obtain ⟨p, hp, rfl⟩ := List.mem_map.mp m
    rw [mem_places] at hp
    refine ⟨[.sh (dRoom r c h), .sh (dTab t), .sh (dP p)], rfl, ?_, fun _ => ⟨rfl, by simp [R.tree, imm, immL, dP]⟩⟩
    have := mayput_ok (A := A) M T hp.1 hp.2 lo
    simp only [dP] at this
    simp [mTst, mCall, mCons, mNil, mVar, R.data, this, retR, dP]
end My

set_option Elab.async false
set_option linter.all false
set_option maxRecDepth 100000
set_option maxHeartbeats 4000000
namespace My
open PySem PySem.Spec PyProof.Rows L2 DL
variable {A : Ad}
def aft (t : List (List Int)) (r c i j : Nat) : List (List Int) := t.take i ++ [(t.getD i []).take j ++ [at2 t i j + 1] ++ List.replicate (c - j - 1) 0] ++ List.replicate (r - i - 1) (List.replicate c 0)
def putsL (t : List (List Int)) (r c h : Nat) : List (Nat × Nat) := (places r c).filter fun p => decide (at2 t p.1 p.2 < mostv t h p.1 p.2)
def EA (r c h : Nat) (t : List (List Int)) (s2 s3 s4 s5 s6 s7 s8 : Sl) : DL.Env := [.sh (dRoom r c h), .sh (dTab t), s2, s3, s4, s5, s6, s7, s8, .dead, .dead]
theorem after_none {r c h : Nat} {t : List (List Int)} (M : Rm r c h) (T : Tab r c h t) (lo : ∀ i j, i < r → j < c → at2 t i j ≤ h) (he : putsL t r c h = []) : g_after A [dRoom r c h, dTab t] = some (.ret (.d .non)) := by
  have hp := puts_ok (A := A) M T lo
  rw [show ((places r c).filter fun p => decide (at2 t p.1 p.2 < mostv t h p.1 p.2)) = [] from he] at hp
  simp only [g_after, m_after]
  simp [runF, env0, mSeq, mSetC, mCallO, mCons, mVar, mNil, R.data, hp, retR, R.slot, mIfS, mNot, mTru, S.data, S.dataL, tru, mRet, mC, R.tree, imm, outF]
theorem after_some {r c h : Nat} {t : List (List Int)} (M : Rm r c h) (T : Tab r c h t) (lo : ∀ i j, i < r → j < c → at2 t i j ≤ h) {i j : Nat} (he : (putsL t r c h).getLast? = some (i, j)) : g_after A [dRoom r c h, dTab t] = some (.ret (sTab (aft t r c i j))) := by
  have hr := M.r; have hc := M.c; have hh := M.h
  have hm : (i, j) ∈ putsL t r c h := List.mem_of_getLast? he
  have hij := mem_places.mp (List.mem_filter.mp hm).1
  have hi : i < r := hij.1
  have hj : j < c := hij.2
  have hp : g_puts A [dRoom r c h, dTab t] = some (.ret (.own ((putsL t r c h).map fun p => .d (dP p)))) := puts_ok (A := A) M T lo
  let pl : Sl := .tr (.own ((putsL t r c h).map fun p => .d (dP p)))
  have pd : S.dataL ((putsL t r c h).map fun p => .d (dP p)) = (putsL t r c h).map dP := by
    rw [show ((putsL t r c h).map fun p => S.d (dP p)) = ((putsL t r c h).map dP).map S.d by rw [List.map_map]; rfl, dataL_d]
  refine run2 (ρ := EA r c h t pl .dead .dead .dead .dead .dead .dead) ?_ ?_
  · simp [env0, mSetC, mCallO, mCons, mVar, mNil, R.data, hp, retR, R.slot, EA, pl]
  have w2 : mVar 2 (EA r c h t pl .dead .dead .dead .dead .dead .dead) = some (.vw (.lst ((putsL t r c h).map dP))) := by
    rw [← pd]; rfl
  have e3 : mIfS (mNot (mTru (mVar 2))) (mRet (mC .non)) mNext (EA r c h t pl .dead .dead .dead .dead .dead .dead) = some (.nx (EA r c h t pl .dead .dead .dead .dead .dead .dead)) := by
    have hne : (putsL t r c h).map dP ≠ [] := fun z => by
      rw [List.map_eq_nil_iff] at z; rw [z] at hm; cases hm
    rw [mIfS_f]
    · rfl
    · unfold mNot mTru
      rw [w2]
      simp [R.data, tru]
      intro z; exact hne (by rw [z]; rfl)
  refine mSeq_n e3 ?_
  have e4 : mSetT (mgTup [3, 4]) (mOp fIx (mVar 2) (mNeg (mC (.int 1)))) (EA r c h t pl .dead .dead .dead .dead .dead .dead) = some (.nx (EA r c h t pl (.sh (.int i)) (.sh (.int j)) .dead .dead .dead .dead)) := by
    have q : mOp fIx (mVar 2) (mNeg (mC (.int 1))) (EA r c h t pl .dead .dead .dead .dead .dead .dead) = some (.vw (dP (i, j))) := by
      refine mOp_eq (y := .sh (.int (-1))) w2 rfl ?_
      have : atI ((putsL t r c h).map dP) (-1) = some (dP (i, j)) := by
        have h1 : ((putsL t r c h).map dP).getLast? = some (dP (i, j)) := by rw [List.getLast?_map, he]; rfl
        rw [List.getLast?_eq_getElem?] at h1
        have h2 := (List.getElem?_eq_some_iff.mp h1).1
        unfold atI ixN
        rw [if_neg (by decide), if_pos (by omega)]
        rw [show ((-1 : Int) + (((putsL t r c h).map dP).length : Int)).toNat = ((putsL t r c h).map dP).length - 1 by omega]
        exact h1
      simp [fIx, R.data, this]
    unfold mSetT
    rw [q]
    rfl
  refine mSeq_n e4 ?_
  have e5 : mSet 5 (mOp fIx (mVar 0) (mC (.int 1))) (EA r c h t pl (.sh (.int i)) (.sh (.int j)) .dead .dead .dead .dead) = some (.nx (EA r c h t pl (.sh (.int i)) (.sh (.int j)) (.sh (.int c)) .dead .dead .dead)) :=
    mSet_d (room_ix (k := 0) (r := r) (c := c) (h := h) rfl).2.1
  refine mSeq_n e5 ?_
  let ρ6 := EA r c h t pl (.sh (.int i)) (.sh (.int j)) (.sh (.int c)) .dead .dead .dead
  obtain ⟨x, hx1, hx2, hx3⟩ := tab_at T hi hj
  have hxl : x.length = c := T.row x hx3
  have tl := T.len
  have lc : ∀ (ρ : DL.Env) (lo hi : MO) (a b : Option Int) (rows : List (List Int)), ρ[1]? = some (.sh (dTab t)) → lo ρ = some a → hi ρ = some b → cut (t.map dRow) a b = rows.map dRow → mIL (mSl (mVar 1) lo hi) ρ = some ((newL (rows.map dRow)).fixed, rows.map dRow) := fun ρ lo hi a b rows h1 h2 h3 h4 => by
    have w1 : mVar 1 ρ = some (.sh (dTab t)) := by simp [mVar, h1]
    have w : mSl (mVar 1) lo hi ρ = some (newL (rows.map dRow)) := by
      unfold mSl
      rw [w1, h2, h3]
      show fSl (.lst (t.map dRow)) a b = _
      simp only [fSl, h4]
    unfold mIL
    rw [w]
    simp only [newL_data]
  have e6 : mSet 6 (mLc (mIL (mSl (mVar 1) mNoPart (mPart (mVar 3)))) (mgName 9) mYes (mCB gList (mCons (mVar 9) mNil)) [9]) ρ6 = some (.nx (EA r c h t pl (.sh (.int i)) (.sh (.int j)) (.sh (.int c)) (.tr (sTab (t.take i))) .dead .dead)) := by
    refine mSet_z (z := .tr (sTab (t.take i))) ?_ rfl
    have hI := lc ρ6 mNoPart (mPart (mVar 3)) none (some i) (t.take i) rfl rfl rfl (by rw [cut_take, List.map_take])
    rw [mLc_eval (fun _ => true) (fun d => match d with | .lst ds => .tr (.own (ds.map .d)) | _ => .sh .non) (fun d => match d with | .lst ds => .own (ds.map .d) | _ => .d .non) hI (by simp; omega) rfl]
    · rw [ft, List.map_map]
      simp only [sTab]
      congr 3
      apply List.map_congr_left
      intro y _
      simp [dRow, sRow]
    · intro d m
      obtain ⟨y, hy, rfl⟩ := List.mem_map.mp m
      refine ⟨_, rfl, rfl, fun _ => ⟨?_, rfl⟩⟩
      generalize (newL ((t.take i).map dRow)).fixed = s
      have w9 : ∃ q, mVar 9 (ρ6.set 9 (itR s (dRow y)).slot) = some q ∧ q.data = dRow y := by
        cases s with
        | true => exact ⟨_, rfl, rfl⟩
        | false => exact ⟨_, rfl, rfl⟩
      obtain ⟨q, w9, wq⟩ := w9
      show mCB gList (mCons (mVar 9) mNil) (ρ6.set 9 (itR s (dRow y)).slot) = _
      exact mCB_one w9 (by rw [wq]; simp only [gList, dRow, newL, imm_ints, if_true])
  refine mSeq_n e6 ?_
  let ρ7 := EA r c h t pl (.sh (.int i)) (.sh (.int j)) (.sh (.int c)) (.tr (sTab (t.take i))) .dead .dead
  have hd : (t.getD i []) = x := by simp [hx1]
  have e7 : mSet 7 (mOp fAdd (mOp fAdd (mSl (mOp fIx (mVar 1) (mVar 3)) mNoPart (mPart (mVar 4))) (mLst (mCons (mOp fAdd (mOp fIx (mOp fIx (mVar 1) (mVar 3)) (mVar 4)) (mC (.int 1))) mNil))) (mOp fMul (mLst (mCons (mC (.int 0)) mNil)) (mOp fSub (mOp fSub (mVar 5) (mVar 4)) (mC (.int 1))))) ρ7 = some (.nx (EA r c h t pl (.sh (.int i)) (.sh (.int j)) (.sh (.int c)) (.tr (sTab (t.take i))) (.tr (sRow (x.take j ++ [at2 t i j + 1] ++ List.replicate (c - j - 1) 0))) .dead)) := by
    have w1 : mVar 1 ρ7 = some (.sh (dTab t)) := rfl
    obtain ⟨z1, q1, q2, _⟩ := mIx (ma := mVar 1) (mb := mVar 3) (ρ := ρ7) w1 rfl (ds := t.map dRow) rfl (i := i) rfl (d := dRow x) (by simp [hx1])
    have s1 : mSl (mOp fIx (mVar 1) (mVar 3)) mNoPart (mPart (mVar 4)) ρ7 = some (newL ((x.take j).map .int)) := by
      have w2 : mNoPart ρ7 = some none := rfl
      have w3 : mPart (mVar 4) ρ7 = some (some (j : Int)) := rfl
      unfold mSl
      rw [q1, w2, w3]
      simp only [q2, dRow, fSl, cut_take, List.map_take]
    obtain ⟨z2, q3, q4, _⟩ := two_ix T (mi := mVar 3) (mj := mVar 4) (i := i) (j := j) (ρ := ρ7) rfl rfl rfl rfl rfl hi hj
    have s2 := mLst_one (mOp_eq (mb := mC (.int 1)) q3 rfl (fAdd_ok q4 rfl))
    have s3 : mOp fSub (mOp fSub (mVar 5) (mVar 4)) (mC (.int 1)) ρ7 = some (.sh (.int ((c - j - 1 : Nat) : Int))) := by
      rw [show ((c - j - 1 : Nat) : Int) = (c : Int) - j - 1 by omega]
      exact mOp_eq (mOp_eq rfl rfl (fSub_ok rfl rfl)) rfl (fSub_ok rfl rfl)
    have s4 := mOp_eq (ma := mLst (mCons (mC (.int 0)) mNil)) (mLst_one rfl) s3 (fMul_l (n := 0) rfl rfl (by omega))
    have s5 := mOp_eq s1 s2 (fAdd_l (ns := x.take j) (ms := [at2 t i j + 1]) (newL_data _) rfl (by simp; omega))
    exact mSet_z (mOp_eq s5 s4 (fAdd_l (sRow_data _) (sRow_data _) (by simp; omega))) rfl
  refine mSeq_n e7 ?_
  let ρ8 := EA r c h t pl (.sh (.int i)) (.sh (.int j)) (.sh (.int c)) (.tr (sTab (t.take i))) (.tr (sRow (x.take j ++ [at2 t i j + 1] ++ List.replicate (c - j - 1) 0))) .dead
  have e8 : mSet 8 (mLc (mIL (mSl (mVar 1) (mPart (mOp fAdd (mVar 3) (mC (.int 1)))) mNoPart)) (mgName 10) mYes (mOp fMul (mLst (mCons (mC (.int 0)) mNil)) (mVar 5)) [10]) ρ8 = some (.nx (EA r c h t pl (.sh (.int i)) (.sh (.int j)) (.sh (.int c)) (.tr (sTab (t.take i))) (.tr (sRow (x.take j ++ [at2 t i j + 1] ++ List.replicate (c - j - 1) 0))) (.tr (sTab (List.replicate (r - i - 1) (List.replicate c 0)))))) := by
    refine mSet_z (z := .tr (sTab (List.replicate (r - i - 1) (List.replicate c 0)))) ?_ rfl
    have hI := lc ρ8 (mPart (mOp fAdd (mVar 3) (mC (.int 1)))) mNoPart (some ((i + 1 : Nat) : Int)) none (t.drop (i + 1)) rfl rfl rfl (by rw [cut_drop, List.map_drop])
    rw [mLc_eval (fun _ => true) (fun _ => .tr (sRow (List.replicate c 0))) (fun _ => sRow (List.replicate c 0)) hI (by simp; omega) rfl]
    · rw [ft, List.map_map]
      simp only [sTab, List.map_replicate]
      refine congrArg (fun q => some (R.tr (S.own q))) ?_
      exact List.eq_replicate_iff.mpr ⟨by simp; omega, fun b m => by obtain ⟨_, _, rfl⟩ := List.mem_map.mp m; rfl⟩
    · intro d m
      refine ⟨_, rfl, rfl, fun _ => ⟨?_, rfl⟩⟩
      generalize (newL ((t.drop (i + 1)).map dRow)).fixed = s
      exact mOp_eq (ma := mLst (mCons (mC (.int 0)) mNil)) (mLst_one rfl) rfl (fMul_l (n := 0) (k := c) rfl rfl (by omega))
  refine mSeq_n e8 ?_
  have fin : (mmAdd (mmAdd (mmV 6) (mmLst (mmCons (mmV 7) mmNil))) (mmV 8)) (EA r c h t pl (.sh (.int i)) (.sh (.int j)) (.sh (.int c)) (.tr (sTab (t.take i))) (.tr (sRow (x.take j ++ [at2 t i j + 1] ++ List.replicate (c - j - 1) 0))) (.tr (sTab (List.replicate (r - i - 1) (List.replicate c 0))))) = some (sTab (aft t r c i j)) := by
    have a1 : mmV 6 (EA r c h t pl (.sh (.int i)) (.sh (.int j)) (.sh (.int c)) (.tr (sTab (t.take i))) (.tr (sRow (x.take j ++ [at2 t i j + 1] ++ List.replicate (c - j - 1) 0))) (.tr (sTab (List.replicate (r - i - 1) (List.replicate c 0))))) = some (.own ((t.take i).map sRow)) := rfl
    have a2 : mmLst (mmCons (mmV 7) mmNil) (EA r c h t pl (.sh (.int i)) (.sh (.int j)) (.sh (.int c)) (.tr (sTab (t.take i))) (.tr (sRow (x.take j ++ [at2 t i j + 1] ++ List.replicate (c - j - 1) 0))) (.tr (sTab (List.replicate (r - i - 1) (List.replicate c 0))))) = some (.own [sRow (x.take j ++ [at2 t i j + 1] ++ List.replicate (c - j - 1) 0)]) := by
      have a3 : mmV 7 (EA r c h t pl (.sh (.int i)) (.sh (.int j)) (.sh (.int c)) (.tr (sTab (t.take i))) (.tr (sRow (x.take j ++ [at2 t i j + 1] ++ List.replicate (c - j - 1) 0))) (.tr (sTab (List.replicate (r - i - 1) (List.replicate c 0))))) = some (sRow (x.take j ++ [at2 t i j + 1] ++ List.replicate (c - j - 1) 0)) := rfl
      simp only [mmLst, mmCons, a3, mmNil]
      rw [if_pos (by simp)]
    have a4 : mmV 8 (EA r c h t pl (.sh (.int i)) (.sh (.int j)) (.sh (.int c)) (.tr (sTab (t.take i))) (.tr (sRow (x.take j ++ [at2 t i j + 1] ++ List.replicate (c - j - 1) 0))) (.tr (sTab (List.replicate (r - i - 1) (List.replicate c 0))))) = some (.own ((List.replicate (r - i - 1) (List.replicate c 0)).map sRow)) := rfl
    unfold mmAdd
    rw [a1, a2, a4]
    simp only []
    rw [if_pos (by simp; omega)]
    simp only []
    rw [if_pos (by simp; omega)]
    simp only [aft, hd, sTab, List.map_append, List.map_cons, List.map_nil]
  unfold mRetM
  rw [fin]; rfl
end My

set_option Elab.async false
set_option linter.all false
set_option maxRecDepth 100000
set_option maxHeartbeats 4000000
namespace My
open PySem PySem.Spec PyProof.Rows L2 DL
variable {A : Ad}
/-- what after tells, by its places -/
def af (t : List (List Int)) (i j i' j' : Nat) : Int := if i' < i ∨ (i' = i ∧ j' < j) then at2 t i' j' else if i' = i ∧ j' = j then at2 t i j + 1 else 0
theorem aft_hs {r c h : Nat} {t : List (List Int)} (T : Tab r c h t) {i j : Nat} (hi : i < r) (hj : j < c) : HS r c (af t i j) (aft t r c i j) := by
  obtain ⟨x, hx1, hx2, hx3⟩ := tab_at T hi hj
  have hxl : x.length = c := T.row x hx3
  have tl := T.len
  have hd : t.getD i [] = x := by simp [hx1]
  have l1 : (t.take i).length = i := by simp; omega
  have lx : (x.take j).length = j := by simp; omega
  refine ⟨by simp [aft]; omega, fun y m => ?_, fun i' j' hi' hj' => ?_⟩
  · unfold aft at m
    rw [hd] at m
    rcases List.mem_append.mp m with m | m
    · rcases List.mem_append.mp m with m | m
      · exact T.row y (List.mem_of_mem_take m)
      · rw [List.mem_singleton.mp m]; simp; omega
    · rw [(List.mem_replicate.mp m).2]; simp
  · unfold af
    by_cases h1 : i' < i
    · rw [if_pos (.inl h1)]
      have : (aft t r c i j)[i']? = t[i']? := by
        unfold aft
        rw [List.append_assoc, List.getElem?_append_left (by omega), List.getElem?_take_of_lt h1]
      simp [at2, this]
    · by_cases h2 : i' = i
      · subst h2
        have e : (aft t r c i' j)[i']? = some (x.take j ++ [at2 t i' j + 1] ++ List.replicate (c - j - 1) 0) := by
          unfold aft
          rw [hd, List.append_assoc, List.getElem?_append_right (by omega), l1, Nat.sub_self]; rfl
        have e2 : at2 (aft t r c i' j) i' j' = (x.take j ++ [at2 t i' j + 1] ++ List.replicate (c - j - 1) 0).getD j' 0 := by simp [at2, e]
        rw [e2]
        by_cases h3 : j' < j
        · rw [if_pos (by omega)]
          have : at2 t i' j' = x.getD j' 0 := by simp [at2, hx1]
          rw [this, List.append_assoc]
          simp [List.getElem?_append_left (show j' < (x.take j).length by omega), List.getElem?_take_of_lt h3]
        · by_cases h4 : j' = j
          · subst h4
            rw [if_neg (by omega), if_pos ⟨rfl, rfl⟩, List.append_assoc]
            simp [List.getElem?_append_right (show (x.take j').length ≤ j' by omega), lx]
          · rw [if_neg (by omega), if_neg (by omega)]
            have hl2 : (x.take j ++ [at2 t i' j + 1]).length = j + 1 := by simp; omega
            simp only [List.getD_eq_getElem?_getD]
            rw [List.getElem?_append_right (by omega), hl2]
            simp only [List.getElem?_replicate]
            split <;> rfl
      · rw [if_neg (by omega), if_neg (by omega)]
        have hl2 : (t.take i ++ [(t.getD i []).take j ++ [at2 t i j + 1] ++ List.replicate (c - j - 1) 0]).length = i + 1 := by simp; omega
        have e : (aft t r c i j)[i']? = some (List.replicate c 0) := by
          unfold aft
          rw [List.getElem?_append_right (by omega), hl2, List.getElem?_replicate, if_pos (by omega)]
        simp [at2, e, hj']
theorem aft_pw {r c h : Nat} {t : List (List Int)} (P : Pw r c h (at2 t)) {i j : Nat} (hi : i < r) (hj : j < c) (hp : at2 t i j < mostv t h i j) : Pw r c h (af t i j) where
  lo := fun i' j' hi' hj' => by
    have k1 := P.lo i' j' hi' hj'
    have k2 := P.lo i j hi hj
    have k3 := (mostv_le (t := t) (h := h) (i := i) (j := j) (v := at2 t i j + 1) (by omega)).1
    unfold af
    split
    · exact k1
    · split <;> omega
  rr := fun i' j' hi' hj' => by
    have k1 := P.rr i' j' hi' hj'
    have k0 := P.lo i' j' hi' (by omega)
    have kk := P.lo i j hi hj
    have k2 := (mostv_le (t := t) (h := h) (i := i) (j := j) (v := at2 t i j + 1) (by omega)).2.1
    unfold af
    by_cases e : i' = i ∧ j' + 1 = j
    · obtain ⟨rfl, rfl⟩ := e
      have := k2 (by omega)
      rw [show j' + 1 - 1 = j' by omega] at this
      rw [if_neg (by omega), if_pos ⟨rfl, rfl⟩, if_pos (by omega)]; exact this
    · by_cases e1 : i' < i ∨ (i' = i ∧ j' + 1 < j)
      · rw [if_pos e1, if_pos (by omega)]; exact k1
      · rw [if_neg e1, if_neg (by omega)]
        split
        · exact k0.1
        · split <;> omega
  cc := fun i' j' hi' hj' => by
    have k1 := P.cc i' j' hi' hj'
    have k0 := P.lo i' j' (by omega) hj'
    have kk := P.lo i j hi hj
    have k2 := (mostv_le (t := t) (h := h) (i := i) (j := j) (v := at2 t i j + 1) (by omega)).2.2
    unfold af
    by_cases e : i' + 1 = i ∧ j' = j
    · obtain ⟨rfl, rfl⟩ := e
      have := k2 (by omega)
      rw [show i' + 1 - 1 = i' by omega] at this
      rw [if_neg (by omega), if_pos ⟨rfl, rfl⟩, if_pos (by omega)]; exact this
    · by_cases e1 : i' + 1 < i ∨ (i' + 1 = i ∧ j' < j)
      · rw [if_pos e1, if_pos (by omega)]; exact k1
      · rw [if_neg e1, if_neg (by omega)]
        split
        · exact k0.1
        · split <;> omega
end My

set_option Elab.async false
set_option linter.all false
set_option maxRecDepth 100000
set_option maxHeartbeats 4000000
namespace My
open PySem PySem.Spec PyProof.Rows L2 DL
variable {A : Ad}
theorem most_of {t : List (List Int)} {r c h : Nat} (P : Pw r c h (at2 t)) {i j : Nat} (hi : i < r) (hj : j < c) (hn : (i, j) ∉ putsL t r c h) : at2 t i j = mostv t h i j := by
  have h1 := P.le_most hi hj
  have h2 : ¬ at2 t i j < mostv t h i j := fun z => hn (List.mem_filter.mpr ⟨mem_places.mpr ⟨hi, hj⟩, decide_eq_true z⟩)
  omega
theorem full_of_none {t : List (List Int)} {r c h : Nat} (P : Pw r c h (at2 t)) (he : putsL t r c h = []) : ∀ (n i j : Nat), i + j = n → i < r → j < c → at2 t i j = h := by
  intro n
  induction n using Nat.strongRecOn with
  | ind n ih =>
    intro i j hn hi hj
    have h1 := most_of P hi hj (by rw [he]; exact List.not_mem_nil)
    rw [h1]
    unfold mostv
    by_cases a : 0 < j
    · have := ih (i + (j - 1)) (by omega) i (j - 1) rfl hi (by omega)
      by_cases b : 0 < i
      · have := ih (i - 1 + j) (by omega) (i - 1) j rfl (by omega) hj
        simp only [if_pos a, if_pos b]; omega
      · simp only [if_pos a, if_neg b]; omega
    · by_cases b : 0 < i
      · have := ih (i - 1 + j) (by omega) (i - 1) j rfl (by omega) hj
        simp only [if_neg a, if_pos b]; omega
      · simp only [if_neg a, if_neg b]
theorem none_of_full {t : List (List Int)} {r c h : Nat} (hf : ∀ i j, i < r → j < c → at2 t i j = h) : putsL t r c h = [] := by
  refine List.filter_eq_nil_iff.mpr fun p hp => ?_
  obtain ⟨hi, hj⟩ := mem_places.mp hp
  have h1 := (mostv_le (t := t) (h := h) (i := p.1) (j := p.2) (Int.le_refl _)).1
  have h2 := hf p.1 p.2 hi hj
  simp; omega
theorem places_sorted (r c : Nat) : (places r c).Pairwise fun p q => p.1 * c + p.2 < q.1 * c + q.2 := by
  unfold places
  rw [List.pairwise_flatMap]
  refine ⟨fun i _ => ?_, ?_⟩
  · rw [List.pairwise_map]
    exact List.pairwise_lt_range.imp fun h => by simpa using h
  · refine List.pairwise_lt_range.imp fun {a b} hab x hx y hy => ?_
    obtain ⟨j, hj, rfl⟩ := List.mem_map.mp hx
    obtain ⟨k, hk, rfl⟩ := List.mem_map.mp hy
    rw [List.mem_range] at hj hk
    show a * c + j < b * c + k
    have := Nat.mul_le_mul_right c (show a + 1 ≤ b from hab)
    rw [Nat.succ_mul] at this
    omega
theorem last_max {α : Type} {Rl : α → α → Prop} : ∀ {L : List α} {a : α}, L.Pairwise Rl → L.getLast? = some a → ∀ x ∈ L, x = a ∨ Rl x a
  | [], _, _, h, _, _ => by cases h
  | [y], a, _, h, x, m => by
    cases h
    exact .inl (List.mem_singleton.mp m)
  | y :: z :: ys, a, hp, h, x, m => by
    rw [List.getLast?_cons_cons] at h
    have hp' := List.pairwise_cons.mp hp
    rcases List.mem_cons.mp m with rfl | m
    · exact .inr (hp'.1 a (List.mem_of_getLast? h))
    · exact last_max hp'.2 h x m
theorem behind_most {t : List (List Int)} {r c h : Nat} (P : Pw r c h (at2 t)) {i j i' j' : Nat} (he : (putsL t r c h).getLast? = some (i, j)) (hi : i' < r) (hj : j' < c) (hb : i * c + j < i' * c + j') : at2 t i' j' = mostv t h i' j' := by
  refine most_of P hi hj fun m => ?_
  have hs : (putsL t r c h).Pairwise fun p q => p.1 * c + p.2 < q.1 * c + q.2 := (places_sorted r c).filter _
  rcases last_max hs he _ m with z | z
  · cases z; omega
  · have : i' * c + j' < i * c + j := z
    omega
end My

set_option Elab.async false
set_option linter.all false
set_option maxRecDepth 100000
set_option maxHeartbeats 4000000
namespace My
open PySem PySem.Spec PyProof.Rows L2 DL
variable {A : Ad}
/-! ### texts as codes -/
def tx (l : List Nat) : Str := ⟨l.toArray⟩
theorem tx_len (l : List Nat) : (tx l).length = l.length := by simp [tx, Str.length]
theorem tx_add (a b : List Nat) : tx a ++ tx b = tx (a ++ b) := by
  show Str.append (tx a) (tx b) = _
  simp [tx, Str.append]
theorem tx_e : Str.ofString "" = tx [] := by decide
theorem tx_r : Str.ofString "r" = tx [114] := by decide
theorem tx_d : Str.ofString "d" = tx [100] := by decide
theorem tx_rd : Str.ofString "rd" = tx [114, 100] := by decide
theorem foldl_tx (a : List Nat) : ∀ (k : Nat) (b : List Nat), (List.replicate k a.toArray).foldl (· ++ ·) b.toArray = (b ++ (List.replicate k a).flatten).toArray
  | 0, b => by simp
  | k + 1, b => by
    rw [List.replicate_succ, List.foldl_cons]
    have : b.toArray ++ a.toArray = (b ++ a).toArray := by simp
    rw [this, foldl_tx a k (b ++ a)]
    simp [List.replicate_succ]
theorem tx_mul (l : List Nat) (k : Int) : Txt.mul (tx l) k = tx (List.replicate k.toNat l).flatten := by
  unfold Txt.mul
  split
  · have : k.toNat = 0 := by omega
    rw [this]; rfl
  · split
    · rename_i h1 h2
      simp only [Bool.or_eq_true, beq_iff_eq] at h2
      rcases h2 with h2 | h2
      · subst h2; simp
      · rw [tx_len] at h2
        have : l = [] := List.eq_nil_of_length_eq_zero h2
        subst this; simp
    · have := foldl_tx l k.toNat []
      simp only [List.nil_append] at this
      show (⟨_⟩ : Str) = ⟨_⟩
      congr 1
theorem tx_inj {a b : List Nat} (h : tx a = tx b) : a = b := by
  have := congrArg (fun s : Str => s.cps.toList) h
  simpa [tx] using this
theorem sgn_tx (l : List Nat) : sgn (tx l) = l.map fun c => .str (tx [c]) := by simp [sgn, tx]
theorem imm_str {x : Str} : imm (.str x) = true := by simp [imm]
/-! equality of texts, and of lists of such -/
theorem eqv_str (a b : List Nat) : D.eqv (.str (tx a)) (.str (tx b)) = decide (a = b) := by
  by_cases h : a = b
  · subst h
    simp [D.eqv, D.py, PyData.eqv]
  · have : tx a ≠ tx b := fun z => h (tx_inj z)
    simp [D.eqv, D.py, PyData.eqv, h, this]
def small (a : List Nat) : Prop := ∀ c ∈ a, c < 1114112
theorem strOk_tx {a : List Nat} (h : small a) : PyData.strOk (tx a) = true := by
  unfold PyData.strOk tx
  simp only [List.all_toArray]
  rw [List.all_eq_true]
  intro c m
  exact decide_eq_true (h c m)
theorem ok_str {a : List Nat} (h : small a) : (D.str (tx a)).ok = true := by
  unfold D.ok SeqAt.shaped
  simp [D.py, PyData.canLay0, PyData.depth, strOk_tx h]
theorem gEq_str (neg : Bool) {a b : List Nat} (h1 : small a) (h2 : small b) : gEq neg (.str (tx a)) (.str (tx b)) = some (.bl (if neg = true then !decide (a = b) else decide (a = b))) := by
  unfold gEq
  rw [ok_str h1, ok_str h2, eqv_str]; rfl
def dTx (l : List (List Nat)) : D := .lst (l.map fun a => .str (tx a))
def sTx (l : List (List Nat)) : S := .own (l.map fun a => .d (.str (tx a)))
theorem sTx_data (l : List (List Nat)) : (sTx l).data = dTx l := by
  unfold sTx dTx
  simp [S.data, S.dataL_map, Function.comp_def]
theorem ok_txs {l : List (List Nat)} (h : ∀ a ∈ l, small a) : (dTx l).ok = true := by
  have h1 : ∀ l : List (List Nat), (∀ a ∈ l, small a) → PyData.canLayAll0 (D.pyL (l.map fun a => D.str (tx a))) = true ∧ PyData.depthAll (D.pyL (l.map fun a => D.str (tx a))) ≤ 1 := by
    intro l
    induction l with
    | nil => intro _; simp [D.pyL, PyData.canLayAll0, PyData.depthAll]
    | cons a l ih =>
      intro h
      obtain ⟨i1, i2⟩ := ih fun b m => h b (List.mem_cons_of_mem _ m)
      simp only [List.map_cons, D.pyL, PyData.canLayAll0, PyData.depthAll, D.py, PyData.canLay0, PyData.depth, strOk_tx (h a List.mem_cons_self), i1, Bool.and_self, true_and]
      show max 0 _ ≤ 1
      omega
  obtain ⟨i1, i2⟩ := h1 l h
  unfold D.ok SeqAt.shaped dTx
  simp only [D.py, PyData.canLay0, PyData.depth, i1, Bool.true_and]
  exact decide_eq_true (by omega)
theorem gEq_txs (neg : Bool) {a b : List (List Nat)} (h1 : ∀ x ∈ a, small x) (h2 : ∀ x ∈ b, small x) : gEq neg (dTx a) (dTx b) = some (.bl (if neg = true then !decide (a = b) else decide (a = b))) := by
  unfold gEq
  rw [ok_txs h1, ok_txs h2]
  have : D.eqv (dTx a) (dTx b) = decide (a = b) := eqv_lst eqv_str a b
  rw [this]; rfl
/-! operations -/
theorem fAdd_s {x y : R} {a b : List Nat} (h1 : x.data = .str (tx a)) (h2 : y.data = .str (tx b)) (hl : a.length + b.length ≤ 100000) : fAdd x y = some (.sh (.str (tx (a ++ b)))) := by
  simp only [fAdd, h1, h2, tx_len]
  rw [if_pos hl, tx_add]
theorem fMul_s {x y : R} {k : Int} {c : Nat} (h1 : x.data = .str (tx [c])) (h2 : y.data = .int k) (h0 : 0 ≤ k) (hk : k ≤ 100000) : fMul x y = some (.sh (.str (tx (List.replicate k.toNat c)))) := by
  simp only [fMul, h1, h2, tx_len]
  rw [if_pos ⟨h0, hk, by simp⟩, tx_mul]
  congr 4
  rw [List.flatten_replicate_singleton]
theorem fEq_s {x y : R} {a b : List Nat} (h1 : x.data = .str (tx a)) (h2 : y.data = .str (tx b)) (s1 : small a) (s2 : small b) : fEq x y = some (.sh (.bl (decide (a = b)))) := by
  simp [fEq, flat2, h1, h2, gEq_str false s1 s2]
end My

set_option Elab.async false
set_option linter.all false
set_option maxRecDepth 100000
set_option maxHeartbeats 4000000
namespace My
open PySem PySem.Spec PyProof.Rows L2 DL
variable {A : Ad}
def laneB : Int → List Int → List Nat
  | _, [] => []
  | a, n :: r => List.replicate (a - n).toNat 100 ++ 114 :: laneB n r
def lastN : Int → List Int → Int
  | a, [] => a
  | _, n :: r => lastN n r
def laneC (a : Int) (ns : List Int) : List Nat := laneB a ns ++ List.replicate (lastN a ns).toNat 100
def Rw : Int → List Int → Prop
  | a, [] => 0 ≤ a
  | a, n :: r => n ≤ a ∧ Rw n r
theorem Rw.nn : ∀ {a : Int} {ns : List Int}, Rw a ns → 0 ≤ a
  | _, [], h => h
  | _, n :: r, h => Int.le_trans (Rw.nn h.2) h.1
theorem laneB_snoc : ∀ (a : Int) (xs : List Int) (n : Int), laneB a (xs ++ [n]) = laneB a xs ++ (List.replicate (lastN a xs - n).toNat 100 ++ [114])
  | a, [], n => by simp [laneB, lastN]
  | a, x :: xs, n => by
    have := laneB_snoc x xs n
    simp [laneB, lastN, this]
theorem lastN_snoc : ∀ (a : Int) (xs : List Int) (n : Int), lastN a (xs ++ [n]) = n
  | a, [], n => rfl
  | a, x :: xs, n => lastN_snoc x xs n
theorem lastN_take : ∀ (a : Int) (ns : List Int) (i : Nat), i ≤ ns.length → (a :: ns)[i]? = some (lastN a (ns.take i))
  | a, ns, 0, _ => by simp [lastN]
  | a, [], i + 1, h => by simp at h
  | a, n :: ns, i + 1, h => by
    have := lastN_take n ns i (by simpa using h)
    simpa [lastN] using this
theorem Rw.step : ∀ {a : Int} {ns : List Int} {i : Nat} {n : Int}, Rw a ns → ns[i]? = some n → 0 ≤ n ∧ n ≤ lastN a (ns.take i) ∧ lastN a (ns.take i) ≤ a
  | a, [], i, n, h, e => by simp at e
  | a, m :: ns, 0, n, h, e => by
    simp at e; subst e
    exact ⟨h.2.nn, by simpa [lastN] using h.1, by simp [lastN]⟩
  | a, m :: ns, i + 1, n, h, e => by
    have := Rw.step (i := i) (n := n) h.2 (by simpa using e)
    refine ⟨this.1, by simpa [lastN] using this.2.1, ?_⟩
    have h2 := this.2.2
    have h1 := h.1
    show lastN m (ns.take i) ≤ a
    omega
theorem lastN_le : ∀ {a : Int} {ns : List Int}, Rw a ns → 0 ≤ lastN a ns ∧ lastN a ns ≤ a
  | a, [], h => ⟨h, Int.le_refl _⟩
  | a, n :: r, h => by
    have := lastN_le h.2
    have h1 := h.1
    refine ⟨this.1, ?_⟩
    show lastN n r ≤ a
    omega
theorem laneC_len : ∀ {a : Int} {ns : List Int}, Rw a ns → (laneC a ns).length = ns.length + a.toNat
  | a, [], h => by simp [laneC, laneB, lastN]
  | a, n :: r, h => by
    have ih := laneC_len h.2
    have h0 := h.2.nn
    have h1 := h.1
    simp only [laneC, List.length_append, List.length_replicate] at ih
    simp only [laneC, laneB, lastN, List.length_append, List.length_cons, List.length_replicate]
    omega
theorem laneB_len {a : Int} {ns : List Int} (h : Rw a ns) : (laneB a ns).length ≤ ns.length + a.toNat := by
  rw [← laneC_len h]; simp [laneC]
theorem laneB_rd : ∀ (a : Int) (ns : List Int), ∀ c ∈ laneB a ns, c = 114 ∨ c = 100
  | a, [], c, m => by cases m
  | a, n :: r, c, m => by
    simp only [laneB, List.mem_append, List.mem_replicate, List.mem_cons] at m
    rcases m with m | m | m
    · exact .inr m.2
    · exact .inl m
    · exact laneB_rd n r c m
theorem laneC_rd (a : Int) (ns : List Int) : ∀ c ∈ laneC a ns, c = 114 ∨ c = 100 := by
  intro c m
  rcases List.mem_append.mp m with m | m
  · exact laneB_rd a ns c m
  · exact .inr (List.mem_replicate.mp m).2
theorem rd_small {l : List Nat} (h : ∀ c ∈ l, c = 114 ∨ c = 100) : small l := fun c m => by rcases h c m with z | z <;> omega
def EL (s0 s1 : Sl) (l : List Nat) (a : Int) (s4 : Sl) : DL.Env := [s0, s1, .sh (.str (tx l)), .sh (.int a), s4]
def lnBody : MS := (mSeq (mSet 2 (mOp fAdd (mOp fAdd (mVar 2) (mOp fMul (mC (.str (PySem.Str.ofString "d"))) (mOp fSub (mVar 3) (mVar 4)))) (mC (.str (PySem.Str.ofString "r")))))
    (mSet 3 (mVar 4)))
theorem lnBody_ok {s0 s1 : Sl} {l : List Nat} {a n : Int} (h0 : 0 ≤ a - n) (h1 : a - n ≤ 1000) (hl : l.length ≤ 10000) :
    lnBody (EL s0 s1 l a (.sh (.int n))) = some (.nx (EL s0 s1 (l ++ (List.replicate (a - n).toNat 100 ++ [114])) n (.sh (.int n)))) := by
  unfold lnBody
  rw [tx_d, tx_r]
  have e1 : mOp fMul (mC (.str (tx [100]))) (mOp fSub (mVar 3) (mVar 4)) (EL s0 s1 l a (.sh (.int n))) = some (.sh (.str (tx (List.replicate (a - n).toNat 100)))) :=
    mOp_eq rfl (mOp_eq rfl rfl (fSub_ok rfl rfl)) (fMul_s rfl rfl h0 (by omega))
  have e2 := mOp_eq (ma := mVar 2) (ρ := EL s0 s1 l a (.sh (.int n))) rfl e1 (fAdd_s (a := l) rfl rfl (by simp; omega))
  have e3 := mOp_eq (mb := mC (.str (tx [114]))) e2 rfl (fAdd_s (b := [114]) rfl rfl (by simp; omega))
  rw [List.append_assoc] at e3
  exact mSeq_n (mSet_d e3) (mSet_d rfl)
theorem lane_go {s0 s1 : Sl} : ∀ (ns : List Int) (l : List Nat) (a : Int), Rw a ns → a ≤ 1000 → l.length + (ns.length + a.toNat) ≤ 10000 →
    forGo true (mgName 4) lnBody [4] (ns.map .int) (EL s0 s1 l a .dead) = some (.nx (EL s0 s1 (l ++ laneB a ns) (lastN a ns) .dead)) := by
  intro ns
  induction ns with
  | nil => intro l a _ _ _; simp [forGo, laneB, lastN]
  | cons n ns ih =>
    intro l a h ha hl
    have h1 := h.1
    have h2 := h.2.nn
    rw [List.length_cons] at hl
    rw [List.map_cons]
    unfold forGo
    have g : mgName 4 true (.int n) (EL s0 s1 l a .dead) = some (EL s0 s1 l a (.sh (.int n))) := rfl
    have k : killE [4] (EL s0 s1 (l ++ (List.replicate (a - n).toNat 100 ++ [114])) n (.sh (.int n))) = EL s0 s1 (l ++ (List.replicate (a - n).toNat 100 ++ [114])) n .dead := rfl
    simp only [g, lnBody_ok (s0 := s0) (s1 := s1) (l := l) (a := a) (n := n) (by omega) (by omega) (by omega), k]
    rw [ih _ n h.2 (by omega) (by simp; omega)]
    congr 3
    simp [laneB]
theorem laneOf_ok {h : Int} {ns : List Int} (Q : Rw h ns) (hh : h ≤ 1000) (hl : ns.length ≤ 1000) : g_lane_of A [dRow ns, .int h] = some (.ret (.d (.str (tx (laneC h ns))))) := by
  have R' := Q.nn
  refine run2 (ρ := [.sh (dRow ns), .sh (.int h), .sh (.str (tx [])), .dead, .dead]) (by rw [tx_e]; rfl) ?_
  refine mSeq_n (ρ1 := EL (.sh (dRow ns)) (.sh (.int h)) [] h .dead) rfl ?_
  show mSeq (mFor _ _ lnBody _) _ (EL (.sh (dRow ns)) .dead [] h .dead) = _
  have e : mFor (mIL (mVar 0)) (mgName 4) lnBody [4] (EL (.sh (dRow ns)) .dead [] h .dead) = some (.nx (EL (.sh (dRow ns)) .dead (laneB h ns) (lastN h ns) .dead)) := by
    rw [mFor_eq (items := ns.map .int) (by simp [mIL, mVar, EL, R.data, R.fixed, dRow])]
    exact lane_go ns [] h Q hh (by simp; omega)
  refine mSeq_n e (mRet_d ?_ imm_str)
  rw [tx_d]
  have b1 := laneB_len Q
  have b2 := lastN_le Q
  have e1 : mOp fMul (mC (.str (tx [100]))) (mVar 3) (EL (.sh (dRow ns)) .dead (laneB h ns) (lastN h ns) .dead) = some (.sh (.str (tx (List.replicate (lastN h ns).toNat 100)))) :=
    mOp_eq rfl rfl (fMul_s rfl rfl b2.1 (by omega))
  exact mOp_eq (ma := mVar 2) rfl e1 (fAdd_s (a := laneB h ns) rfl rfl (by simp; omega))
theorem atI_last {α : Type} {xs : List α} {x : α} (h : xs.getLast? = some x) : atI xs (-1) = some x := by
  have hne : xs ≠ [] := fun z => by subst z; cases h
  have hl : 0 < xs.length := List.length_pos_iff.mpr hne
  rw [List.getLast?_eq_getElem?] at h
  have e : ixN xs.length (-1) = some (xs.length - 1) := by
    unfold ixN
    rw [if_neg (by decide), if_pos (by omega)]
    congr 1
    omega
  simp [atI, e, h]
theorem lastN_last : ∀ {a : Int} {ns : List Int}, ns ≠ [] → ns.getLast? = some (lastN a ns)
  | a, [], h => (h rfl).elim
  | a, [n], _ => rfl
  | a, n :: m :: r, _ => by
    rw [List.getLast?_cons_cons]
    exact lastN_last (a := n) (by simp)
end My

set_option Elab.async false
set_option linter.all false
set_option maxRecDepth 100000
set_option maxHeartbeats 4000000
namespace My
open PySem PySem.Spec PyProof.Rows L2 DL
variable {A : Ad}
theorem rw_of : ∀ {ns : List Int} {a : Int}, 0 ≤ a → (∀ n ∈ ns, 0 ≤ n) → (∀ n, ns[0]? = some n → n ≤ a) → (∀ j n m, ns[j]? = some n → ns[j + 1]? = some m → m ≤ n) → Rw a ns
  | [], a, h, _, _, _ => h
  | n :: r, a, h, h0, h1, h2 => ⟨h1 n rfl, rw_of (h0 n List.mem_cons_self) (fun m x => h0 m (List.mem_cons_of_mem _ x)) (fun m x => h2 0 n m rfl (by simpa using x)) fun j x y e1 e2 => h2 (j + 1) x y (by simpa using e1) (by simpa using e2)⟩
theorem Fl.rw_at {c h : Nat} {t : List (List Int)} (F : Fl c h t) {x : List Int} {i : Nat} (hx : t[i]? = some x) : Rw h x := by
  have hi : i < t.length := (List.getElem?_eq_some_iff.mp hx).1
  have hm : x ∈ t := List.mem_of_getElem? hx
  have hl := F.row x hm
  have hv : ∀ j n, x[j]? = some n → at2 t i j = n := fun j n e => by simp [at2, hx, e]
  refine rw_of (by omega) (fun n m => ?_) (fun n e => ?_) (fun j n m e1 e2 => ?_)
  · obtain ⟨j, hj, rfl⟩ := List.mem_iff_getElem.mp m
    have := F.lo i j hi (by omega)
    rw [hv j _ (List.getElem?_eq_getElem hj)] at this
    exact this.1
  · have hj := (List.getElem?_eq_some_iff.mp e).1
    have := F.lo i 0 hi (by omega)
    rw [hv 0 _ e] at this
    exact this.2
  · have hj := (List.getElem?_eq_some_iff.mp e2).1
    have := F.rr i j hi (by omega)
    rw [hv _ _ e1, hv _ _ e2] at this
    exact this
theorem Fl.col {c h : Nat} {t : List (List Int)} (F : Fl c h t) {j : Nat} (hj : j < c) : ∀ {d i : Nat}, i + d < t.length → at2 t (i + d) j ≤ at2 t i j := by
  intro d
  induction d with
  | zero => intro i _; exact Int.le_refl _
  | succ d ih =>
    intro i hi
    have h1 := ih (i := i) (by omega)
    have h2 := F.cc (i + d) j (by omega) hj
    exact Int.le_trans h2 h1
end My

set_option Elab.async false
set_option linter.all false
set_option maxRecDepth 100000
set_option maxHeartbeats 4000000
namespace My
open PySem PySem.Spec PyProof.Rows L2 DL
variable {A : Ad}
def rowOf : D → List Int
  | .lst ds => ds.map fun d => match d with | .int i => i | _ => 0
  | _ => []
theorem rowOf_row (x : List Int) : rowOf (dRow x) = x := by
  unfold rowOf dRow
  simp [Function.comp_def]
def lanesT (t : List (List Int)) (h : Nat) : List (List Nat) := t.map (laneC h)
theorem lanesOf_ok {r c h : Nat} {t : List (List Int)} (M : Rm r c h) (F : Fl c h t) (hl : t.length = r) : g_lanes_of A [dRoom r c h, dTab t] = some (.ret (sTx (lanesT t h))) := by
  have hr := M.r; have hc := M.c; have hh := M.h
  have T := F.tab hl
  let ρ0 : DL.Env := [.sh (dRoom r c h), .sh (dTab t), .dead]
  refine run2 (ρ := ρ0) ?_ ?_
  · simp [env0, mDropC, mCallO, mCons, mVar, mNil, R.data, check_ok M T, ρ0]
  refine mRet_t ?_
  rw [mLc_eval (s := true) (items := t.map dRow) (fun _ => true) (fun d => .sh (.str (tx (laneC h (rowOf d))))) (fun d => .d (.str (tx (laneC h (rowOf d)))))]
  · rw [ft, List.map_map]
    simp [sTx, lanesT, Function.comp_def, rowOf_row]
  · rfl
  · simp; omega
  · rfl
  · intro d m
    obtain ⟨x, hx, rfl⟩ := List.mem_map.mp m
    refine ⟨[.sh (dRoom r c h), .sh (dTab t), .sh (dRow x)], rfl, rfl, fun _ => ⟨?_, by simp [R.tree, imm]⟩⟩
    obtain ⟨i, hi⟩ := List.getElem?_of_mem hx
    rw [rowOf_row]
    exact mCall_d (rs := [.sh (dRow x), .sh (.int h)]) (two rfl (room_ix (k := 0) (r := r) (c := c) (h := h) rfl).2.2) rfl (laneOf_ok (F.rw_at hi) (by omega) (by rw [F.row x hx]; omega))
theorem laneC_small (a : Int) (x : List Int) : small (laneC a x) := rd_small (laneC_rd a x)
end My

set_option Elab.async false
set_option linter.all false
set_option maxRecDepth 100000
set_option maxHeartbeats 4000000
namespace My
open PySem PySem.Spec PyProof.Rows L2 DL
variable {A : Ad}
theorem lanesT_small (t : List (List Int)) (h : Nat) : ∀ x ∈ lanesT t h, small x := fun x m => by
  obtain ⟨y, _, rfl⟩ := List.mem_map.mp m
  exact laneC_small _ _
end My

set_option Elab.async false
set_option linter.all false
set_option maxRecDepth 100000
set_option maxHeartbeats 4000000
namespace My
open PySem PySem.Spec PyProof.Rows L2 DL
open SrtT (K3)
variable {A : Ad}
/-! tiles -/
def tTop : Str := PySem.Str.ofString "top"
def tFr : Str := PySem.Str.ofString "front"
def tSd : Str := PySem.Str.ofString "side"
def sTri (ks : List K3) : S := .own (ks.map fun k => .d (triD k))
def dTri (ks : List K3) : D := .lst (ks.map triD)
theorem sTri_data (ks : List K3) : (sTri ks).data = dTri ks := by
  unfold sTri dTri
  simp [S.data, S.dataL_map, Function.comp_def]
theorem imm_tri (k : K3) : imm (triD k) = true := by simp [triD, imm, immL]
theorem immL_tri (ks : List K3) : immL (ks.map triD) = true := immL_iff.mpr fun d m => by obtain ⟨k, _, rfl⟩ := List.mem_map.mp m; exact imm_tri k
theorem newL_tri (ks : List K3) : newL (ks.map triD) = .tr (sTri ks) := by
  unfold newL sTri
  rw [if_pos (immL_tri ks), List.map_map]; rfl
theorem fAdd_tri {x y : R} {a b : List K3} (h1 : x.data = dTri a) (h2 : y.data = dTri b) (hl : a.length + b.length ≤ 100000) : fAdd x y = some (.tr (sTri (a ++ b))) := by
  simp only [fAdd, h1, h2, dTri]
  rw [if_pos (by simpa using hl), ← List.map_append, newL_tri]
theorem gSort_tri (ks : List K3) : gSort [dTri ks] = some (.tr (sTri (srt3 ks))) := by
  unfold gSort dTri
  cases ks with
  | nil => simp [ints?, srtI, srt3, newL, immL, sTri, List.mergeSort]
  | cons k ks =>
    have e : ints? ((k :: ks).map triD) = none := rfl
    simp only [e, tris?_map, newL_tri]
theorem mTup3 {ma mb mc : ME} {ρ : DL.Env} {x y z : R} {a : Str} {i j : Int} (h1 : ma ρ = some x) (h2 : mb ρ = some y) (h3 : mc ρ = some z) (d1 : x.data = .str a) (d2 : y.data = .int i) (d3 : z.data = .int j) : mTup (mCons ma (mCons mb (mCons mc mNil))) ρ = some (.sh (triD (a, i, j))) := by
  unfold mTup
  rw [three h1 h2 h3]
  simp [d1, d2, d3, immL, imm, triD]
theorem tree_tri (k : K3) : (R.sh (triD k)).tree = some (.d (triD k)) := by simp [R.tree, imm_tri]
/-! how many are above -/
def cnt (ns : List Int) (k : Int) : Nat := (ns.filter fun n => decide (k < n)).length
theorem cnt_le (ns : List Int) (k : Int) : cnt ns k ≤ ns.length := List.length_filter_le _ _
def intOf : D → Int
  | .int i => i
  | _ => 0
theorem filt_ints (ns : List Int) (k : Int) : ((ns.map D.int).filter fun d => decide (k < intOf d)) = (ns.filter fun n => decide (k < n)).map .int := by
  induction ns with
  | nil => rfl
  | cons n ns ih =>
    rw [List.map_cons, List.filter_cons, List.filter_cons, ih]
    by_cases h : k < n <;> simp [intOf, h]
theorem above_go {ns : List Int} {k : Int} {s0 : Sl} {mi : MI} (hi : mi [s0, .sh (.int k), .dead] = some (true, ns.map .int)) (hl : ns.length ≤ 100000) :
    mRet (mCB gLen (mCons (mLc mi (mgName 2) (mTst (mOp fGt (mVar 2) (mVar 1))) (mVar 2) [2]) mNil)) [s0, .sh (.int k), .dead] = some (.rt (.d (.int (cnt ns k)))) := by
  have e : mLc mi (mgName 2) (mTst (mOp fGt (mVar 2) (mVar 1))) (mVar 2) [2] [s0, .sh (.int k), .dead] = some (.tr (.own (((ns.map D.int).filter fun d => decide (k < intOf d)).map .d))) := by
    refine mLc_eval (fun d => decide (k < intOf d)) (fun d => .sh d) .d hi (by simpa using hl) rfl fun d m => ?_
    obtain ⟨n, _, rfl⟩ := List.mem_map.mp m
    refine ⟨[s0, .sh (.int k), .sh (.int n)], rfl, mTst_b (mOp_eq (x := .sh (.int n)) (y := .sh (.int k)) rfl rfl (fGt_ok rfl rfl)), fun _ => ⟨rfl, rfl⟩⟩
  refine mRet_d ?_ rfl
  refine mCB_1 e ?_
  rw [filt_ints]
  simp [R.data, S.data, gLen, S.dataL_len, cnt]
theorem above_l {ns : List Int} (hl : ns.length ≤ 100000) (k : Int) : g_above A [.lst (ns.map .int), .int k] = some (.ret (.d (.int (cnt ns k)))) :=
  run1 (above_go (s0 := .sh (.lst (ns.map .int))) rfl hl)
theorem above_t {ns : List Int} (hl : ns.length ≤ 100000) (k : Int) : g_above A [.tup (ns.map .int), .int k] = some (.ret (.d (.int (cnt ns k)))) :=
  run1 (above_go (s0 := .sh (.tup (ns.map .int))) rfl hl)
/-! what is enumerated -/
theorem enum_rg (ds : List D) : enumD ds = (List.range ds.length).map fun (i : Nat) => .tup [.int i, ds.getD i .non] := by
  unfold enumD
  apply List.ext_getElem?
  intro i
  rw [List.getElem?_mapIdx, List.getElem?_map]
  by_cases h : i < ds.length
  · rw [List.getElem?_eq_getElem h, List.getElem?_range h]
    simp [h]
  · rw [List.getElem?_eq_none (by omega), List.getElem?_eq_none (by simpa using h)]; rfl
theorem enum_map {α : Type} {n : Nat} {xs : List α} {f : α → D} (hn : xs.length = n) (x0 : α) : enumD (xs.map f) = (List.range n).map fun (i : Nat) => .tup [.int i, f (xs.getD i x0)] := by
  rw [enum_rg, List.length_map, hn]
  apply List.map_congr_left
  intro i m
  rw [List.mem_range] at m
  have : i < xs.length := by omega
  simp [this]
theorem gather_map {α β γ : Type} {f : β → Option (List γ)} {I : α → β} : ∀ xs : List α, gather f (xs.map I) = gather (fun x => f (I x)) xs
  | [] => rfl
  | x :: xs => by
    rw [List.map_cons]
    unfold gather
    rw [gather_map xs]
/-- a comprehension of two clauses, its items told by their numbers -/
theorem mLc2_rng {mi mi1 : MI} {g g1 : MG} {mt mt1 : MT} {me : ME} {vs vs1 : List Nat} {ρ : DL.Env} {n : Nat} {mm : Nat → Nat} {I : Nat → D} {J : Nat → Nat → D} (k : Nat → Nat → K3) (hi : mi ρ = some (true, (List.range n).map I)) (hd : vs.all (fun i => isDead (killVw ρ)[i]?) = true)
    (ht : ∀ i, i < n → ∃ ρ', g true (I i) (killVw ρ) = some ρ' ∧ mt ρ' = some true ∧ mi1 (killVw ρ') = some (true, (List.range (mm i)).map (J i)) ∧ vs1.all (fun i => isDead (killVw ρ')[i]?) = true ∧
      ∀ j, j < mm i → ∃ ρ1, g1 true (J i j) (killVw ρ') = some ρ1 ∧ mt1 ρ1 = some true ∧ me ρ1 = some (.sh (triD (k i j))))
    (hl : ((List.range n).flatMap fun i => List.range (mm i)).length ≤ 100000) : mLc2 mi g mt mi1 g1 mt1 me vs vs1 ρ = some (.tr (sTri ((List.range n).flatMap fun i => (List.range (mm i)).map (k i)))) := by
  unfold mLc2
  simp only [hi]
  rw [if_pos hd]
  have h1 : gather (lcTurn2 true g mt mi1 g1 mt1 me vs1 (killVw ρ)) ((List.range n).map I) = some ((List.range n).flatMap fun i => (List.range (mm i)).map fun j => nrm (.sh (triD (k i j)))) := by
    rw [gather_map]
    refine gather_flat fun i m => ?_
    rw [List.mem_range] at m
    obtain ⟨ρ', h1, h2, h3, h4, h5⟩ := ht i m
    unfold lcTurn2
    simp only [h1, h2, h3]
    rw [if_pos h4, gather_map]
    have : ((List.range (mm i)).map fun j => nrm (.sh (triD (k i j)))) = (List.range (mm i)).flatMap fun j => [nrm (.sh (triD (k i j)))] := by
      induction List.range (mm i) with
      | nil => rfl
      | cons a as ih => rw [List.map_cons, List.flatMap_cons, ih]; rfl
    rw [this]
    refine gather_flat fun j m1 => ?_
    rw [List.mem_range] at m1
    obtain ⟨ρ1, k1, k2, k3⟩ := h5 j m1
    unfold lcTurn
    simp only [k1, k2, k3]
    rfl
  rw [h1]
  show (if _ then _ else _) = _
  rw [if_pos]
  · have e : ((List.range n).flatMap fun i => (List.range (mm i)).map fun j => nrm (.sh (triD (k i j)))) = ((List.range n).flatMap fun i => (List.range (mm i)).map (k i)).map fun x => nrm (.sh (triD x)) := by
      rw [List.map_flatMap]; simp [Function.comp_def]
    rw [e]
    exact lcRes_map fun x _ => tree_tri x
  · refine Nat.le_trans (Nat.le_of_eq ?_) hl
    simp [List.length_flatMap]
end My

set_option Elab.async false
set_option linter.all false
set_option maxRecDepth 100000
set_option maxHeartbeats 4000000
namespace My
open PySem PySem.Spec PyProof.Rows L2 DL
open SrtT (K3)
variable {A : Ad}
/-! the floor by the program -/
def colT (t : List (List Int)) (j : Nat) : List Int := t.map fun x => x.getD j 0
def topK (t : List (List Int)) (i j : Nat) : K3 := (tTop, (i : Int) - at2 t i j, (j : Int) - at2 t i j)
def frK (t : List (List Int)) (j k : Nat) : K3 := (tFr, (cnt (colT t j) k : Int) - k, (j : Int) - k)
def sdK (t : List (List Int)) (i k : Nat) : K3 := (tSd, (i : Int) - k, (cnt (t.getD i []) k : Int) - k)
def topsK (r c : Nat) (t : List (List Int)) : List K3 := (List.range r).flatMap fun i => (List.range c).map (topK t i)
def frsK (c h : Nat) (t : List (List Int)) : List K3 := (List.range c).flatMap fun j => (List.range h).map (frK t j)
def sdsK (r h : Nat) (t : List (List Int)) : List K3 := (List.range r).flatMap fun i => (List.range h).map (sdK t i)
def floorK (r c h : Nat) (t : List (List Int)) : List K3 := srt3 (topsK r c t ++ frsK c h t ++ sdsK r h t)
theorem len_rr {n m : Nat} {α : Type} (f : Nat → Nat → α) : ((List.range n).flatMap fun i => (List.range m).map (f i)).length = n * m := by
  induction n with
  | zero => simp
  | succ n ih => rw [List.range_succ, List.flatMap_append, List.length_append, ih]; simp [Nat.succ_mul]
theorem len_r {n m : Nat} : ((List.range n).flatMap fun _ => List.range m).length = n * m := by
  induction n with
  | zero => simp
  | succ n ih => rw [List.range_succ, List.flatMap_append, List.length_append, ih]; simp [Nat.succ_mul]
def EF (r c h : Nat) (t : List (List Int)) (s2 s3 s4 s5 a b d e f g : Sl) : DL.Env := [.sh (dRoom r c h), .sh (dTab t), s2, s3, s4, s5, a, b, d, e, f, g]
theorem row_at {r c h : Nat} {t : List (List Int)} (F : Fl c h t) (hl : t.length = r) {i : Nat} (hi : i < r) : (t.getD i []).length = c := by
  have h1 : i < t.length := by omega
  have e : t.getD i [] = t[i] := by simp [h1]
  rw [e]; exact F.row _ (List.getElem_mem h1)
theorem colsD_tab {c h : Nat} {t : List (List Int)} (F : Fl c h t) : colsD (t.map fun x => x.map D.int) c = (List.range c).map fun j => .tup ((colT t j).map .int) := by
  unfold colsD
  apply List.map_congr_left
  intro j m
  rw [List.mem_range] at m
  congr 1
  unfold colT
  rw [List.map_map, List.map_map]
  apply List.map_congr_left
  intro x hx
  have := F.row x hx
  have h1 : j < x.length := by omega
  simp [Function.comp, h1]
theorem zipN_tab {r c h : Nat} {t : List (List Int)} {m : ME} {ρ : DL.Env} (M : Rm r c h) (F : Fl c h t) (hl : t.length = r) (hm : m ρ = some (.sh (dTab t))) : mZipN m ρ = some (true, (List.range c).map fun j => .tup ((colT t j).map .int)) := by
  have hr := M.r
  unfold mZipN
  rw [hm]
  have e : rows? (t.map dRow) = some (t.map fun x => x.map D.int) := by
    have : t.map dRow = (t.map fun x => x.map D.int).map .lst := by rw [List.map_map]; rfl
    rw [this, rows?_map]
  simp only [R.data, dTab, e]
  cases t with
  | nil => simp at hl; omega
  | cons x0 xs =>
    have h0 : x0.length = c := F.row x0 List.mem_cons_self
    simp only [List.map_cons]
    rw [if_pos]
    · rw [List.length_map, h0, ← colsD_tab F]; rfl
    · constructor
      · simp at hl ⊢; omega
      · rw [List.all_eq_true]
        intro y m
        obtain ⟨x, hx, rfl⟩ := List.mem_map.mp m
        have := F.row x (List.mem_cons_of_mem _ hx)
        simp; omega
theorem int_none (k : Int) : D.int k ≠ .non := by intro h; cases h
theorem floor_ok {r c h : Nat} {t : List (List Int)} (M : Rm r c h) (F : Fl c h t) (hl : t.length = r) : g_floor_of A [dRoom r c h, dTab t] = some (.ret (sTri (floorK r c h t))) := by
  have hr := M.r; have hc := M.c; have hh := M.h
  have T := F.tab hl
  have b1 : r * c ≤ 120 := Nat.le_trans (Nat.mul_le_mul hr.2 hc.2) (by decide)
  have b2 : c * h ≤ 400 := Nat.le_trans (Nat.mul_le_mul hc.2 hh.2) (by decide)
  have b3 : r * h ≤ 120 := Nat.le_trans (Nat.mul_le_mul hr.2 hh.2) (by decide)
  refine run1 ?_
  show m_floor_of A (EF r c h t .dead .dead .dead .dead .dead .dead .dead .dead .dead .dead) = _
  let H2 : Sl := .sh (.int h)
  have e0 : mDropC (mCallO 2 (g_check_table A) (mCons (mVar 0) (mCons (mVar 1) mNil))) (EF r c h t .dead .dead .dead .dead .dead .dead .dead .dead .dead .dead) = some (.nx (EF r c h t .dead .dead .dead .dead .dead .dead .dead .dead .dead .dead)) := by
    simp [mDropC, mCallO, mCons, mVar, mNil, R.data, check_ok M T, EF]
  refine mSeq_n e0 (mSeq_n (ρ1 := EF r c h t H2 .dead .dead .dead .dead .dead .dead .dead .dead .dead) (mSet_d (room_ix (k := 0) (r := r) (c := c) (h := h) rfl).2.2) ?_)
  have enT : ∀ s3 s4 s5, mEnum (mCons (mVar 1) mNil) (EF r c h t H2 s3 s4 s5 .dead .dead .dead .dead .dead .dead) = some (true, (List.range r).map fun (i : Nat) => .tup [.int i, dRow (t.getD i [])]) := fun s3 s4 s5 => by
    unfold mEnum
    rw [one (r := .sh (dTab t)) rfl]
    simp only [R.data, dTab, R.fixed]
    rw [enum_map hl []]
  have tops : mLc2 (mEnum (mCons (mVar 1) mNil)) (mgTup [6, 7]) mYes (mEnum (mCons (mVar 7) mNil)) (mgTup [8, 9]) mYes (mTup (mCons (mC (.str (PySem.Str.ofString "top"))) (mCons (mOp fSub (mVar 6) (mVar 9)) (mCons (mOp fSub (mVar 8) (mVar 9)) mNil)))) [6, 7, 8, 9] [8, 9] (EF r c h t H2 .dead .dead .dead .dead .dead .dead .dead .dead .dead) = some (.tr (sTri (topsK r c t))) := by
    refine mLc2_rng (mm := fun _ => c) (J := fun i j => .tup [.int j, .int (at2 t i j)]) (topK t) (enT _ _ _) rfl (fun i hi => ?_) (by rw [len_r]; omega)
    refine ⟨EF r c h t H2 .dead .dead .dead (.sh (.int i)) (.sh (dRow (t.getD i []))) .dead .dead .dead .dead, rfl, rfl, ?_, rfl, fun j hj => ?_⟩
    · show mEnum _ (EF r c h t H2 .dead .dead .dead (.sh (.int i)) (.sh (dRow (t.getD i []))) .dead .dead .dead .dead) = _
      unfold mEnum
      rw [one (r := .sh (dRow (t.getD i []))) rfl]
      simp only [R.data, dRow, R.fixed]
      rw [enum_map (row_at F hl hi) 0]; rfl
    · refine ⟨EF r c h t H2 .dead .dead .dead (.sh (.int i)) (.sh (dRow (t.getD i []))) (.sh (.int j)) (.sh (.int (at2 t i j))) .dead .dead, rfl, rfl, ?_⟩
      exact mTup3 rfl (mOp_eq (x := .sh (.int i)) (y := .sh (.int (at2 t i j))) rfl rfl (fSub_ok rfl rfl)) (mOp_eq (x := .sh (.int j)) (y := .sh (.int (at2 t i j))) rfl rfl (fSub_ok rfl rfl)) rfl rfl rfl
  let S3 : Sl := .tr (sTri (topsK r c t))
  refine mSeq_n (ρ1 := EF r c h t H2 S3 .dead .dead .dead .dead .dead .dead .dead .dead) (mSet_z tops rfl) ?_
  have fronts : mLc2 (mEnumZip (mVar 1)) (mgTup [8, 10]) mYes (mRg1 (mCons (mVar 2) mNil)) (mgName 11) mYes (mTup (mCons (mC (.str (PySem.Str.ofString "front"))) (mCons (mOp fSub (mCall 2 (g_above A) (mCons (mVar 10) (mCons (mVar 11) mNil))) (mVar 11)) (mCons (mOp fSub (mVar 8) (mVar 11)) mNil)))) [8, 10, 11] [11] (EF r c h t H2 S3 .dead .dead .dead .dead .dead .dead .dead .dead) = some (.tr (sTri (frsK c h t))) := by
    refine mLc2_rng (n := c) (I := fun j => .tup [.int (j : Nat), .tup ((colT t j).map .int)]) (mm := fun _ => h) (J := fun _ k => .int (k : Nat)) (frK t) ?_ rfl (fun j hj => ?_) (by rw [len_r]; omega)
    · unfold mEnumZip
      rw [zipN_tab M F hl (m := mVar 1) (ρ := EF r c h t H2 S3 .dead .dead .dead .dead .dead .dead .dead .dead) rfl]
      simp only []
      have := enum_map (n := c) (xs := List.range c) (f := fun j => D.tup ((colT t j).map .int)) (by simp) 0
      rw [this]
      congr 2
      apply List.map_congr_left
      intro j m
      rw [List.mem_range] at m
      simp [m]
    · refine ⟨EF r c h t H2 S3 .dead .dead .dead .dead (.sh (.int j)) .dead (.sh (.tup ((colT t j).map .int))) .dead, rfl, rfl, ?_, rfl, fun k hk => ?_⟩
      · show mRg1 _ (EF r c h t H2 S3 .dead .dead .dead .dead (.sh (.int j)) .dead (.sh (.tup ((colT t j).map .int))) .dead) = _
        rw [mRg1_eval (one (r := .sh (.int h)) rfl) rfl (by omega), rg0]
      · refine ⟨EF r c h t H2 S3 .dead .dead .dead .dead (.sh (.int j)) .dead (.sh (.tup ((colT t j).map .int))) (.sh (.int k)), rfl, rfl, ?_⟩
        have ab : mCall 2 (g_above A) (mCons (mVar 10) (mCons (mVar 11) mNil)) (EF r c h t H2 S3 .dead .dead .dead .dead (.sh (.int j)) .dead (.sh (.tup ((colT t j).map .int))) (.sh (.int k))) = some (.sh (.int (cnt (colT t j) k))) :=
          mCall_d (rs := [.sh (.tup ((colT t j).map .int)), .sh (.int k)]) (two rfl rfl) rfl (above_t (by simp [colT]; omega) _)
        exact mTup3 rfl (mOp_eq ab (y := .sh (.int k)) rfl (fSub_ok rfl rfl)) (mOp_eq (x := .sh (.int j)) (y := .sh (.int k)) rfl rfl (fSub_ok rfl rfl)) rfl rfl rfl
  let S4 : Sl := .tr (sTri (frsK c h t))
  refine mSeq_n (ρ1 := EF r c h t H2 S3 S4 .dead .dead .dead .dead .dead .dead .dead) (mSet_z fronts rfl) ?_
  have sides : mLc2 (mEnum (mCons (mVar 1) mNil)) (mgTup [6, 7]) mYes (mRg1 (mCons (mVar 2) mNil)) (mgName 11) mYes (mTup (mCons (mC (.str (PySem.Str.ofString "side"))) (mCons (mOp fSub (mVar 6) (mVar 11)) (mCons (mOp fSub (mCall 2 (g_above A) (mCons (mVar 7) (mCons (mVar 11) mNil))) (mVar 11)) mNil)))) [6, 7, 11] [11] (EF r c h t H2 S3 S4 .dead .dead .dead .dead .dead .dead .dead) = some (.tr (sTri (sdsK r h t))) := by
    refine mLc2_rng (mm := fun _ => h) (J := fun _ k => .int (k : Nat)) (sdK t) (enT _ _ _) rfl (fun i hi => ?_) (by rw [len_r]; omega)
    refine ⟨EF r c h t H2 S3 S4 .dead (.sh (.int i)) (.sh (dRow (t.getD i []))) .dead .dead .dead .dead, rfl, rfl, ?_, rfl, fun k hk => ?_⟩
    · show mRg1 _ (EF r c h t H2 S3 S4 .dead (.sh (.int i)) (.sh (dRow (t.getD i []))) .dead .dead .dead .dead) = _
      rw [mRg1_eval (one (r := .sh (.int h)) rfl) rfl (by omega), rg0]
    · refine ⟨EF r c h t H2 S3 S4 .dead (.sh (.int i)) (.sh (dRow (t.getD i []))) .dead .dead .dead (.sh (.int k)), rfl, rfl, ?_⟩
      have ab : mCall 2 (g_above A) (mCons (mVar 7) (mCons (mVar 11) mNil)) (EF r c h t H2 S3 S4 .dead (.sh (.int i)) (.sh (dRow (t.getD i []))) .dead .dead .dead (.sh (.int k))) = some (.sh (.int (cnt (t.getD i []) k))) :=
        mCall_d (rs := [.sh (dRow (t.getD i [])), .sh (.int k)]) (two rfl rfl) rfl (above_l (by rw [row_at F hl hi]; omega) _)
      exact mTup3 rfl (mOp_eq (x := .sh (.int i)) (y := .sh (.int k)) rfl rfl (fSub_ok rfl rfl)) (mOp_eq ab (y := .sh (.int k)) rfl (fSub_ok rfl rfl)) rfl rfl rfl
  let S5 : Sl := .tr (sTri (sdsK r h t))
  refine mSeq_n (ρ1 := EF r c h t H2 S3 S4 S5 .dead .dead .dead .dead .dead .dead) (mSet_z sides rfl) ?_
  have l1 : (topsK r c t).length = r * c := len_rr _
  have l2 : (frsK c h t).length = c * h := len_rr _
  have l3 : (sdsK r h t).length = r * h := len_rr _
  refine mRet_t (mCB_1 (x := .tr (sTri (topsK r c t ++ frsK c h t ++ sdsK r h t))) ?_ ?_)
  · refine mOp_eq (mOp_eq (x := .vw (dTri (topsK r c t))) (y := .vw (dTri (frsK c h t))) ?_ ?_ (fAdd_tri rfl rfl (by omega))) (y := .vw (dTri (sdsK r h t))) ?_ (fAdd_tri (sTri_data _) rfl (by rw [List.length_append]; omega))
    · show some (R.vw (sTri (topsK r c t)).data) = _; rw [sTri_data]
    · show some (R.vw (sTri (frsK c h t)).data) = _; rw [sTri_data]
    · show some (R.vw (sTri (sdsK r h t)).data) = _; rw [sTri_data]
  · show gSort [(sTri _).data] = _
    rw [sTri_data, gSort_tri]; rfl
end My

set_option Elab.async false
set_option linter.all false
set_option maxRecDepth 100000
set_option maxHeartbeats 4000000
namespace My
open PySem PySem.Spec PyProof.Rows L2 DL
open SrtT (K3)
variable {A : Ad}
def kind3 (k : K3) : Prop := k.1 = tTop ∨ k.1 = tFr ∨ k.1 = tSd
theorem floor_kind {r c h : Nat} {t : List (List Int)} : ∀ k ∈ floorK r c h t, kind3 k := fun k m => by
  have m := (srt3_perm _).mem_iff.mp m
  rcases List.mem_append.mp m with m | m
  · rcases List.mem_append.mp m with m | m
    · obtain ⟨i, _, m⟩ := List.mem_flatMap.mp m
      obtain ⟨j, _, rfl⟩ := List.mem_map.mp m
      exact .inl rfl
    · obtain ⟨i, _, m⟩ := List.mem_flatMap.mp m
      obtain ⟨j, _, rfl⟩ := List.mem_map.mp m
      exact .inr (.inl rfl)
  · obtain ⟨i, _, m⟩ := List.mem_flatMap.mp m
    obtain ⟨j, _, rfl⟩ := List.mem_map.mp m
    exact .inr (.inr rfl)
def okS (x : Str) : Prop := PyData.strOk x = true
theorem kind_ok {k : K3} (h : kind3 k) : okS k.1 := by
  rcases h with h | h | h <;> (unfold okS; rw [h]; decide +kernel)
theorem tri_py {k : K3} (h : okS k.1) : (triD k).py.canLay0 = true ∧ (triD k).py.depth ≤ 1 := by
  unfold okS at h
  simp [triD, D.py, D.pyL, PyData.canLay0, PyData.canLayAll0, PyData.depth, PyData.depthAll, h]
theorem tris_py : ∀ {ks : List K3}, (∀ k ∈ ks, okS k.1) → PyData.canLayAll0 (D.pyL (ks.map triD)) = true ∧ PyData.depthAll (D.pyL (ks.map triD)) ≤ 1
  | [], _ => by simp [D.pyL, PyData.canLayAll0, PyData.depthAll]
  | k :: ks, h => by
    obtain ⟨i1, i2⟩ := tris_py fun b m => h b (List.mem_cons_of_mem _ m)
    obtain ⟨j1, j2⟩ := tri_py (h k List.mem_cons_self)
    simp only [List.map_cons, D.pyL, PyData.canLayAll0, PyData.depthAll, i1, j1, Bool.and_self, true_and]
    omega
theorem ok_tris {ks : List K3} (h : ∀ k ∈ ks, okS k.1) : (dTri ks).ok = true := by
  obtain ⟨i1, i2⟩ := tris_py h
  unfold D.ok SeqAt.shaped dTri
  simp only [D.py, PyData.canLay0, PyData.depth, i1, Bool.true_and]
  exact decide_eq_true (by omega)
theorem eqv_tri (k l : K3) : D.eqv (triD k) (triD l) = decide (k = l) := by
  obtain ⟨x, i, j⟩ := k
  obtain ⟨y, m, n⟩ := l
  simp only [triD, D.eqv, D.py, D.pyL, PyData.eqv, PyData.eqvAll, Prod.mk.injEq, Bool.and_true]
  by_cases h1 : x = y <;> by_cases h2 : i = m <;> by_cases h3 : j = n <;> simp [h1, h2, h3]
theorem gEq_tris (neg : Bool) {a b : List K3} (h1 : ∀ k ∈ a, okS k.1) (h2 : ∀ k ∈ b, okS k.1) : gEq neg (dTri a) (dTri b) = some (.bl (if neg = true then !decide (a = b) else decide (a = b))) := by
  unfold gEq
  rw [ok_tris h1, ok_tris h2]
  have : D.eqv (dTri a) (dTri b) = decide (a = b) := eqv_lst eqv_tri a b
  rw [this]; rfl
def dPr (a b : K3) : D := .tup [triD a, triD b]
theorem ok_pr {a b : K3} (h1 : okS a.1) (h2 : okS b.1) : (dPr a b).ok = true := by
  obtain ⟨i1, i2⟩ := tris_py (ks := [a, b]) fun k m => by
    simp at m
    rcases m with rfl | rfl
    · exact h1
    · exact h2
  unfold D.ok SeqAt.shaped dPr
  simp only [D.py, PyData.canLay0, PyData.depth]
  simp only [List.map_cons, List.map_nil] at i1 i2
  rw [i1]
  simp only [Bool.true_and]
  exact decide_eq_true (by omega)
theorem gEq_pr {a b : K3} (h1 : okS a.1) (h2 : okS b.1) : gEq false (dPr a b) (dPr a b) = some (.bl true) := by
  unfold gEq
  rw [ok_pr h1 h2]
  have : D.eqv (dPr a b) (dPr a b) = decide ([a, b] = [a, b]) := eqv_tup eqv_tri [a, b] [a, b]
  rw [this]; simp
theorem gEq_s {x y : Str} (h1 : okS x) (h2 : okS y) : gEq false (.str x) (.str y) = some (.bl (decide (x = y))) := by
  unfold gEq
  have o : ∀ {x}, okS x → (D.str x).ok = true := fun {x} h => by
    unfold okS at h
    simp [D.ok, SeqAt.shaped, D.py, PyData.canLay0, PyData.depth, h]
  rw [o h1, o h2]
  have : D.eqv (.str x) (.str y) = decide (x = y) := by
    by_cases h : x = y <;> simp [D.eqv, D.py, PyData.eqv, h]
  rw [this]; rfl
theorem imm_pr (a b : K3) : imm (dPr a b) = true := by simp [dPr, imm, immL, imm_tri]
theorem mTup2t {ma mb : ME} {ρ : DL.Env} {a b : K3} (h1 : ma ρ = some (.sh (triD a))) (h2 : mb ρ = some (.sh (triD b))) : mTup (mCons ma (mCons mb mNil)) ρ = some (.sh (dPr a b)) := by
  unfold mTup
  rw [two h1 h2]
  simp [immL, imm_tri, dPr, R.data]
def tLo : Str := PySem.Str.ofString "low"
def tUp : Str := PySem.Str.ofString "up"
theorem lo_ok : okS tLo := by unfold okS; decide +kernel
theorem up_ok : okS tUp := by unfold okS; decide +kernel
theorem top_ok : okS tTop := by unfold okS; decide +kernel
theorem fr_ok : okS tFr := by unfold okS; decide +kernel
def covK (k : K3) : K3 × K3 :=
  if k.1 = tTop then ((tLo, k.2.1, k.2.2), (tUp, k.2.1, k.2.2))
  else if k.1 = tFr then ((tLo, k.2.1 - 1, k.2.2 - 1), (tUp, k.2.1 - 1, k.2.2))
  else ((tLo, k.2.1, k.2.2 - 1), (tUp, k.2.1 - 1, k.2.2 - 1))
theorem covK_ok (k : K3) : okS (covK k).1.1 ∧ okS (covK k).2.1 := by
  unfold covK
  by_cases h1 : k.1 = tTop
  · rw [if_pos h1]; exact ⟨lo_ok, up_ok⟩
  · rw [if_neg h1]
    by_cases h2 : k.1 = tFr
    · rw [if_pos h2]; exact ⟨lo_ok, up_ok⟩
    · rw [if_neg h2]; exact ⟨lo_ok, up_ok⟩
theorem fEq_k {x y : R} {a b : Str} (d1 : x.data = .str a) (d2 : y.data = .str b) (h1 : okS a) (h2 : okS b) : fEq x y = some (.sh (.bl (decide (a = b)))) := by
  simp [fEq, flat2, d1, d2, gEq_s h1 h2]
end My

set_option Elab.async false
set_option linter.all false
set_option maxRecDepth 100000
set_option maxHeartbeats 4000000
namespace My
open PySem PySem.Spec PyProof.Rows L2 DL
open SrtT (K3)
variable {A : Ad}
theorem covered_ok {k : K3} (hk : okS k.1) : g_covered A [triD k] = some (.ret (.d (dPr (covK k).1 (covK k).2))) := by
  obtain ⟨x, u, v⟩ := k
  have hk : okS x := hk
  refine run1 ?_
  let E : DL.Env := [.sh (triD (x, u, v)), .sh (.str x), .sh (.int u), .sh (.int v)]
  refine mSeq_n (ρ1 := E) rfl ?_
  have c1 : mTst (mOp fEq (mVar 1) (mC (.str (PySem.Str.ofString "top")))) E = some (decide (x = tTop)) := mTst_b (mOp_eq (x := .sh (.str x)) (y := .sh (.str tTop)) rfl rfl (fEq_k rfl rfl hk top_ok))
  have c2 : mTst (mOp fEq (mVar 1) (mC (.str (PySem.Str.ofString "front")))) E = some (decide (x = tFr)) := mTst_b (mOp_eq (x := .sh (.str x)) (y := .sh (.str tFr)) rfl rfl (fEq_k rfl rfl hk fr_ok))
  have uu : mVar 2 E = some (.sh (.int u)) := rfl
  have vv : mVar 3 E = some (.sh (.int v)) := rfl
  have u1 : mOp fSub (mVar 2) (mC (.int 1)) E = some (.sh (.int (u - 1))) := mOp_eq uu (y := .sh (.int 1)) rfl (fSub_ok rfl rfl)
  have v1 : mOp fSub (mVar 3) (mC (.int 1)) E = some (.sh (.int (v - 1))) := mOp_eq vv (y := .sh (.int 1)) rfl (fSub_ok rfl rfl)
  by_cases h1 : x = tTop
  · have e : covK (x, u, v) = ((tLo, u, v), (tUp, u, v)) := if_pos h1
    rw [e]
    unfold mSeq
    rw [mIfS_t (by rw [c1, decide_eq_true h1])]
    rw [show mRet _ E = some (.rt (.d (dPr (tLo, u, v) (tUp, u, v)))) from mRet_d (mTup2t (mTup3 rfl uu vv rfl rfl rfl) (mTup3 rfl uu vv rfl rfl rfl)) (imm_pr _ _)]
  · refine mSeq_n (ρ1 := E) (by rw [mIfS_f (by rw [c1, decide_eq_false h1])]; rfl) ?_
    by_cases h2 : x = tFr
    · have e : covK (x, u, v) = ((tLo, u - 1, v - 1), (tUp, u - 1, v)) := (if_neg h1).trans (if_pos h2)
      rw [e]
      unfold mSeq
      rw [mIfS_t (by rw [c2, decide_eq_true h2])]
      rw [show mRet _ E = some (.rt (.d (dPr (tLo, u - 1, v - 1) (tUp, u - 1, v)))) from mRet_d (mTup2t (mTup3 rfl u1 v1 rfl rfl rfl) (mTup3 rfl u1 vv rfl rfl rfl)) (imm_pr _ _)]
    · have e : covK (x, u, v) = ((tLo, u, v - 1), (tUp, u - 1, v - 1)) := (if_neg h1).trans (if_neg h2)
      rw [e]
      refine mSeq_n (ρ1 := E) (by rw [mIfS_f (by rw [c2, decide_eq_false h2])]; rfl) ?_
      exact mRet_d (mTup2t (mTup3 rfl uu v1 rfl rfl rfl) (mTup3 rfl u1 v1 rfl rfl rfl)) (imm_pr _ _)
local macro_rules | `(tactic| walk_at "ev") => `(tactic| simp (config := { decide := true }) [runF, env0, outF, mRet, mRetV, mAndV, mOrV, mTst, mIsi, mVar, mNotV, R.data, R.tree, R.slot, R.fixed, D.ty, isTy, imm, immL, mSeq, mIfS, mOr, mNot, mAnd, mOp, mCB, gLen, gMin, gMax, mCons, mNil, mC, fNe, fEq, fSub, fDiv, fMod, fAdd, fMul, fLt, fLe, fGt, fGe, flat2, gI, gIC, fIx, mNext, mSet, mIf, mCall, retR, mNeg, mCh, mLst, mTup, trees, S.data, S.dataL])
end My

set_option Elab.async false
set_option linter.all false
set_option maxRecDepth 100000
set_option maxHeartbeats 4000000
namespace My
open PySem PySem.Spec PyProof.Rows L2 DL
open SrtT (K3)
theorem Pw.anti {r c h : Nat} {f : Nat → Nat → Int} (P : Pw r c h f) {a b i j : Nat} (ha : a ≤ i) (hb : b ≤ j) (hi : i < r) (hj : j < c) : f i j ≤ f a b := by
  have h1 : ∀ d, a + d < r → f (a + d) j ≤ f a j := by
    intro d
    induction d with
    | zero => intro _; exact Int.le_refl _
    | succ d ih => intro hd; exact Int.le_trans (P.cc (a + d) j (by omega) hj) (ih (by omega))
  have h2 : ∀ d, b + d < c → f a (b + d) ≤ f a b := by
    intro d
    induction d with
    | zero => intro _; exact Int.le_refl _
    | succ d ih => intro hd; exact Int.le_trans (P.rr a (b + d) (by omega) (by omega)) (ih (by omega))
  have e1 := h1 (i - a) (by omega)
  have e2 := h2 (j - b) (by omega)
  rw [show a + (i - a) = i by omega] at e1
  rw [show b + (j - b) = j by omega] at e2
  omega
def cn (n : Nat) (p : Nat → Bool) : Nat := ((List.range n).filter p).length
theorem cn_succ (n : Nat) (p : Nat → Bool) : cn (n + 1) p = cn n p + if p n = true then 1 else 0 := by
  unfold cn
  rw [List.range_succ, List.filter_append, List.length_append]
  by_cases h : p n = true <;> simp [h]
theorem cn_mono {n : Nat} {p q : Nat → Bool} (h : ∀ x, x < n → p x = true → q x = true) : cn n p ≤ cn n q := by
  induction n with
  | zero => simp [cn]
  | succ n ih =>
    rw [cn_succ, cn_succ]
    have := ih fun x hx => h x (by omega)
    by_cases hp : p n = true
    · rw [if_pos hp, if_pos (h n (by omega) hp)]; omega
    · rw [if_neg hp]; omega
theorem cn_congr {n : Nat} {p q : Nat → Bool} (h : ∀ x, x < n → p x = q x) : cn n p = cn n q :=
  Nat.le_antisymm (cn_mono fun x hx e => (h x hx) ▸ e) (cn_mono fun x hx e => (h x hx).symm ▸ e)
theorem cn_lt (n i : Nat) (hi : i ≤ n) : cn n (fun x => decide (x < i)) = i := by
  have : ∀ n, cn n (fun x => decide (x < i)) = min i n := by
    intro n
    induction n with
    | zero => simp [cn]
    | succ n ih =>
      rw [cn_succ, ih]
      by_cases h : n < i
      · rw [if_pos (by simpa using h)]; omega
      · rw [if_neg (by simpa using h)]; omega
  rw [this]; omega
def cC (r : Nat) (f : Nat → Nat → Int) (b k : Nat) : Nat := cn r fun a => decide ((k : Int) < f a b)
def cR (c : Nat) (f : Nat → Nat → Int) (a k : Nat) : Nat := cn c fun b => decide ((k : Int) < f a b)
theorem cnt_C {t : List (List Int)} {r b k : Nat} (hl : t.length = r) : cnt (colT t b) k = cC r (at2 t) b k := by
  have e : colT t b = (List.range r).map fun a => at2 t a b := by
    apply List.ext_getElem
    · simp [colT, hl]
    · intro i h1 h2
      have h3 : i < t.length := by simpa [colT] using h1
      simp [colT, at2, h3]
  unfold cnt cC cn
  rw [e, List.filter_map, List.length_map]
  rfl
theorem cnt_R {t : List (List Int)} {c a k : Nat} (hl : (t.getD a []).length = c) : cnt (t.getD a []) k = cR c (at2 t) a k := by
  have e : t.getD a [] = (List.range c).map fun b => at2 t a b := by
    apply List.ext_getElem
    · rw [hl]; simp
    · intro i h1 h2
      have h3 : i < (t.getD a []).length := h1
      simp only [List.getElem_map, List.getElem_range]
      unfold at2
      rw [List.getD_eq_getElem?_getD (l := t.getD a []), List.getElem?_eq_getElem h3]; rfl
  unfold cnt cR cn
  conv => lhs; rw [e]
  rw [List.filter_map, List.length_map]
  rfl
theorem cC_anti {r c h : Nat} {f : Nat → Nat → Int} (P : Pw r c h f) {b k b' k' : Nat} (hb : b ≤ b') (hk : k ≤ k') (hb' : b' < c) : cC r f b' k' ≤ cC r f b k :=
  cn_mono fun x hx e => by
    have := P.anti (Nat.le_refl x) hb hx hb'
    have e := of_decide_eq_true e
    exact decide_eq_true (by omega)
theorem cR_anti {r c h : Nat} {f : Nat → Nat → Int} (P : Pw r c h f) {a k a' k' : Nat} (ha : a ≤ a') (hk : k ≤ k') (ha' : a' < r) : cR c f a' k' ≤ cR c f a k :=
  cn_mono fun x hx e => by
    have := P.anti ha (Nat.le_refl x) ha' hx
    have e := of_decide_eq_true e
    exact decide_eq_true (by omega)
def tT (f : Nat → Nat → Int) (p : Nat × Nat) : K3 := (tTop, (p.1 : Int) - f p.1 p.2, (p.2 : Int) - f p.1 p.2)
def tF (r : Nat) (f : Nat → Nat → Int) (p : Nat × Nat) : K3 := (tFr, (cC r f p.1 p.2 : Int) - p.2, (p.1 : Int) - p.2)
def tS (c : Nat) (f : Nat → Nat → Int) (p : Nat × Nat) : K3 := (tSd, (p.1 : Int) - p.2, (cR c f p.1 p.2 : Int) - p.2)
theorem tT_inj {r c h : Nat} {f : Nat → Nat → Int} (P : Pw r c h f) {p q : Nat × Nat} (h1 : p ∈ places r c) (h2 : q ∈ places r c) (e : tT f p = tT f q) : p = q := by
  obtain ⟨a, b⟩ := p
  obtain ⟨i, j⟩ := q
  rw [mem_places] at h1 h2
  simp only [tT, Prod.mk.injEq, true_and] at e h1 h2
  by_cases c1 : a < i
  · have := P.anti (a := a) (b := b) (i := i) (j := j) (by omega) (by omega) h2.1 h2.2; omega
  · by_cases c2 : i < a
    · have := P.anti (a := i) (b := j) (i := a) (j := b) (by omega) (by omega) h1.1 h1.2; omega
    · have : a = i := by omega
      subst this
      have : b = j := by omega
      rw [this]
theorem tF_inj {r c h : Nat} {f : Nat → Nat → Int} (P : Pw r c h f) {p q : Nat × Nat} (h1 : p ∈ places c h) (h2 : q ∈ places c h) (e : tF r f p = tF r f q) : p = q := by
  obtain ⟨a, b⟩ := p
  obtain ⟨i, j⟩ := q
  rw [mem_places] at h1 h2
  simp only [tF, Prod.mk.injEq, true_and] at e h1 h2
  by_cases c1 : a < i
  · have := cC_anti P (b := a) (k := b) (b' := i) (k' := j) (by omega) (by omega) h2.1; omega
  · by_cases c2 : i < a
    · have := cC_anti P (b := i) (k := j) (b' := a) (k' := b) (by omega) (by omega) h1.1; omega
    · have : a = i := by omega
      subst this
      have : b = j := by omega
      rw [this]
theorem tS_inj {r c h : Nat} {f : Nat → Nat → Int} (P : Pw r c h f) {p q : Nat × Nat} (h1 : p ∈ places r h) (h2 : q ∈ places r h) (e : tS c f p = tS c f q) : p = q := by
  obtain ⟨a, b⟩ := p
  obtain ⟨i, j⟩ := q
  rw [mem_places] at h1 h2
  simp only [tS, Prod.mk.injEq, true_and] at e h1 h2
  by_cases c1 : a < i
  · have := cR_anti P (a := a) (k := b) (a' := i) (k' := j) (by omega) (by omega) h2.1; omega
  · by_cases c2 : i < a
    · have := cR_anti P (a := i) (k := j) (a' := a) (k' := b) (by omega) (by omega) h1.1; omega
    · have : a = i := by omega
      subst this
      have : b = j := by omega
      rw [this]
theorem chg {α β : Type} [DecidableEq α] {L : List α} {F G : α → β} {x0 : α} (nd : L.Nodup) (h0 : x0 ∈ L) (e : ∀ x ∈ L, x ≠ x0 → F x = G x) : ∃ C, (L.map F).Perm (F x0 :: C) ∧ (L.map G).Perm (G x0 :: C) := by
  refine ⟨(L.erase x0).map F, (List.perm_cons_erase h0).map F, ?_⟩
  have : (L.erase x0).map F = (L.erase x0).map G := List.map_congr_left fun x m => by
    rw [nd.mem_erase_iff] at m
    exact e x m.2 m.1
  rw [this]
  exact (List.perm_cons_erase h0).map G
theorem not_in {α β : Type} {L : List α} {F G : α → β} {x0 : α} (h0 : x0 ∈ L) (e : ∀ x ∈ L, x ≠ x0 → F x = G x) (inj : ∀ x ∈ L, F x = F x0 → x = x0) (ne : F x0 ≠ G x0) : F x0 ∉ L.map G := by
  intro m
  obtain ⟨x, hx, e1⟩ := List.mem_map.mp m
  by_cases h : x = x0
  · subst h; exact ne e1.symm
  · exact h (inj x hx ((e x hx h).trans e1))
theorem places_nd (r c : Nat) : (places r c).Nodup := by
  have : (places r c).Pairwise fun p q => p.1 * c + p.2 < q.1 * c + q.2 := by
    unfold places
    rw [List.pairwise_flatMap]
    refine ⟨fun i _ => ?_, ?_⟩
    · rw [List.pairwise_map]
      exact List.pairwise_lt_range.imp fun h => by simpa using h
    · refine List.pairwise_lt_range.imp fun {a b} hab x hx y hy => ?_
      obtain ⟨j, hj, rfl⟩ := List.mem_map.mp hx
      obtain ⟨k, hk, rfl⟩ := List.mem_map.mp hy
      rw [List.mem_range] at hj hk
      show a * c + j < b * c + k
      have := Nat.mul_le_mul_right c (show a + 1 ≤ b from hab)
      rw [Nat.succ_mul] at this
      omega
  exact this.imp fun h e => by subst e; omega
theorem flat_places {β : Type} (F : Nat → Nat → β) (n m : Nat) : ((List.range n).flatMap fun i => (List.range m).map (F i)) = (places n m).map fun p => F p.1 p.2 := by
  unfold places
  rw [List.map_flatMap]
  simp [Function.comp_def]
theorem d_tf : tTop ≠ tFr := by decide +kernel
theorem d_ts : tTop ≠ tSd := by decide +kernel
theorem d_fs : tFr ≠ tSd := by decide +kernel
theorem k_tf (x y : Int × Int) : ((tTop, x) : K3) ≠ (tFr, y) := fun e => d_tf (congrArg Prod.fst e)
theorem k_ts (x y : Int × Int) : ((tTop, x) : K3) ≠ (tSd, y) := fun e => d_ts (congrArg Prod.fst e)
theorem k_fs (x y : Int × Int) : ((tFr, x) : K3) ≠ (tSd, y) := fun e => d_fs (congrArg Prod.fst e)
def unsrt (r c h : Nat) (f : Nat → Nat → Int) : List K3 := (places r c).map (tT f) ++ (places c h).map (tF r f) ++ (places r h).map (tS c f)
theorem floor_unsrt {r c h : Nat} {t : List (List Int)} (H : HS r c (at2 t) t) : (floorK r c h t).Perm (unsrt r c h (at2 t)) := by
  refine (srt3_perm _).trans (List.Perm.of_eq ?_)
  unfold unsrt topsK frsK sdsK
  rw [flat_places, flat_places, flat_places]
  congr 1
  · congr 1
    apply List.map_congr_left
    intro p m
    show (tFr, _, _) = (tFr, _, _)
    rw [cnt_C H.len]
  · apply List.map_congr_left
    intro p m
    rw [mem_places] at m
    have hi : p.1 < t.length := by rw [H.len]; exact m.1
    have hr : (t.getD p.1 []).length = c := by
      have e : t.getD p.1 [] = t[p.1] := by simp [hi]
      rw [e]; exact H.row _ (List.getElem_mem hi)
    show (tSd, _, _) = (tSd, _, _)
    rw [cnt_R hr]
theorem three_tiles {r c h : Nat} {f g : Nat → Nat → Int} (P : Pw r c h f) (Q : Pw r c h g) {i j N : Nat} (hi : i < r) (hj : j < c) (hN : N < h) (e0 : f i j = N) (e1 : g i j = N + 1) (ee : ∀ a b, a < r → b < c → ¬ (a = i ∧ b = j) → f a b = g a b) :
    ∃ C : List K3, (unsrt r c h f).Perm ([(tTop, (i : Int) - N, (j : Int) - N), (tFr, (i : Int) - N, (j : Int) - N), (tSd, (i : Int) - N, (j : Int) - N)] ++ C) ∧
      (unsrt r c h g).Perm ([(tTop, (i : Int) - (N + 1), (j : Int) - (N + 1)), (tFr, (i : Int) + 1 - N, (j : Int) - N), (tSd, (i : Int) - N, (j : Int) + 1 - N)] ++ C) ∧
      (∀ x ∈ ([(tTop, (i : Int) - N, (j : Int) - N), (tFr, (i : Int) - N, (j : Int) - N), (tSd, (i : Int) - N, (j : Int) - N)] : List K3), x ∉ unsrt r c h g) ∧
      (∀ x ∈ ([(tTop, (i : Int) - (N + 1), (j : Int) - (N + 1)), (tFr, (i : Int) + 1 - N, (j : Int) - N), (tSd, (i : Int) - N, (j : Int) + 1 - N)] : List K3), x ∉ unsrt r c h f) := by
  have m1 : ((i, j) : Nat × Nat) ∈ places r c := mem_places.mpr ⟨hi, hj⟩
  have m2 : ((j, N) : Nat × Nat) ∈ places c h := mem_places.mpr ⟨hj, hN⟩
  have m3 : ((i, N) : Nat × Nat) ∈ places r h := mem_places.mpr ⟨hi, hN⟩
  -- the counts
  have c1 : cC r f j N = i := by
    rw [← cn_lt r i (by omega)]
    refine cn_congr fun a ha => decide_eq_decide.mpr ⟨fun z => ?_, fun z => ?_⟩
    · by_cases hai : a < i
      · exact hai
      · have := P.anti (a := i) (b := j) (i := a) (j := j) (by omega) (Nat.le_refl _) ha hj; omega
    · have := Q.anti (a := a) (b := j) (i := i) (j := j) (by omega) (Nat.le_refl _) hi hj
      rw [ee a j ha hj (by omega)]; omega
  have c2 : cC r g j N = i + 1 := by
    rw [← cn_lt r (i + 1) (by omega)]
    refine cn_congr fun a ha => decide_eq_decide.mpr ⟨fun z => ?_, fun z => ?_⟩
    · by_cases hai : a < i + 1
      · exact hai
      · have := P.anti (a := i) (b := j) (i := a) (j := j) (by omega) (Nat.le_refl _) ha hj
        rw [ee a j ha hj (by omega)] at this; omega
    · have := Q.anti (a := a) (b := j) (i := i) (j := j) (by omega) (Nat.le_refl _) hi hj; omega
  have c3 : cR c f i N = j := by
    rw [← cn_lt c j (by omega)]
    refine cn_congr fun b hb => decide_eq_decide.mpr ⟨fun z => ?_, fun z => ?_⟩
    · by_cases hbj : b < j
      · exact hbj
      · have := P.anti (a := i) (b := j) (i := i) (j := b) (Nat.le_refl _) (by omega) hi hb; omega
    · have := Q.anti (a := i) (b := b) (i := i) (j := j) (Nat.le_refl _) (by omega) hi hj
      rw [ee i b hi hb (by omega)]; omega
  have c4 : cR c g i N = j + 1 := by
    rw [← cn_lt c (j + 1) (by omega)]
    refine cn_congr fun b hb => decide_eq_decide.mpr ⟨fun z => ?_, fun z => ?_⟩
    · by_cases hbj : b < j + 1
      · exact hbj
      · have := P.anti (a := i) (b := j) (i := i) (j := b) (Nat.le_refl _) (by omega) hi hb
        rw [ee i b hi hb (by omega)] at this; omega
    · have := Q.anti (a := i) (b := b) (i := i) (j := j) (Nat.le_refl _) (by omega) hi hj; omega
  -- alike elsewhere
  have a1 : ∀ x ∈ places r c, x ≠ (i, j) → tT f x = tT g x := fun x m ne => by
    rw [mem_places] at m
    unfold tT
    rw [ee x.1 x.2 m.1 m.2 (fun z => ne (Prod.ext z.1 z.2))]
  have a2 : ∀ x ∈ places c h, x ≠ (j, N) → tF r f x = tF r g x := fun x m ne => by
    rw [mem_places] at m
    unfold tF
    have : cC r f x.1 x.2 = cC r g x.1 x.2 := cn_congr fun a ha => by
      by_cases hx : a = i ∧ x.1 = j
      · obtain ⟨h1, h2⟩ := hx
        have hk : x.2 ≠ N := fun z => ne (Prod.ext h2 z)
        rw [h1, h2, e0, e1]
        exact decide_eq_decide.mpr (by omega)
      · rw [ee a x.1 ha m.1 hx]
    rw [this]
  have a3 : ∀ x ∈ places r h, x ≠ (i, N) → tS c f x = tS c g x := fun x m ne => by
    rw [mem_places] at m
    unfold tS
    have : cR c f x.1 x.2 = cR c g x.1 x.2 := cn_congr fun b hb => by
      by_cases hx : x.1 = i ∧ b = j
      · obtain ⟨h1, h2⟩ := hx
        have hk : x.2 ≠ N := fun z => ne (Prod.ext h1 z)
        rw [h1, h2, e0, e1]
        exact decide_eq_decide.mpr (by omega)
      · rw [ee x.1 b m.1 hb hx]
    rw [this]
  have f1 : tT f (i, j) = (tTop, (i : Int) - N, (j : Int) - N) := by simp [tT, e0]
  have g1 : tT g (i, j) = (tTop, (i : Int) - (N + 1), (j : Int) - (N + 1)) := by simp [tT, e1]
  have f2 : tF r f (j, N) = (tFr, (i : Int) - N, (j : Int) - N) := by simp [tF, c1]
  have g2 : tF r g (j, N) = (tFr, (i : Int) + 1 - N, (j : Int) - N) := by simp [tF, c2]
  have f3 : tS c f (i, N) = (tSd, (i : Int) - N, (j : Int) - N) := by simp [tS, c3]
  have g3 : tS c g (i, N) = (tSd, (i : Int) - N, (j : Int) + 1 - N) := by simp [tS, c4]
  have n1 : tT f (i, j) ≠ tT g (i, j) := by rw [f1, g1]; simp; omega
  have n2 : tF r f (j, N) ≠ tF r g (j, N) := by rw [f2, g2]; simp; omega
  have n3 : tS c f (i, N) ≠ tS c g (i, N) := by rw [f3, g3]; simp; omega
  obtain ⟨C1, p1, q1⟩ := chg (places_nd r c) m1 a1
  obtain ⟨C2, p2, q2⟩ := chg (places_nd c h) m2 a2
  obtain ⟨C3, p3, q3⟩ := chg (places_nd r h) m3 a3
  rw [f1] at p1; rw [f2] at p2; rw [f3] at p3
  rw [g1] at q1; rw [g2] at q2; rw [g3] at q3
  have mix : ∀ (x y z : K3), ((x :: C1) ++ (y :: C2) ++ (z :: C3)).Perm ([x, y, z] ++ (C1 ++ C2 ++ C3)) := fun x y z => by
    rw [List.perm_iff_count]
    intro a
    simp only [List.count_append, List.count_cons, List.count_nil]
    omega
  refine ⟨C1 ++ C2 ++ C3, ((p1.append p2).append p3).trans (mix _ _ _), ((q1.append q2).append q3).trans (mix _ _ _), fun x m => ?_, fun x m => ?_⟩
  · intro z
    have hx : x = tT f (i, j) ∨ x = tF r f (j, N) ∨ x = tS c f (i, N) := by rw [f1, f2, f3]; simpa using m
    rcases hx with rfl | rfl | rfl
    · rcases List.mem_append.mp z with z | z
      · rcases List.mem_append.mp z with z | z
        · exact not_in m1 a1 (fun y hy e => tT_inj P hy m1 e) n1 z
        · obtain ⟨y, _, e⟩ := List.mem_map.mp z; exact k_tf _ _ e.symm
      · obtain ⟨y, _, e⟩ := List.mem_map.mp z; exact k_ts _ _ e.symm
    · rcases List.mem_append.mp z with z | z
      · rcases List.mem_append.mp z with z | z
        · obtain ⟨y, _, e⟩ := List.mem_map.mp z; exact k_tf _ _ e
        · exact not_in m2 a2 (fun y hy e => tF_inj P hy m2 e) n2 z
      · obtain ⟨y, _, e⟩ := List.mem_map.mp z; exact k_fs _ _ e.symm
    · rcases List.mem_append.mp z with z | z
      · rcases List.mem_append.mp z with z | z
        · obtain ⟨y, _, e⟩ := List.mem_map.mp z; exact k_ts _ _ e
        · obtain ⟨y, _, e⟩ := List.mem_map.mp z; exact k_fs _ _ e
      · exact not_in m3 a3 (fun y hy e => tS_inj P hy m3 e) n3 z
  · intro z
    have hx : x = tT g (i, j) ∨ x = tF r g (j, N) ∨ x = tS c g (i, N) := by rw [g1, g2, g3]; simpa using m
    have b1 : ∀ x ∈ places r c, x ≠ (i, j) → tT g x = tT f x := fun x m ne => (a1 x m ne).symm
    have b2 : ∀ x ∈ places c h, x ≠ (j, N) → tF r g x = tF r f x := fun x m ne => (a2 x m ne).symm
    have b3 : ∀ x ∈ places r h, x ≠ (i, N) → tS c g x = tS c f x := fun x m ne => (a3 x m ne).symm
    rcases hx with rfl | rfl | rfl
    · rcases List.mem_append.mp z with z | z
      · rcases List.mem_append.mp z with z | z
        · exact not_in m1 b1 (fun y hy e => tT_inj Q hy m1 e) (Ne.symm n1) z
        · obtain ⟨y, _, e⟩ := List.mem_map.mp z; exact k_tf _ _ e.symm
      · obtain ⟨y, _, e⟩ := List.mem_map.mp z; exact k_ts _ _ e.symm
    · rcases List.mem_append.mp z with z | z
      · rcases List.mem_append.mp z with z | z
        · obtain ⟨y, _, e⟩ := List.mem_map.mp z; exact k_tf _ _ e
        · exact not_in m2 b2 (fun y hy e => tF_inj Q hy m2 e) (Ne.symm n2) z
      · obtain ⟨y, _, e⟩ := List.mem_map.mp z; exact k_fs _ _ e.symm
    · rcases List.mem_append.mp z with z | z
      · rcases List.mem_append.mp z with z | z
        · obtain ⟨y, _, e⟩ := List.mem_map.mp z; exact k_ts _ _ e
        · obtain ⟨y, _, e⟩ := List.mem_map.mp z; exact k_fs _ _ e
      · exact not_in m3 b3 (fun y hy e => tS_inj Q hy m3 e) (Ne.symm n3) z
theorem filt_new {A B O C : List K3} (p : A.Perm (O ++ C)) (hC : ∀ x ∈ C, x ∈ B) (hO : ∀ x ∈ O, x ∉ B) : (A.filter fun x => !decide (x ∈ B)).Perm O := by
  refine (p.filter _).trans ?_
  rw [List.filter_append]
  have e1 : (O.filter fun x => !decide (x ∈ B)) = O := List.filter_eq_self.mpr fun x m => by simp [hO x m]
  have e2 : (C.filter fun x => !decide (x ∈ B)) = [] := List.filter_eq_nil_iff.mpr fun x m => by simp [hC x m]
  rw [e1, e2, List.append_nil]
theorem kinds_srt {G : List K3} {x y z : Int × Int} (p : G.Perm [(tTop, x), (tFr, y), (tSd, z)]) : srtS (G.map Prod.fst) = [tFr, tSd, tTop] := by
  refine (srtS_uniq ?_ ?_).symm
  · have h1 : leS tFr tSd = true := by decide +kernel
    have h2 : leS tFr tTop = true := by decide +kernel
    have h3 : leS tSd tTop = true := by decide +kernel
    simp [h1, h2, h3]
  · refine List.Perm.trans ?_ (p.map Prod.fst).symm
    show [tFr, tSd, tTop].Perm [tTop, tFr, tSd]
    rw [List.perm_iff_count]
    intro a
    simp only [List.count_cons, List.count_nil]
    omega
def cov2 (G : List K3) : List K3 := G.flatMap fun k => [(covK k).1, (covK k).2]
theorem cov_top (u v : Int) : covK (tTop, u, v) = ((tLo, u, v), (tUp, u, v)) := if_pos rfl
theorem cov_fr (u v : Int) : covK (tFr, u, v) = ((tLo, u - 1, v - 1), (tUp, u - 1, v)) := (if_neg (Ne.symm d_tf)).trans (if_pos rfl)
theorem cov_sd (u v : Int) : covK (tSd, u, v) = ((tLo, u, v - 1), (tUp, u - 1, v - 1)) := (if_neg (Ne.symm d_ts)).trans (if_neg (Ne.symm d_fs))
theorem six_eq {G H : List K3} {i j N : Int} (p : G.Perm [(tTop, i - N, j - N), (tFr, i - N, j - N), (tSd, i - N, j - N)]) (q : H.Perm [(tTop, i - (N + 1), j - (N + 1)), (tFr, i + 1 - N, j - N), (tSd, i - N, j + 1 - N)]) : srt3 (cov2 G) = srt3 (cov2 H) := by
  refine srt3_congr ((List.Perm.flatMap_right _ p).trans (List.Perm.trans ?_ (List.Perm.flatMap_right _ q).symm))
  simp only [List.flatMap_cons, List.flatMap_nil, cov_top, cov_fr, cov_sd]
  rw [show i + 1 - N - 1 = i - N by omega, show j + 1 - N - 1 = j - N by omega, show i - (N + 1) = i - N - 1 by omega, show j - (N + 1) = j - N - 1 by omega]
  rw [List.perm_iff_count]
  intro a
  simp only [List.count_append, List.count_cons, List.count_nil]
  omega
end My

set_option Elab.async false
set_option linter.all false
set_option maxRecDepth 100000
set_option maxHeartbeats 4000000
/-! One box more: three tiles for three. -/
namespace My
open PySem PySem.Spec PyProof.Rows L2 DL
open SrtT (K3)
/-! all floors of a room cover the same -/
theorem key_max {α : Type} (key : α → Nat) : ∀ L : List α, L ≠ [] → ∃ p ∈ L, ∀ q ∈ L, key q ≤ key p
  | [], h => absurd rfl h
  | [a], _ => ⟨a, by simp, fun q m => by simp at m; subst m; exact Nat.le_refl _⟩
  | a :: b :: L, _ => by
    obtain ⟨p, hp, h⟩ := key_max key (b :: L) (by simp)
    by_cases hk : key p ≤ key a
    · refine ⟨a, by simp, fun q m => ?_⟩
      rcases List.mem_cons.mp m with rfl | m
      · exact Nat.le_refl _
      · exact Nat.le_trans (h q m) hk
    · refine ⟨p, List.mem_cons_of_mem _ hp, fun q m => ?_⟩
      rcases List.mem_cons.mp m with rfl | m
      · omega
      · exact h q m
theorem unsrt_congr {r c h : Nat} {f g : Nat → Nat → Int} (e : ∀ i j, i < r → j < c → f i j = g i j) : unsrt r c h f = unsrt r c h g := by
  unfold unsrt
  congr 1
  · congr 1
    · apply List.map_congr_left
      intro p m
      rw [mem_places] at m
      unfold tT
      rw [e _ _ m.1 m.2]
    · apply List.map_congr_left
      intro p m
      rw [mem_places] at m
      unfold tF cC
      rw [cn_congr fun a ha => by rw [e a p.1 ha m.1]]
  · apply List.map_congr_left
    intro p m
    rw [mem_places] at m
    unfold tS cR
    rw [cn_congr fun b hb => by rw [e p.1 b m.1 hb]]
def upd2 (f : Nat → Nat → Int) (i j : Nat) (v : Int) : Nat → Nat → Int := fun a b => if a = i ∧ b = j then v else f a b
def size (r c : Nat) (f : Nat → Nat → Int) : Nat := ((places r c).map fun p => (f p.1 p.2).toNat).sum
theorem sum_lt {α : Type} {F G : α → Nat} : ∀ {L : List α} {x : α}, x ∈ L → (∀ y ∈ L, F y ≤ G y) → F x < G x → (L.map F).sum < (L.map G).sum
  | a :: L, x, m, h, hx => by
    simp only [List.map_cons, List.sum_cons]
    have ha := h a List.mem_cons_self
    have hs : (L.map F).sum ≤ (L.map G).sum := by
      have : ∀ M : List α, (∀ y ∈ M, F y ≤ G y) → (M.map F).sum ≤ (M.map G).sum := by
        intro M
        induction M with
        | nil => intro _; simp
        | cons b M ih =>
          intro hM
          have h1 := hM b List.mem_cons_self
          have h2 := ih fun y m => hM y (List.mem_cons_of_mem _ m)
          simp only [List.map_cons, List.sum_cons]; omega
      exact this L fun y m => h y (List.mem_cons_of_mem _ m)
    rcases List.mem_cons.mp m with rfl | m
    · omega
    · have := sum_lt m (fun y m => h y (List.mem_cons_of_mem _ m)) hx
      omega
theorem cov2_app (G H : List K3) : cov2 (G ++ H) = cov2 G ++ cov2 H := by simp [cov2]
theorem cov2_perm {G H : List K3} (p : G.Perm H) : (cov2 G).Perm (cov2 H) := List.Perm.flatMap_right _ p
theorem srt3_back {a b : List K3} (h : srt3 a = srt3 b) : a.Perm b := (srt3_perm a).symm.trans ((List.Perm.of_eq h).trans (srt3_perm b))
def zer : Nat → Nat → Int := fun _ _ => 0
theorem cov_same {r c h : Nat} (hh : 1 ≤ h) : ∀ (n : Nat) (f : Nat → Nat → Int), size r c f = n → Pw r c h f → (cov2 (unsrt r c h f)).Perm (cov2 (unsrt r c h zer)) := by
  intro n
  induction n using Nat.strongRecOn with
  | _ n ih =>
    intro f hn P
    by_cases hz : (places r c).filter (fun p => decide (0 < f p.1 p.2)) = []
    · have e : ∀ i j, i < r → j < c → f i j = zer i j := fun i j hi hj => by
        have h1 := (P.lo i j hi hj).1
        have h2 := List.filter_eq_nil_iff.mp hz (i, j) (mem_places.mpr ⟨hi, hj⟩)
        simp only [decide_eq_true_eq] at h2
        show f i j = 0
        omega
      rw [unsrt_congr e]
    · obtain ⟨⟨i, j⟩, hp, hm⟩ := key_max (fun p : Nat × Nat => p.1 * c + p.2) _ hz
      rw [List.mem_filter] at hp
      obtain ⟨hp, hpos⟩ := hp
      obtain ⟨hi, hj⟩ := mem_places.mp hp
      have hpos : 0 < f i j := of_decide_eq_true hpos
      have zero : ∀ a b, a < r → b < c → i * c + j < a * c + b → f a b = 0 := fun a b ha hb hk => by
        have h1 := (P.lo a b ha hb).1
        by_cases h0 : 0 < f a b
        · have := hm (a, b) (List.mem_filter.mpr ⟨mem_places.mpr ⟨ha, hb⟩, decide_eq_true h0⟩)
          simp only at this
          omega
        · omega
      have hc0 : 0 < c := by omega
      have up := (P.lo i j hi hj).2
      let g := upd2 f i j (f i j - 1)
      have gat : g i j = f i j - 1 := if_pos ⟨rfl, rfl⟩
      have gne : ∀ a b, ¬ (a = i ∧ b = j) → g a b = f a b := fun a b hne => if_neg hne
      have gle : ∀ a b, g a b ≤ f a b := fun a b => by
        by_cases hab : a = i ∧ b = j
        · obtain ⟨rfl, rfl⟩ := hab; rw [gat]; omega
        · rw [gne a b hab]; exact Int.le_refl _
      have Q : Pw r c h g := by
        refine ⟨fun a b ha hb => ?_, fun a b ha hb => ?_, fun a b ha hb => ?_⟩
        · by_cases hab : a = i ∧ b = j
          · obtain ⟨rfl, rfl⟩ := hab; rw [gat]; omega
          · rw [gne a b hab]; exact P.lo a b ha hb
        · by_cases hab : a = i ∧ b = j
          · obtain ⟨rfl, rfl⟩ := hab
            rw [gat, gne a (b + 1) (by omega), zero a (b + 1) ha hb (by omega)]
            omega
          · rw [gne a b hab]; exact Int.le_trans (gle _ _) (P.rr a b ha hb)
        · by_cases hab : a = i ∧ b = j
          · obtain ⟨rfl, rfl⟩ := hab
            rw [gat, gne (a + 1) b (by omega), zero (a + 1) b ha hb (by rw [Nat.succ_mul]; omega)]
            omega
          · rw [gne a b hab]; exact Int.le_trans (gle _ _) (P.cc a b ha hb)
      have lt : size r c g < n := by
        rw [← hn]
        refine sum_lt (x := (i, j)) hp (fun q _ => ?_) ?_
        · have := gle q.1 q.2; omega
        · simp only [gat]; omega
      refine List.Perm.trans ?_ (ih _ lt g rfl Q)
      obtain ⟨N, hN⟩ : ∃ N : Nat, f i j - 1 = (N : Int) := ⟨(f i j - 1).toNat, by omega⟩
      have hN1 : f i j = (N : Int) + 1 := by omega
      have hNh : N < h := by omega
      obtain ⟨C, p1, p2, _⟩ := three_tiles Q P hi hj (N := N) hNh (by rw [gat, hN]) hN1 fun a b _ _ hne => gne a b hne
      have six := srt3_back (six_eq (G := [(tTop, (i : Int) - N, (j : Int) - N), (tFr, (i : Int) - N, (j : Int) - N), (tSd, (i : Int) - N, (j : Int) - N)]) (List.Perm.refl _) (List.Perm.refl _))
      refine (cov2_perm p2).trans (List.Perm.trans ?_ (cov2_perm p1).symm)
      rw [cov2_app, cov2_app]
      exact (six.symm).append_right _
/-- as lists, in order -/
theorem cover_eq {r c h : Nat} {t : List (List Int)} (hh : 1 ≤ h) (H : HS r c (at2 t) t) (P : Pw r c h (at2 t)) {T : List K3} (p : T.Perm (floorK r c h t)) {e : List (List Int)} (E : HS r c (at2 e) e) (ez : ∀ i j, at2 e i j = 0) : srt3 (cov2 T) = srt3 (cov2 (floorK r c h e)) := by
  refine srt3_congr ?_
  have h1 := cov2_perm (p.trans (floor_unsrt H))
  have h2 := cov2_perm (floor_unsrt (h := h) E)
  have ee : unsrt r c h (at2 e) = unsrt r c h zer := unsrt_congr fun i j _ _ => ez i j
  rw [ee] at h2
  exact h1.trans ((cov_same hh _ (at2 t) rfl P).trans h2.symm)
end My

set_option Elab.async false
set_option linter.all false
set_option maxRecDepth 100000
set_option maxHeartbeats 4000000
namespace My
open PySem PySem.Spec PyProof.Rows L2 DL
open SrtT (K3)
/-! the numbers of a table, from its tops -/
def isTop (d : Int) (k : K3) : Bool := decide (k.1 = tTop) && decide (k.2.1 - k.2.2 = d)
def topsAt (d : Int) (T : List K3) : List Int := srtI ((T.filter (isTop d)).map fun k => k.2.1)
def onA (c : Nat) (d : Int) (i : Nat) : Bool := decide (0 ≤ (i : Int) - d ∧ (i : Int) - d < c)
def rowsA (r c : Nat) (d : Int) : List Nat := (List.range r).filter (onA c d)
theorem filt_one (k : Nat) : ∀ c, (List.range c).filter (fun j => decide (j = k)) = if k < c then [k] else []
  | 0 => by simp
  | c + 1 => by
    rw [List.range_succ, List.filter_append, filt_one k c]
    by_cases h1 : k < c
    · rw [if_pos h1, if_pos (by omega)]
      have : ¬ c = k := by omega
      simp [this]
    · rw [if_neg h1]
      by_cases h2 : k = c
      · subst h2; simp
      · rw [if_neg (by omega)]
        have : ¬ c = k := by omega
        simp [this]
theorem diag (r c : Nat) (d : Int) : (places r c).filter (fun p => decide ((p.1 : Int) - p.2 = d)) = (rowsA r c d).map fun (i : Nat) => (i, ((i : Int) - d).toNat) := by
  unfold places rowsA
  rw [List.filter_flatMap, ← flatMap_if]
  congr 1
  funext i
  rw [List.filter_map]
  show ((List.range c).filter fun (j : Nat) => decide ((i : Int) - (j : Int) = d)).map _ = _
  by_cases h0 : 0 ≤ (i : Int) - d
  · have e : ((List.range c).filter fun (j : Nat) => decide ((i : Int) - (j : Int) = d)) = (List.range c).filter fun j => decide (j = ((i : Int) - d).toNat) := by
      apply List.filter_congr
      intro j _
      rw [decide_eq_decide]; omega
    rw [e, filt_one]
    by_cases h1 : (i : Int) - d < c
    · rw [if_pos (by omega), if_pos (show onA c d i = true from decide_eq_true ⟨h0, h1⟩)]; rfl
    · rw [if_neg (by omega), if_neg (show ¬ onA c d i = true by unfold onA; rw [decide_eq_true_eq]; omega)]; rfl
  · have e : ((List.range c).filter fun (j : Nat) => decide ((i : Int) - (j : Int) = d)) = [] := by
      rw [List.filter_eq_nil_iff]
      intro j _
      rw [decide_eq_true_eq]; omega
    rw [e, if_neg (show ¬ onA c d i = true by unfold onA; rw [decide_eq_true_eq]; omega)]; rfl
theorem no_top {x : Str} (h : tTop ≠ x) (d : Int) {α : Type} (g : α → Int × Int) (L : List α) : (L.map fun p => ((x, g p) : K3)).filter (isTop d) = [] := by
  rw [List.filter_eq_nil_iff]
  intro k m
  obtain ⟨p, _, rfl⟩ := List.mem_map.mp m
  unfold isTop
  have : ¬ x = tTop := fun e => h e.symm
  simp [this]
theorem tops_at {r c h : Nat} {f : Nat → Nat → Int} (P : Pw r c h f) {T : List K3} (p : T.Perm (unsrt r c h f)) (d : Int) : topsAt d T = (rowsA r c d).map fun (i : Nat) => (i : Int) - f i ((i : Int) - d).toNat := by
  symm
  unfold topsAt
  refine srtI_uniq ?_ ?_
  · rw [List.pairwise_map]
    have h1 : (rowsA r c d).Pairwise (· < ·) := (List.pairwise_lt_range).filter _
    refine List.Pairwise.imp_of_mem (fun {a b} ha hb hab => ?_) h1
    unfold rowsA at ha hb
    rw [List.mem_filter, List.mem_range] at ha hb
    have qa := of_decide_eq_true ha.2
    have qb := of_decide_eq_true hb.2
    have := P.anti (a := a) (b := ((a : Int) - d).toNat) (i := b) (j := ((b : Int) - d).toNat) (by omega) (by omega) hb.1 (by omega)
    omega
  · refine List.Perm.trans (List.Perm.of_eq ?_) ((p.filter (isTop d)).map fun k : K3 => k.2.1).symm
    unfold unsrt
    rw [List.filter_append, List.filter_append]
    have e1 : ((places c h).map (tF r f)).filter (isTop d) = [] := no_top d_tf d (fun p : Nat × Nat => ((cC r f p.1 p.2 : Int) - p.2, (p.1 : Int) - p.2)) _
    have e2 : ((places r h).map (tS c f)).filter (isTop d) = [] := no_top d_ts d (fun p : Nat × Nat => ((p.1 : Int) - p.2, (cR c f p.1 p.2 : Int) - p.2)) _
    rw [e1, e2, List.append_nil, List.append_nil, List.filter_map, List.map_map]
    have e3 : (places r c).filter (isTop d ∘ tT f) = (places r c).filter fun p => decide ((p.1 : Int) - p.2 = d) := by
      apply List.filter_congr
      intro q _
      have e : isTop d (tT f q) = decide (((q.1 : Int) - f q.1 q.2) - ((q.2 : Int) - f q.1 q.2) = d) := by
        unfold isTop tT
        simp
      show isTop d (tT f q) = _
      rw [e, decide_eq_decide]; omega
    rw [e3, diag, List.map_map]
    rfl
theorem mem_rowsA {r c : Nat} {d : Int} {i : Nat} : i ∈ rowsA r c d ↔ i < r ∧ 0 ≤ (i : Int) - d ∧ (i : Int) - d < c := by
  unfold rowsA
  rw [List.mem_filter, List.mem_range]
  unfold onA
  rw [decide_eq_true_eq]
end My

set_option Elab.async false
set_option linter.all false
set_option maxRecDepth 100000
set_option maxHeartbeats 4000000
namespace My
open PySem PySem.Spec PyProof.Rows L2 DL
open SrtT (K3)
variable {A : Ad}
/-! the mirrors of heap_of -/
theorem tri_ix {ρ : DL.Env} {m : ME} {k : K3} {z : R} (h : m ρ = some z) (hz : z = .sh (triD k)) : mOp fIx m (mC (.int 0)) ρ = some (.sh (.str k.1)) ∧ mOp fIx m (mC (.int 1)) ρ = some (.sh (.int k.2.1)) ∧ mOp fIx m (mC (.int 2)) ρ = some (.sh (.int k.2.2)) := by
  subst hz
  refine ⟨mOp_eq (y := .sh (.int 0)) h rfl rfl, mOp_eq (y := .sh (.int 1)) h rfl rfl, mOp_eq (y := .sh (.int 2)) h rfl rfl⟩
theorem kind_in {k : K3} (h : kind3 k) : inV (.str k.1) ((["top", "front", "side"] : List Str).map V.str) = true := by
  rcases h with e | e | e <;> rw [e] <;> decide +kernel
theorem is_tile_ok {k : K3} (hk : kind3 k) : g_is_tile A [triD k] = some (.ret (.d (.bl true))) := by
  refine run1 ?_
  let ρ : DL.Env := [.sh (triD k)]
  show m_is_tile A ρ = _
  obtain ⟨i0, i1, i2⟩ := tri_ix (ρ := ρ) (m := mVar 0) (k := k) rfl rfl
  have c1 : mTst (mIsi "tuple" (mVar 0)) ρ = some true := by
    show mTst (fun ρ => (mVar 0 ρ).map fun r => .sh (.bl (isTy r.data.ty "tuple"))) ρ = some true
    rfl
  have c2 : mTst (mOp fNe (mCB gLen (mCons (mVar 0) mNil)) (mC (.int 3))) ρ = some false := mTst_b ((mOp_eq (x := .sh (.int 3)) (y := .sh (.int 3)) rfl rfl (fNe_int rfl rfl)).trans (by simp))
  refine mSeq_n (ρ1 := ρ) (by rw [mIfS_f (mOr_f (mNot_t c1) c2)]; rfl) ?_
  have w : ∀ i : Int, g_is_whole A [.int i] = some (.ret (.d (.bl true))) := is_whole_int
  have k1 : mCall 1 (g_is_whole A) (mCons (mOp fIx (mVar 0) (mC (.int 1))) mNil) ρ = some (.sh (.bl true)) := mCall_d (rs := [.sh (.int k.2.1)]) (one i1) rfl (w _)
  have k2 : mCall 1 (g_is_whole A) (mCons (mOp fIx (mVar 0) (mC (.int 2))) mNil) ρ = some (.sh (.bl true)) := mCall_d (rs := [.sh (.int k.2.2)]) (one i2) rfl (w _)
  have k0 : mInK ["top", "front", "side"] (mOp fIx (mVar 0) (mC (.int 0))) ρ = some (.sh (.bl true)) := by
    unfold mInK
    rw [i0]
    show some (R.sh (.bl (inV (.str k.1) _))) = _
    rw [kind_in hk]
  refine mRet_d (d := .bl true) ?_ rfl
  unfold mAndV
  rw [mTst_b k0, mTst_b k1]
  exact k2
def triOf : D → K3
  | .tup [.str x, .int u, .int v] => (x, u, v)
  | _ => (tTop, 0, 0)
theorem triOf_tri (k : K3) : triOf (triD k) = k := rfl
theorem cov2_len (T : List K3) : (cov2 T).length = 2 * T.length := by
  induction T with
  | nil => rfl
  | cons k T ih =>
    show (([(covK k).1, (covK k).2] : List K3) ++ cov2 T).length = _
    rw [List.length_append, ih]; simp; omega
theorem cov2_ok (T : List K3) : ∀ k ∈ cov2 T, okS k.1 := fun k m => by
  obtain ⟨q, _, m⟩ := List.mem_flatMap.mp m
  have := covK_ok q
  rcases List.mem_cons.mp m with rfl | m
  · exact this.1
  · rw [List.mem_singleton.mp m]; exact this.2
theorem allCov_ok {T : List K3} (hT : ∀ k ∈ T, okS k.1) (hl : T.length ≤ 10000) : g_all_covered A [dTri T] = some (.ret (sTri (srt3 (cov2 T)))) := by
  refine run1 ?_
  let ρ : DL.Env := [.sh (dTri T), .dead, .dead]
  have q : mLc2 (mIL (mVar 0)) (mgName 1) mYes (mILT (mCall 1 (g_covered A) (mCons (mVar 1) mNil))) (mgName 2) mYes (mVar 2) [1, 2] [2] ρ = some (.tr (sTri (cov2 T))) := by
    rw [mLc2_eval (items := T.map triD) (fun _ _ => true) (fun d => [triD (covK (triOf d)).1, triD (covK (triOf d)).2]) (fun _ d1 => .sh d1) (fun _ d1 => .d d1)]
    · simp only [List.filter_cons_of_pos, List.filter_nil, if_true]
      rw [List.flatMap_map]
      unfold sTri cov2
      rw [List.map_flatMap]
      rfl
    · simp [mIL, mVar, ρ, R.data, R.fixed, dTri]
    · rfl
    · intro d m
      obtain ⟨k, hk, rfl⟩ := List.mem_map.mp m
      let ρ1 : DL.Env := [.sh (dTri T), .sh (triD k), .dead]
      refine ⟨ρ1, rfl, rfl, ?_, rfl, fun d1 m1 => ?_⟩
      · have c : mCall 1 (g_covered A) (mCons (mVar 1) mNil) ρ1 = some (.sh (dPr (covK k).1 (covK k).2)) := mCall_d (rs := [.sh (triD k)]) (one rfl) rfl (covered_ok (hT k hk))
        show mILT _ ρ1 = _
        unfold mILT
        rw [c]; rfl
      · have : d1 = triD (covK k).1 ∨ d1 = triD (covK k).2 := by simpa [triOf_tri] using m1
        refine ⟨[.sh (dTri T), .sh (triD k), .sh d1], rfl, rfl, fun _ => ⟨rfl, ?_⟩⟩
        rcases this with rfl | rfl <;> exact tree_tri _
    · refine Nat.le_trans (flat_len (m := 2) fun d _ => ?_) ?_
      · exact Nat.le_trans (List.length_filter_le _ _) (by simp)
      · rw [List.length_map]; omega
  refine mRet_t ?_
  exact mCB_1 q (by show gSort [(sTri (cov2 T)).data] = _; rw [sTri_data]; exact gSort_tri _)
/-- the empty table -/
def emp (r c : Nat) : List (List Int) := List.replicate r (List.replicate c 0)
theorem emp_at (r c i j : Nat) : at2 (emp r c) i j = 0 := by
  unfold at2 emp
  by_cases hi : i < r
  · by_cases hj : j < c
    · simp [hi, hj]
    · simp [hi, hj]
  · simp [hi]
theorem emp_hs (r c : Nat) : HS r c (at2 (emp r c)) (emp r c) := ⟨by simp [emp], fun x m => by
  have := List.eq_of_mem_replicate m
  subst this; simp, fun _ _ _ _ => rfl⟩
theorem emp_pw (r c h : Nat) : Pw r c h (at2 (emp r c)) := ⟨fun i j _ _ => by rw [emp_at]; omega, fun i j _ _ => by rw [emp_at, emp_at]; exact Int.le_refl _, fun i j _ _ => by rw [emp_at, emp_at]; exact Int.le_refl _⟩
def grd (r c h : Nat) : List K3 := srt3 (cov2 (floorK r c h (emp r c)))
theorem kinds_ok {T : List K3} (h : ∀ k ∈ T, kind3 k) : ∀ k ∈ T, okS k.1 := fun k m => kind_ok (h k m)
theorem floorK_len (r c h : Nat) (t : List (List Int)) : (floorK r c h t).length = r * c + c * h + r * h := by
  unfold floorK
  rw [(srt3_perm _).length_eq, List.length_append, List.length_append]
  unfold topsK frsK sdsK
  rw [len_rr, len_rr, len_rr]
theorem rm_len {r c h : Nat} (M : Rm r c h) : r * c + c * h + r * h ≤ 640 := by
  have := M.r; have := M.c; have := M.h
  have h1 : r * c ≤ 6 * 20 := Nat.mul_le_mul (by omega) (by omega)
  have h2 : c * h ≤ 20 * 20 := Nat.mul_le_mul (by omega) (by omega)
  have h3 : r * h ≤ 6 * 20 := Nat.mul_le_mul (by omega) (by omega)
  omega
theorem emp_sTab (r c : Nat) : sTab (emp r c) = .own ((List.range r).map fun _ => sRow (List.replicate c 0)) := by
  unfold sTab emp
  rw [List.map_replicate]
  congr 1
  apply List.ext_getElem <;> simp
theorem ground_ok {r c h : Nat} (M : Rm r c h) : g_ground A [dRoom r c h] = some (.ret (sTri (grd r c h))) := by
  have hr := M.r; have hc := M.c; have hh := M.h
  refine run1 ?_
  let ρ : DL.Env := [.sh (dRoom r c h), .dead, .dead]
  have e0 : mDropC (mCallO 1 (g_check_room A) (mCons (mVar 0) mNil)) ρ = some (.nx ρ) := by
    have e1 : g_check_room A [dRoom r c h] = some (.ret (.d .non)) := by
      have := is_room_ok (A := A) (r := r) (c := c) (h := h) (by omega) (by omega) (by omega)
      simp [g_check_room, m_check_room, runF, env0, mIfS, mNot, mTst, mCall, mCons, mVar, mNil, R.data, dRoom, this, retR, mNext, outF]
    have w0 : mCallO 1 (g_check_room A) (mCons (mVar 0) mNil) ρ = some (.ret (.d .non)) := by
      unfold mCallO
      rw [one (r := .sh (dRoom r c h)) rfl]
      exact e1
    unfold mDropC; rw [w0]
  refine mSeq_n e0 ?_
  obtain ⟨rr, rc, _⟩ := room_ix (ρ := ρ) (k := 0) (r := r) (c := c) (h := h) rfl
  have e1 : mLc (mRg1 (mCons (mOp fIx (mVar 0) (mC (.int 0))) mNil)) (mgName 2) mYes (mOp fMul (mLst (mCons (mC (.int 0)) mNil)) (mOp fIx (mVar 0) (mC (.int 1)))) [2] ρ = some (.tr (sTab (emp r c))) := by
    rw [mLc_eval (s := true) (items := rg 0 r) (fun _ => true) (fun _ => .tr (sRow (List.replicate c 0))) (fun _ => sRow (List.replicate c 0))]
    · rw [ft, rg0, List.map_map, emp_sTab]; rfl
    · exact mRg1_eval (one rr) rfl (by omega)
    · rw [rg0]; simp; omega
    · rfl
    · intro z mz
      rw [rg0] at mz
      obtain ⟨k, mk, rfl⟩ := List.mem_map.mp mz
      let ρk : DL.Env := [.sh (dRoom r c h), .dead, .sh (.int k)]
      obtain ⟨_, rck, _⟩ := room_ix (ρ := ρk) (k := 0) (r := r) (c := c) (h := h) rfl
      exact ⟨ρk, rfl, rfl, fun _ => ⟨mOp_eq (mLst_one (n := 0) rfl) rck (fMul_l rfl rfl (by omega)), rfl⟩⟩
  refine mSeq_n (mSet_z e1 rfl) ?_
  let ρ1 : DL.Env := [.sh (dRoom r c h), .tr (sTab (emp r c)), .dead]
  have F := (emp_pw r c h).fl (emp_hs r c)
  have e2 : mCall 2 (g_floor_of A) (mCons (mVar 0) (mCons (mVar 1) mNil)) ρ1 = some (.tr (sTri (floorK r c h (emp r c)))) :=
    mCall_t (rs := [.sh (dRoom r c h), .vw (sTab (emp r c)).data]) (two rfl rfl) rfl (by simp only [List.map_cons, List.map_nil, R.data, sTab_data]; exact floor_ok M F (emp_hs r c).len)
  refine mRet_t (s := sTri (grd r c h)) ?_
  refine mCall_t (rs := [.tr (sTri (floorK r c h (emp r c)))]) (one e2) rfl ?_
  simp only [List.map_cons, List.map_nil, R.data, sTri_data]
  exact allCov_ok (kinds_ok floor_kind) (by rw [floorK_len]; have := rm_len M; omega)
theorem srt_ok {T : List K3} : ∀ k ∈ srt3 (cov2 T), okS k.1 := fun k m => cov2_ok T k ((srt3_perm _).mem_iff.mp m)
theorem is_floor_ok {r c h : Nat} {T : List K3} (M : Rm r c h) (hk : ∀ k ∈ T, kind3 k) (hl : T.length ≤ 10000) : g_is_floor A [dRoom r c h, dTri T] = some (.ret (.d (.bl (decide (srt3 (cov2 T) = grd r c h))))) := by
  refine run1 ?_
  let ρ : DL.Env := [.sh (dRoom r c h), .sh (dTri T), .dead]
  show m_is_floor A ρ = _
  have c1 : mTst (mIsi "list" (mVar 1)) ρ = some true := isi_lst (z := .sh (dTri T)) rfl rfl
  have c2 : mTst (mCB gAll (mCons (mLc (mIL (mVar 1)) (mgName 2) mYes (mCall 1 (g_is_tile A) (mCons (mVar 2) mNil)) [2]) mNil)) ρ = some true := by
    have e : mLc (mIL (mVar 1)) (mgName 2) mYes (mCall 1 (g_is_tile A) (mCons (mVar 2) mNil)) [2] ρ = some (.tr (.own ((T.map triD).map fun _ => .d (.bl true)))) := by
      rw [mLc_eval (s := true) (items := T.map triD) (fun _ => true) (fun _ => .sh (.bl true)) (fun _ => .d (.bl true))]
      · rw [ft]
      · simp [mIL, mVar, ρ, R.data, R.fixed, dTri]
      · rw [List.length_map]; omega
      · rfl
      · intro d m
        obtain ⟨k, hm, rfl⟩ := List.mem_map.mp m
        exact ⟨[.sh (dRoom r c h), .sh (dTri T), .sh (triD k)], rfl, rfl, fun _ => ⟨mCall_d (rs := [.sh (triD k)]) (one rfl) rfl (is_tile_ok (hk k hm)), rfl⟩⟩
    refine mTst_b (mCB_1 e ?_)
    show gAll [.lst (S.dataL _)] = _
    exact all_true_d fun d m => by obtain ⟨_, _, rfl⟩ := List.mem_map.mp m; rfl
  refine mSeq_n (ρ1 := ρ) (by rw [mIfS_f (mOr_f (mNot_t c1) (mNot_t c2))]; rfl) ?_
  have a1 : mCall 1 (g_all_covered A) (mCons (mVar 1) mNil) ρ = some (.tr (sTri (srt3 (cov2 T)))) := mCall_t (rs := [.sh (dTri T)]) (one rfl) rfl (allCov_ok (kinds_ok hk) hl)
  have a2 : mCall 1 (g_ground A) (mCons (mVar 0) mNil) ρ = some (.tr (sTri (grd r c h))) := mCall_t (rs := [.sh (dRoom r c h)]) (one rfl) rfl (ground_ok M)
  refine mRet_d (d := .bl (decide (srt3 (cov2 T) = grd r c h))) (mOp_eq a1 a2 ?_) rfl
  have g := gEq_tris false (a := srt3 (cov2 T)) (b := grd r c h) srt_ok srt_ok
  simp only [fEq, flat2, R.data, sTri_data, g]
  simp
end My

set_option Elab.async false
set_option linter.all false
set_option maxRecDepth 100000
set_option maxHeartbeats 4000000
namespace My
open PySem PySem.Spec PyProof.Rows L2 DL
open SrtT (K3)
variable {A : Ad}
/-! heap_of -/
def dq (p : Int × Int) : D := .tup [.int p.1, .int p.2]
theorem ch_ok {ρ : DL.Env} {ma mb mc : ME} {x y z : R} {i j k : Int} (h1 : ma ρ = some x) (h2 : mb ρ = some y) (h3 : mc ρ = some z) (d1 : x.data = .int i) (d2 : y.data = .int j) (d3 : z.data = .int k) :
    mTst (mCh (fun i j => decide (i ≤ j)) (fun i j => decide (i < j)) ma mb mc) ρ = some (decide (i ≤ j ∧ j < k)) := by
  unfold mTst mCh
  rw [h1, h2, h3]
  simp only [d1, d2, d3]
  by_cases hq : i ≤ j
  · simp [hq, R.data]
  · simp [hq, R.data]
theorem rg_at2 {lo : Int} {n k : Nat} {d : D} (h : (rg lo n)[k]? = some d) : k < n ∧ d = .int (lo + k) := by
  unfold rg at h
  rw [List.getElem?_map, Option.map_eq_some_iff] at h
  obtain ⟨q, hq, rfl⟩ := h
  have h1 := (List.getElem?_eq_some_iff.mp hq).1
  rw [List.length_range] at h1
  rw [List.getElem?_range h1] at hq
  cases hq
  exact ⟨h1, rfl⟩
theorem mRg2_gen {ma mb : ME} {ρ : DL.Env} {x y : R} {i j : Int} (h1 : ma ρ = some x) (h2 : mb ρ = some y) (d1 : x.data = .int i) (d2 : y.data = .int j) (b1 : -1000 ≤ i ∧ i ≤ 1000) (b2 : -1000 ≤ j ∧ j ≤ 1000) : mRg2 (mCons ma (mCons mb mNil)) ρ = some (true, rg i (j - i).toNat) := by
  unfold mRg2
  rw [two h1 h2]
  simp only [List.map_cons, List.map_nil, d1, d2]
  rw [if_pos ⟨⟨by omega, by omega⟩, by omega, by omega⟩]
def onD (c : Nat) (d : Int) : D → Bool
  | .int i => decide (0 ≤ i - d ∧ i - d < c)
  | _ => false
def plD (d : Int) : D → D
  | .int i => dq (i, i - d)
  | _ => .non
theorem imm_dq (p : Int × Int) : imm (dq p) = true := by simp [dq, imm, immL]
theorem mTup2 {ma mb : ME} {ρ : DL.Env} {x y : R} {i j : Int} (h1 : ma ρ = some x) (h2 : mb ρ = some y) (d1 : x.data = .int i) (d2 : y.data = .int j) : mTup (mCons ma (mCons mb mNil)) ρ = some (.sh (dq (i, j))) := by
  unfold mTup
  rw [two h1 h2]
  simp [d1, d2, immL, imm, dq]
theorem places_apart_ok {r c h : Nat} (M : Rm r c h) (d : Int) : g_places_apart A [dRoom r c h, .int d] = some (.ret (.own ((rowsA r c d).map fun (i : Nat) => .d (dq ((i : Int), (i : Int) - d))))) := by
  have hr := M.r
  refine run1 ?_
  let ρ : DL.Env := [.sh (dRoom r c h), .sh (.int d), .dead]
  show m_places_apart A ρ = _
  obtain ⟨rr, _, _⟩ := room_ix (ρ := ρ) (k := 0) (r := r) (c := c) (h := h) rfl
  refine mRet_t ?_
  rw [mLc_eval (s := true) (items := rg 0 r) (onD c d) (fun x => .sh (plD d x)) (fun x => .d (plD d x))]
  · rw [rg0, List.filter_map, List.map_map]
    rfl
  · exact mRg1_eval (one rr) rfl (by omega)
  · rw [rg0]; simp; omega
  · rfl
  · intro z mz
    rw [rg0] at mz
    obtain ⟨i, _, rfl⟩ := List.mem_map.mp mz
    let ρi : DL.Env := [.sh (dRoom r c h), .sh (.int d), .sh (.int i)]
    obtain ⟨_, rc, _⟩ := room_ix (ρ := ρi) (k := 0) (r := r) (c := c) (h := h) rfl
    have sb : mOp fSub (mVar 2) (mVar 1) ρi = some (.sh (.int ((i : Int) - d))) := mOp_eq (x := .sh (.int i)) (y := .sh (.int d)) rfl rfl (fSub_ok rfl rfl)
    refine ⟨ρi, rfl, ch_ok (x := .sh (.int 0)) rfl sb rc rfl rfl rfl, fun _ => ⟨mTup2 (x := .sh (.int i)) rfl sb rfl rfl, ?_⟩⟩
    show (R.sh (dq _)).tree = some (.d (dq _))
    simp [R.tree, imm_dq]
theorem tops_apart_ok {T : List K3} (hk : ∀ k ∈ T, okS k.1) (hl : T.length ≤ 10000) (d : Int) : g_tops_apart A [dTri T, .int d] = some (.ret (sRow (topsAt d T))) := by
  refine run1 ?_
  let ρ : DL.Env := [.sh (dTri T), .sh (.int d), .dead, .dead, .dead]
  show m_tops_apart A ρ = _
  have q : mLc (mIL (mVar 0)) (mgTup [2, 3, 4]) (mAnd (mTst (mOp fEq (mVar 2) (mC (.str (PySem.Str.ofString "top"))))) (mTst (mOp fEq (mOp fSub (mVar 3) (mVar 4)) (mVar 1)))) (mVar 3) [2, 3, 4] ρ = some (.tr (sRow ((T.filter (isTop d)).map fun k => k.2.1))) := by
    rw [mLc_eval (s := true) (items := T.map triD) (fun x => isTop d (triOf x)) (fun x => .sh (.int (triOf x).2.1)) (fun x => .d (.int (triOf x).2.1))]
    · rw [List.filter_map, List.map_map]
      unfold sRow
      rw [List.map_map]
      rfl
    · simp [mIL, mVar, ρ, R.data, R.fixed, dTri]
    · rw [List.length_map]; omega
    · rfl
    · intro x m
      obtain ⟨k, hm, rfl⟩ := List.mem_map.mp m
      let ρk : DL.Env := [.sh (dTri T), .sh (.int d), .sh (.str k.1), .sh (.int k.2.1), .sh (.int k.2.2)]
      have c1 : mTst (mOp fEq (mVar 2) (mC (.str (PySem.Str.ofString "top")))) ρk = some (decide (k.1 = tTop)) := mTst_b (mOp_eq (x := .sh (.str k.1)) (y := .sh (.str tTop)) rfl rfl (fEq_k rfl rfl (hk k hm) top_ok))
      have c2 : mTst (mOp fEq (mOp fSub (mVar 3) (mVar 4)) (mVar 1)) ρk = some (decide (k.2.1 - k.2.2 = d)) := mTst_b (mOp_eq (mOp_eq (x := .sh (.int k.2.1)) (y := .sh (.int k.2.2)) rfl rfl (fSub_ok rfl rfl)) (y := .sh (.int d)) rfl (fEq_int rfl rfl))
      refine ⟨ρk, rfl, ?_, fun _ => ⟨rfl, rfl⟩⟩
      show mAnd _ _ ρk = some (isTop d k)
      unfold isTop mAnd
      rw [c1]
      cases hd : decide (k.1 = tTop)
      · rfl
      · rw [Bool.true_and]; exact c2
  refine mRet_t (mCB_1 q ?_)
  simp only [R.data, sRow_data, dRow, gSort, ints?_map]
  unfold newL
  rw [if_pos (imm_ints _), List.map_map]; rfl
def kq (p : Int × Int) : List Key := [.inl p.1, .inl p.2]
theorem kq_inj {p q : Int × Int} (h : kq p = kq q) : p = q := by
  unfold kq at h
  simp only [List.cons.injEq, Sum.inl.injEq] at h
  exact Prod.ext h.1 h.2.1
def EH (r c h : Nat) (T : List K3) (kvs : List (List Key × V)) (s5 s6 s7 : Sl) : DL.Env := [.sh (dRoom r c h), .sh (dTri T), .sh (.int r), .sh (.int c), .dc (.t kvs), s5, s6, s7, .dead, .dead]
theorem putK_le (c : List (List Key × V)) (k : List Key) (x : V) : (putK c k x).length ≤ c.length + 1 := by
  unfold putK
  split <;> simp
def putB : MS := mDPut 4 (mVar 6) (mOp fSub (mOp fIx (mVar 6) (mC (.int 0))) (mVar 7))
def fillD (f : Nat → Nat → Int) (d : Int) : List Nat → List (List Key × V) → List (List Key × V)
  | [], kvs => kvs
  | i :: L, kvs => fillD f d L (putK kvs (kq ((i : Int), (i : Int) - d)) (.int (f i ((i : Int) - d).toNat)))
theorem fillD_len (f : Nat → Nat → Int) (d : Int) : ∀ (L : List Nat) (kvs : List (List Key × V)), (fillD f d L kvs).length ≤ kvs.length + L.length
  | [], kvs => by simp [fillD]
  | i :: L, kvs => by
    have h1 := fillD_len f d L (putK kvs (kq ((i : Int), (i : Int) - d)) (.int (f i ((i : Int) - d).toNat)))
    have h2 := putK_le kvs (kq ((i : Int), (i : Int) - d)) (.int (f i ((i : Int) - d).toNat))
    simp only [fillD, List.length_cons]
    omega
theorem fillD_old (f : Nat → Nat → Int) (d : Int) {p : Int × Int} (hp : p.1 - p.2 ≠ d) : ∀ (L : List Nat) (kvs : List (List Key × V)), valV (fillD f d L kvs) (kq p) = valV kvs (kq p)
  | [], kvs => rfl
  | i :: L, kvs => by
    simp only [fillD]
    rw [fillD_old f d hp L, valV_put, if_neg]
    intro e
    have := kq_inj e
    subst this
    exact hp (by show (i : Int) - ((i : Int) - d) = d; omega)
theorem fillD_new (f : Nat → Nat → Int) (d : Int) {i : Nat} : ∀ (L : List Nat) (kvs : List (List Key × V)), i ∈ L ∨ valV kvs (kq ((i : Int), (i : Int) - d)) = some (.int (f i ((i : Int) - d).toNat)) → valV (fillD f d L kvs) (kq ((i : Int), (i : Int) - d)) = some (.int (f i ((i : Int) - d).toNat))
  | [], kvs, h => by
    rcases h with h | h
    · cases h
    · exact h
  | k :: L, kvs, h => by
    simp only [fillD]
    refine fillD_new f d L _ ?_
    by_cases hk : i = k
    · subst hk
      right
      rw [valV_put, if_pos rfl]
    · rcases h with h | h
      · rcases List.mem_cons.mp h with h | h
        · exact absurd h hk
        · exact .inl h
      · right
        rw [valV_put, if_neg]
        · exact h
        · intro e
          have := congrArg Prod.fst (kq_inj e)
          simp only at this
          omega
theorem fill_loop {r c h : Nat} {T : List K3} {f : Nat → Nat → Int} {d : Int} : ∀ (L : List Nat) (kvs : List (List Key × V)), kvs.length + L.length < 100000 →
    forGo true (mgTup [6, 7]) putB [6, 7] (pairs (L.map fun (i : Nat) => dq ((i : Int), (i : Int) - d)) (L.map fun (i : Nat) => .int ((i : Int) - f i ((i : Int) - d).toNat))) (EH r c h T kvs (.sh (.int d)) .dead .dead) = some (.nx (EH r c h T (fillD f d L kvs) (.sh (.int d)) .dead .dead))
  | [], kvs, _ => rfl
  | i :: L, kvs, hl => by
    rw [List.length_cons] at hl
    let v := f i ((i : Int) - d).toNat
    have hlen := putK_le kvs (kq ((i : Int), (i : Int) - d)) (.int v)
    have ih := fill_loop (r := r) (c := c) (h := h) (T := T) (f := f) (d := d) L (putK kvs (kq ((i : Int), (i : Int) - d)) (.int v)) (by omega)
    let E := EH r c h T kvs (.sh (.int d)) (.sh (dq ((i : Int), (i : Int) - d))) (.sh (.int ((i : Int) - v)))
    have e1 : putB E = some (.nx (EH r c h T (putK kvs (kq ((i : Int), (i : Int) - d)) (.int v)) (.sh (.int d)) (.sh (dq ((i : Int), (i : Int) - d))) (.sh (.int ((i : Int) - v))))) := by
      have a1 : mOp fSub (mOp fIx (mVar 6) (mC (.int 0))) (mVar 7) E = some (.sh (.int v)) := by
        have := mOp_eq (ma := mOp fIx (mVar 6) (mC (.int 0))) (mb := mVar 7) (ρ := E) (x := .sh (.int i)) (y := .sh (.int ((i : Int) - v))) rfl rfl (fSub_ok rfl rfl)
        rw [this, show (i : Int) - ((i : Int) - v) = v by omega]
      have a2 : E[4]? = some (.dc (.t kvs)) := rfl
      have a3 : mVar 6 E = some (.sh (dq ((i : Int), (i : Int) - d))) := rfl
      unfold putB mDPut
      rw [a1, a2, a3]
      simp only [R.data, flV, dq]
      have : putM (.t kvs) (.tup [.int (i : Int), .int ((i : Int) - d)]) (.int v) = some (.t (putK kvs (kq ((i : Int), (i : Int) - d)) (.int v))) := by
        unfold putM
        show (match keysD [.int (i : Int), .int ((i : Int) - d)] with
          | some k => if kvs.length < 100000 then some (Mu.t (putK kvs k (V.int v))) else none
          | none => none) = _
        show (if kvs.length < 100000 then some (Mu.t (putK kvs (kq ((i : Int), (i : Int) - d)) (V.int v))) else none) = _
        rw [if_pos (by omega)]
      rw [this]
      rfl
    show (match mgTup [6, 7] true (.tup [dq ((i : Int), (i : Int) - d), .int ((i : Int) - v)]) (EH r c h T kvs (.sh (.int d)) .dead .dead) with
        | some ρ1 => match putB ρ1 with
          | some (.nx ρ2) => forGo true (mgTup [6, 7]) putB [6, 7] (pairs (L.map fun (i : Nat) => dq ((i : Int), (i : Int) - d)) (L.map fun (i : Nat) => .int ((i : Int) - f i ((i : Int) - d).toNat))) (killE [6, 7] ρ2)
          | some (.ct ρ2) => forGo true (mgTup [6, 7]) putB [6, 7] (pairs (L.map fun (i : Nat) => dq ((i : Int), (i : Int) - d)) (L.map fun (i : Nat) => .int ((i : Int) - f i ((i : Int) - d).toNat))) (killE [6, 7] ρ2)
          | some (.bk ρ2) => some (.nx ρ2)
          | o => o
        | none => none) = _
    have g : mgTup [6, 7] true (.tup [dq ((i : Int), (i : Int) - d), .int ((i : Int) - v)]) (EH r c h T kvs (.sh (.int d)) .dead .dead) = some E := rfl
    rw [g]
    simp only [e1]
    exact ih
theorem tab_eq {r c : Nat} {t : List (List Int)} (H : HS r c (at2 t) t) : ((List.range r).map fun i => (List.range c).map fun j => at2 t i j) = t := by
  apply List.ext_getElem?
  intro i
  by_cases hi : i < r
  · have h1 : i < t.length := by rw [H.len]; exact hi
    have h2 := H.row _ (List.getElem_mem h1)
    rw [List.getElem?_map, List.getElem?_range hi, List.getElem?_eq_getElem h1]
    show some _ = some _
    congr 1
    apply List.ext_getElem?
    intro j
    by_cases hj : j < c
    · rw [List.getElem?_map, List.getElem?_range hj, List.getElem?_eq_getElem (by omega)]
      simp [at2, h1, h2, hj]
    · rw [List.getElem?_eq_none (by simp; omega), List.getElem?_eq_none (by omega)]
  · rw [List.getElem?_eq_none (by simp; omega), List.getElem?_eq_none (by rw [H.len]; omega)]
theorem rowsA_len (r c : Nat) (d : Int) : (rowsA r c d).length ≤ r := by
  unfold rowsA
  exact Nat.le_trans (List.length_filter_le _ _) (by simp)
def outHB (A : Ad) : MS := (mKill [6, 7] (mFor (mZip (mCons (mCall 2 (g_places_apart A) (mCons (mVar 0) (mCons (mVar 5) mNil))) (mCons (mCall 2 (g_tops_apart A) (mCons (mVar 1) (mCons (mVar 5) mNil))) mNil))) (mgTup [6, 7]) putB [6, 7]))
theorem heap_pre {r c h : Nat} {T : List K3} (M : Rm r c h) (hk : ∀ k ∈ T, kind3 k) (hl : T.length ≤ 10000) (b : Bool) (hb : decide (srt3 (cov2 T) = grd r c h) = b) (m : MS) :
    mSeq (mDropC (mCallO 1 (g_check_room A) (mCons (mVar 0) mNil))) (mSeq (mIfS (mNot (mTst (mCall 2 (g_is_floor A) (mCons (mVar 0) (mCons (mVar 1) mNil))))) (fun _ => some (.ex A.c_NoFloor)) mNext) m)
      [.sh (dRoom r c h), .sh (dTri T), .dead, .dead, .dead, .dead, .dead, .dead, .dead, .dead] = if b = true then m [.sh (dRoom r c h), .sh (dTri T), .dead, .dead, .dead, .dead, .dead, .dead, .dead, .dead] else some (.ex A.c_NoFloor) := by
  have hr := M.r; have hc := M.c; have hh := M.h
  let d : Sl := .dead
  let ρ : DL.Env := [.sh (dRoom r c h), .sh (dTri T), d, d, d, d, d, d, d, d]
  have e0 : mDropC (mCallO 1 (g_check_room A) (mCons (mVar 0) mNil)) ρ = some (.nx ρ) := by
    have e1 : g_check_room A [dRoom r c h] = some (.ret (.d .non)) := by
      have := is_room_ok (A := A) (r := r) (c := c) (h := h) (by omega) (by omega) (by omega)
      simp [g_check_room, m_check_room, runF, env0, mIfS, mNot, mTst, mCall, mCons, mVar, mNil, R.data, dRoom, this, retR, mNext, outF]
    have w0 : mCallO 1 (g_check_room A) (mCons (mVar 0) mNil) ρ = some (.ret (.d .non)) := by
      unfold mCallO
      rw [one (r := .sh (dRoom r c h)) rfl]
      exact e1
    unfold mDropC; rw [w0]
  refine mSeq_n e0 ?_
  have c1 : mTst (mCall 2 (g_is_floor A) (mCons (mVar 0) (mCons (mVar 1) mNil))) ρ = some b := by
    have := mTst_b (mCall_d (ρ := ρ) (ms := mCons (mVar 0) (mCons (mVar 1) mNil)) (rs := [.sh (dRoom r c h), .sh (dTri T)]) (two rfl rfl) rfl (is_floor_ok (A := A) M hk hl))
    rwa [hb] at this
  cases b with
  | true =>
    rw [if_pos rfl]
    exact mSeq_n (ρ1 := ρ) (by rw [mIfS_f (mNot_t c1)]; rfl) rfl
  | false =>
    rw [if_neg Bool.false_ne_true]
    have : mNot (mTst (mCall 2 (g_is_floor A) (mCons (mVar 0) (mCons (mVar 1) mNil)))) ρ = some true := by simp only [mNot, c1]; rfl
    show mSeq _ _ ρ = _
    unfold mSeq
    rw [mIfS_t this]
theorem heap_no {r c h : Nat} {T : List K3} (M : Rm r c h) (hk : ∀ k ∈ T, kind3 k) (hl : T.length ≤ 10000) (hb : srt3 (cov2 T) ≠ grd r c h) : g_heap_of A [dRoom r c h, dTri T] = some (.exc A.c_NoFloor) := by
  have := heap_pre (A := A) M hk hl false (decide_eq_false hb)
  unfold g_heap_of runF
  have e : m_heap_of A (env0 N_heap_of.length [dRoom r c h, dTri T]) = some (.ex A.c_NoFloor) := (this _).trans (if_neg Bool.false_ne_true)
  rw [e]; rfl
theorem heap_ok {r c h : Nat} {T : List K3} {t : List (List Int)} (M : Rm r c h) (H : HS r c (at2 t) t) (P : Pw r c h (at2 t)) (hk : ∀ k ∈ T, kind3 k) (p : T.Perm (floorK r c h t)) : g_heap_of A [dRoom r c h, dTri T] = some (.ret (sTab t)) := by
  have hr := M.r; have hc := M.c; have hh := M.h
  have hl : T.length ≤ 640 := by rw [p.length_eq, floorK_len]; exact rm_len M
  have hcov : srt3 (cov2 T) = grd r c h := cover_eq (by omega) H P p (emp_hs r c) (emp_at r c)
  refine run1 ?_
  let d : Sl := .dead
  refine (heap_pre (A := A) M hk (by omega) true (decide_eq_true hcov) _).trans ((if_pos rfl).trans ?_)
  let ρ : DL.Env := [.sh (dRoom r c h), .sh (dTri T), d, d, d, d, d, d, d, d]
  show mSeq (mSetT (mgTup [2, 3]) _) _ ρ = _
  obtain ⟨rr, rc, _⟩ := room_ix (ρ := ρ) (k := 0) (r := r) (c := c) (h := h) rfl
  have e1 : mSetT (mgTup [2, 3]) (mTup (mCons (mOp fIx (mVar 0) (mC (.int 0))) (mCons (mOp fIx (mVar 0) (mC (.int 1))) mNil))) ρ = some (.nx [.sh (dRoom r c h), .sh (dTri T), .sh (.int r), .sh (.int c), d, d, d, d, d, d]) := by
    unfold mSetT
    rw [mTup2 rr rc rfl rfl]; rfl
  refine mSeq_n e1 ?_
  refine mSeq_n (ρ1 := EH r c h T [] d d d) rfl ?_
  show mSeq (mFor _ (mgName 5) (outHB A) [5, 6, 7]) _ (EH r c h T [] d d d) = _
  let N := r + c - 1
  have hi : mRg2 (mCons (mOp fSub (mC (.int 1)) (mVar 3)) (mCons (mVar 2) mNil)) (EH r c h T [] d d d) = some (true, rg (1 - (c : Int)) N) := by
    have := mRg2_gen (ma := mOp fSub (mC (.int 1)) (mVar 3)) (mb := mVar 2) (ρ := EH r c h T [] d d d) (x := .sh (.int (1 - (c : Int)))) (y := .sh (.int r)) (i := 1 - (c : Int)) (j := r) (mOp_eq (x := .sh (.int 1)) (y := .sh (.int c)) rfl rfl (fSub_ok rfl rfl)) rfl rfl rfl (by omega) (by omega)
    rw [this]
    have : ((r : Int) - (1 - (c : Int))).toNat = N := by omega
    rw [this]
  let f := at2 t
  obtain ⟨ρ', h1, kvs, h2, h3, h4⟩ := forGo_inv (s := true) (g := mgName 5) (body := outHB A) (ks := [5, 6, 7]) (items := rg (1 - (c : Int)) N) (ρ0 := EH r c h T [] d d d)
      (fun n ρ' => ∃ kvs : List (List Key × V), ρ' = EH r c h T kvs d d d ∧ kvs.length ≤ 6 * n ∧ ∀ i j : Nat, i < r → j < c → (i : Int) - j < 1 - (c : Int) + n → valV kvs (kq ((i : Int), (j : Int))) = some (.int (f i j)))
      ⟨[], rfl, by simp, fun i j _ hj hn => by omega⟩ fun n z ρ' hd hI => by
    obtain ⟨kvs, rfl, hlen, hv⟩ := hI
    obtain ⟨hn, rfl⟩ := rg_at2 hd
    let dd : Int := 1 - (c : Int) + n
    have hA := rowsA_len r c dd
    let E := EH r c h T kvs (.sh (.int dd)) d d
    have a1 : mCall 2 (g_places_apart A) (mCons (mVar 0) (mCons (mVar 5) mNil)) E = some (.tr (.own ((rowsA r c dd).map fun (i : Nat) => .d (dq ((i : Int), (i : Int) - dd))))) :=
      mCall_t (rs := [.sh (dRoom r c h), .sh (.int dd)]) (two rfl rfl) rfl (places_apart_ok M dd)
    have a2 : mCall 2 (g_tops_apart A) (mCons (mVar 1) (mCons (mVar 5) mNil)) E = some (.tr (sRow (topsAt dd T))) :=
      mCall_t (rs := [.sh (dTri T), .sh (.int dd)]) (two rfl rfl) rfl (tops_apart_ok (kinds_ok hk) (by omega) dd)
    have tops := tops_at P (p.trans (floor_unsrt H)) dd
    have hz : mZip (mCons (mCall 2 (g_places_apart A) (mCons (mVar 0) (mCons (mVar 5) mNil))) (mCons (mCall 2 (g_tops_apart A) (mCons (mVar 1) (mCons (mVar 5) mNil))) mNil)) E = some (true, pairs ((rowsA r c dd).map fun (i : Nat) => dq ((i : Int), (i : Int) - dd)) ((rowsA r c dd).map fun (i : Nat) => .int ((i : Int) - f i ((i : Int) - dd).toNat))) := by
      unfold mZip
      rw [two a1 a2]
      have d1 : (S.own ((rowsA r c dd).map fun (i : Nat) => S.d (dq ((i : Int), (i : Int) - dd)))).data = .lst ((rowsA r c dd).map fun (i : Nat) => dq ((i : Int), (i : Int) - dd)) := by
        simp [S.data, S.dataL_map, Function.comp_def]
      simp only [List.map_cons, List.map_nil, R.data, d1, sRow_data, dRow, tops, List.map_map]
      rfl
    refine ⟨E, EH r c h T (fillD f dd (rowsA r c dd) kvs) (.sh (.int dd)) d d, rfl, .inl ?_, fillD f dd (rowsA r c dd) kvs, rfl, ?_, fun i j hi hj hd2 => ?_⟩
    · show mFor _ _ _ _ E = _
      rw [mFor_eq hz]
      exact fill_loop (rowsA r c dd) kvs (by omega)
    · have := fillD_len f dd (rowsA r c dd) kvs
      omega
    · by_cases hdd : (i : Int) - j = dd
      · have hj2 : (j : Int) = (i : Int) - dd := by omega
        have hj3 : j = ((i : Int) - dd).toNat := by omega
        rw [hj2, hj3]
        refine fillD_new f dd _ _ (.inl (mem_rowsA.mpr ⟨hi, by omega, by omega⟩))
      · rw [fillD_old f dd (by simpa using hdd)]
        exact hv i j hi hj (by omega)
  have hrl : (rg (1 - (c : Int)) N).length = N := by simp [rg]
  rw [hrl] at h3 h4
  refine mSeq_n ((mFor_eq hi).trans h1) ?_
  rw [h2]
  let E := EH r c h T kvs d d d
  show mRet _ E = _
  have e9 : mLc (mRg1 (mCons (mVar 2) mNil)) (mgName 8) mYes (mLc (mRg1 (mCons (mVar 3) mNil)) (mgName 9) mYes (mDGet 4 (mTup (mCons (mVar 8) (mCons (mVar 9) mNil)))) [9]) [8] E = some (.tr (sTab t)) := by
    rw [mLc_eval (s := true) (items := rg 0 r) (fun _ => true) (fun x => match x with | .int i => .tr (sRow ((List.range c).map fun j => f i.toNat j)) | _ => .sh .non) (fun x => match x with | .int i => sRow ((List.range c).map fun j => f i.toNat j) | _ => .d .non)]
    · rw [ft, rg0, List.map_map]
      have : sTab t = .own ((List.range r).map fun i => sRow ((List.range c).map fun j => f i j)) := by
        conv => lhs; rw [← tab_eq H]
        unfold sTab
        rw [List.map_map]; rfl
      rw [this]
      simp [Function.comp_def]
    · exact mRg1_eval (one (r := .sh (.int r)) rfl) rfl (by omega)
    · rw [rg0]; simp; omega
    · rfl
    · intro z mz
      rw [rg0] at mz
      obtain ⟨i, mi, rfl⟩ := List.mem_map.mp mz
      rw [List.mem_range] at mi
      let Ei : DL.Env := [.sh (dRoom r c h), .sh (dTri T), .sh (.int r), .sh (.int c), .dc (.t kvs), d, d, d, .sh (.int i), d]
      refine ⟨Ei, rfl, rfl, fun _ => ⟨?_, rfl⟩⟩
      simp only [Int.toNat_natCast]
      rw [mLc_eval (s := true) (items := rg 0 c) (fun _ => true) (fun x => match x with | .int j => .sh (.int (f i j.toNat)) | _ => .sh .non) (fun x => match x with | .int j => .d (.int (f i j.toNat)) | _ => .d .non)]
      · rw [ft, rg0, List.map_map]
        simp [sRow, Function.comp_def]
      · exact mRg1_eval (one (r := .sh (.int c)) rfl) rfl (by omega)
      · rw [rg0]; simp; omega
      · rfl
      · intro z mz
        rw [rg0] at mz
        obtain ⟨j, mj, rfl⟩ := List.mem_map.mp mz
        rw [List.mem_range] at mj
        let Ej : DL.Env := [.sh (dRoom r c h), .sh (dTri T), .sh (.int r), .sh (.int c), .dc (.t kvs), d, d, d, .sh (.int i), .sh (.int j)]
        refine ⟨Ej, rfl, rfl, fun _ => ⟨?_, rfl⟩⟩
        simp only [Int.toNat_natCast]
        have tp : mTup (mCons (mVar 8) (mCons (mVar 9) mNil)) Ej = some (.sh (dq ((i : Int), (j : Int)))) := mTup2 (x := .sh (.int i)) (y := .sh (.int j)) rfl rfl rfl rfl
        have hval := h4 i j mi mj (by omega)
        have gm : getM (.t kvs) (dq ((i : Int), (j : Int))) = some (some (.int (f i j))) := by
          show (keysD [.int (i : Int), .int (j : Int)]).map (fun k => valV kvs k) = _
          show some (valV kvs (kq ((i : Int), (j : Int)))) = _
          rw [hval]
        have a4 : Ej[4]? = some (.dc (.t kvs)) := rfl
        unfold mDGet
        rw [a4, tp]
        simp only [R.data, gm]
        rfl
  exact mRet_t e9
end My

set_option Elab.async false
set_option linter.all false
set_option maxRecDepth 100000
set_option maxHeartbeats 4000000
namespace My
open PySem PySem.Spec PyProof.Rows L2 DL
variable {A : Ad}
/-! how many signs of one kind -/
open StrLaws (occBody occ_eq subAt_one) in
theorem occ_size (x : Str) (c limit : Nat) : ∀ (n k : Nat) (st : Array Nat × Nat), st.2 ≤ k → st.1.size + n ≤ limit →
    (forIn (List.range' k n) st (occBody x ⟨#[c]⟩ x.length limit)).run.fst.size = st.1.size + ((List.range' k n).filter fun i => decide (x.cps.toList[i]? = some c)).length
  | 0, k, st, _, _ => by simp
  | n + 1, k, st, h1, h2 => by
    rw [List.range'_succ, List.forIn_cons]
    have hk := subAt_one x c k
    by_cases hc : x.cps.toList[k]? = some c
    · obtain ⟨q1, q2⟩ := hk.mpr hc
      have e : occBody x ⟨#[c]⟩ x.length limit k st = pure (ForInStep.yield (st.1.push k, k + 1)) := by
        unfold occBody
        rw [if_pos ⟨⟨⟨by omega, h1⟩, q1⟩, q2⟩]; rfl
      rw [e]
      have ih := occ_size x c limit n (k + 1) (st.1.push k, k + 1) (Nat.le_refl _) (by simp; omega)
      rw [List.filter_cons_of_pos (p := fun i => decide (x.cps.toList[i]? = some c)) (decide_eq_true hc), List.length_cons]
      refine Eq.trans ih ?_
      simp; omega
    · have e : occBody x ⟨#[c]⟩ x.length limit k st = pure (ForInStep.yield (st.1, st.2)) := by
        unfold occBody
        rw [if_neg fun z => hc (hk.mp ⟨z.1.2, z.2⟩)]
      rw [e]
      have ih := occ_size x c limit n (k + 1) (st.1, st.2) (by show st.2 ≤ k + 1; omega) (by show st.1.size + n ≤ limit; omega)
      rw [List.filter_cons_of_neg (p := fun i => decide (x.cps.toList[i]? = some c)) (by simpa using hc)]
      exact ih
theorem filt_count (c : Nat) : ∀ l : List Nat, ((List.range l.length).filter fun i => decide (l[i]? = some c)).length = l.count c
  | [] => rfl
  | a :: l => by
    have ih := filt_count c l
    rw [List.length_cons, List.range_succ_eq_map, List.filter_cons, List.filter_map, List.count_cons]
    have e : ((List.range l.length).filter ((fun i => decide ((a :: l)[i]? = some c)) ∘ Nat.succ)).length = l.count c := by
      rw [← ih]; rfl
    by_cases h : a = c
    · subst h
      simp only [List.getElem?_cons_zero, decide_true, if_true, List.length_cons, List.length_map, e, beq_self_eq_true]
    · have h2 : ¬ (some a = some c) := fun z => h (Option.some.inj z)
      have h3 : (a == c) = false := by simpa using h
      simp only [List.getElem?_cons_zero, decide_eq_false h2, h3, Bool.false_eq_true, if_false, List.length_map, e, Nat.add_zero]
open StrLaws (occBody occ_eq subAt_one) in
theorem count_tx (l : List Nat) (c : Nat) : Txt.count (tx l) (tx [c]) = (l.count c : Nat) := by
  have h := occ_size (tx l) c ((tx l).length + 1) ((tx l).length + 1 - 0) 0 (#[], 0) (Nat.le_refl _) (by show 0 + ((tx l).length + 1 - 0) ≤ _; omega)
  unfold Txt.count
  have e : (Builtin.Str.occurrences (tx l) (tx [c]) 0 (tx l).length ((tx l).length + 1)).length = l.count c := by
    show (Builtin.Str.occurrences (tx l) ⟨#[c]⟩ 0 (tx l).length ((tx l).length + 1)).length = l.count c
    have e2 : ∀ i ∈ List.range l.length, decide ((tx l).cps.toList[i]? = some c) = decide (l[i]? = some c) := fun i _ => by
      rw [decide_eq_decide]; simp [tx]
    rw [occ_eq, Array.length_toList, h, tx_len, ← filt_count c l]
    show 0 + _ = _
    rw [Nat.zero_add, Nat.sub_zero, ← List.range_eq_range', List.range_succ, List.filter_append, List.length_append]
    have : ([l.length].filter fun i => decide ((tx l).cps.toList[i]? = some c)) = [] := by
      rw [List.filter_cons_of_neg, List.filter_nil]
      simp [tx]
    rw [this, List.filter_congr e2]
    rfl
  rw [e]
/-! the row whose lane this is -/
def rowL : Int → List Nat → List Int
  | _, [] => []
  | a, x :: l => if x = 114 then a :: rowL a l else rowL (a - 1) l
theorem rowL_d : ∀ (k : Nat) (a : Int) (l : List Nat), rowL a (List.replicate k 100 ++ l) = rowL (a - k) l
  | 0, a, l => by simp
  | k + 1, a, l => by
    rw [List.replicate_succ, List.cons_append]
    show (if (100 : Nat) = 114 then _ else rowL (a - 1) (List.replicate k 100 ++ l)) = _
    rw [if_neg (by decide), rowL_d k]
    congr 1
    omega
theorem rowL_lane : ∀ {a : Int} {ns : List Int}, Rw a ns → rowL a (laneC a ns) = ns
  | a, [], h => by
    show rowL a ([] ++ List.replicate _ 100) = _
    have := rowL_d (lastN a []).toNat a []
    rw [List.append_nil] at this
    rw [List.nil_append, this]; rfl
  | a, n :: ns, h => by
    have ih := rowL_lane h.2
    have hn := h.1
    have e : laneC a (n :: ns) = List.replicate (a - n).toNat 100 ++ (114 :: laneC n ns) := by
      show (List.replicate (a - n).toNat 100 ++ 114 :: laneB n ns) ++ List.replicate (lastN n ns).toNat 100 = _
      rw [List.append_assoc]; rfl
    rw [e, rowL_d, show a - ((a - n).toNat : Int) = n by omega]
    show (if (114 : Nat) = 114 then n :: rowL n (laneC n ns) else _) = _
    rw [if_pos rfl, ih]
theorem lane_inj {a : Int} {x y : List Int} (hx : Rw a x) (hy : Rw a y) (e : laneC a x = laneC a y) : x = y := by
  rw [← rowL_lane hx, e, rowL_lane hy]
theorem lane_r : ∀ {a : Int} {ns : List Int}, Rw a ns → (laneC a ns).count 114 = ns.length
  | a, [], h => by
    show (laneC a []).count 114 = 0
    unfold laneC laneB
    rw [List.nil_append, List.count_eq_zero]
    intro m
    have := List.eq_of_mem_replicate m
    omega
  | a, n :: ns, h => by
    have ih := lane_r h.2
    have e : laneC a (n :: ns) = List.replicate (a - n).toNat 100 ++ (114 :: laneC n ns) := by
      show (List.replicate (a - n).toNat 100 ++ 114 :: laneB n ns) ++ List.replicate (lastN n ns).toNat 100 = _
      rw [List.append_assoc]; rfl
    rw [e, List.count_append, List.count_cons_self, ih, List.length_cons]
    have : (List.replicate (a - n).toNat 100).count 114 = 0 := by
      rw [List.count_eq_zero]
      intro m
      have := List.eq_of_mem_replicate m
      omega
    omega
theorem lane_d {a : Int} {ns : List Int} (h : Rw a ns) : (laneC a ns).count 100 = a.toNat := by
  have h1 := lane_r h
  have h2 := laneC_len h
  have h3 : ∀ l : List Nat, (∀ c ∈ l, c = 114 ∨ c = 100) → l.length = l.count 114 + l.count 100 := by
    intro l
    induction l with
    | nil => intro _; rfl
    | cons c l ih =>
      intro hl
      have := ih fun x m => hl x (List.mem_cons_of_mem _ m)
      rw [List.length_cons, List.count_cons, List.count_cons]
      rcases hl c List.mem_cons_self with rfl | rfl
      · simp; omega
      · simp; omega
  have := h3 _ (laneC_rd a ns)
  omega
/-- the parts of table_of -/
def ERo (s0 s1 : Sl) (row : List Int) (a : Int) (s4 : Sl) : DL.Env := [s0, s1, .tr (sRow row), .sh (.int a), s4]
def roBody : MS := (mIfS (mTst (mOp fEq (mVar 4) (mC (.str (PySem.Str.ofString "r"))))) (mAppend (mpV 2) (mVar 3)) (mAug 3 (fun a b => a - b) (mC (.int 1))))
theorem ro_go {s0 : Sl} (hs0 : killVw [s0] = [s0]) : ∀ (l : List Nat) (row : List Int) (a : Int), small l → row.length + l.length ≤ 10000 →
    ∃ a', forGo true (mgName 4) roBody [4] (l.map fun c => .str (tx [c])) (ERo s0 .dead row a .dead) = some (.nx (ERo s0 .dead (row ++ rowL a l) a' .dead))
  | [], row, a, _, _ => ⟨a, by show some _ = _; simp [rowL]⟩
  | x :: l, row, a, hs, hl => by
    rw [List.length_cons] at hl
    have hx := hs x List.mem_cons_self
    have hs' : small l := fun c m => hs c (List.mem_cons_of_mem _ m)
    let E := ERo s0 .dead row a (.sh (.str (tx [x])))
    have c1 : mTst (mOp fEq (mVar 4) (mC (.str (PySem.Str.ofString "r")))) E = some (decide ([x] = [114])) :=
      mTst_b (mOp_eq (x := .sh (.str (tx [x]))) (y := .sh (.str (PySem.Str.ofString "r"))) rfl rfl (fEq_s rfl (by rw [R.data, tx_r]) (fun c m => by simp at m; subst m; exact hx) (fun c m => by simp at m; omega)))
    have step : ∀ ρ2, roBody E = some (.nx ρ2) → forGo true (mgName 4) roBody [4] ((x :: l).map fun c => .str (tx [c])) (ERo s0 .dead row a .dead) = forGo true (mgName 4) roBody [4] (l.map fun c => .str (tx [c])) (killE [4] ρ2) := fun ρ2 e => by
      show (match mgName 4 true (.str (tx [x])) (ERo s0 .dead row a .dead) with
        | some ρ1 => match roBody ρ1 with
          | some (.nx ρ2) => forGo true (mgName 4) roBody [4] (l.map fun c => .str (tx [c])) (killE [4] ρ2)
          | some (.ct ρ2) => forGo true (mgName 4) roBody [4] (l.map fun c => .str (tx [c])) (killE [4] ρ2)
          | some (.bk ρ2) => some (.nx ρ2)
          | o => o
        | none => none) = _
      have g : mgName 4 true (.str (tx [x])) (ERo s0 .dead row a .dead) = some E := rfl
      rw [g]
      simp only [e]
    by_cases hr : x = 114
    · subst hr
      obtain ⟨a', ih⟩ := ro_go hs0 l (row ++ [a]) a hs' (by rw [List.length_append]; simp; omega)
      refine ⟨a', ?_⟩
      have e1 : roBody E = some (.nx (ERo s0 .dead (row ++ [a]) a (.sh (.str (tx [114]))))) := by
        show mIfS _ _ _ E = _
        rw [mIfS_t (by rw [c1]; simp)]
        show (if (row.map fun n => S.d (.int n)).length < 100000 then some (Out.nx ((killVw E).set 2 (.tr (.own ((row.map fun n => S.d (.int n)) ++ [.d (.int a)]))))) else none) = _
        rw [if_pos (by rw [List.length_map]; omega)]
        have k : killVw E = E := by
          have := List.cons.inj hs0
          show (_ :: _) = _
          simp only [E, ERo]
          congr 1
          exact this.1
        rw [k]
        have : (row.map fun n => S.d (.int n)) ++ [.d (.int a)] = (row ++ [a]).map fun n => S.d (.int n) := by simp
        rw [this]; rfl
      rw [step _ e1]
      refine Eq.trans (b := _) ?_ (ih.trans ?_)
      · rfl
      · rw [List.append_assoc]
        show some (Out.nx (ERo s0 .dead (row ++ ([a] ++ rowL a l)) a' .dead)) = some (Out.nx (ERo s0 .dead (row ++ (if (114 : Nat) = 114 then a :: rowL a l else _)) a' .dead))
        rw [if_pos rfl]; rfl
    · obtain ⟨a', ih⟩ := ro_go hs0 l row (a - 1) hs' (by omega)
      refine ⟨a', ?_⟩
      have e1 : roBody E = some (.nx (ERo s0 .dead row (a - 1) (.sh (.str (tx [x]))))) := by
        show mIfS _ _ _ E = _
        rw [mIfS_f (by rw [c1]; simp [hr])]
        rfl
      rw [step _ e1]
      refine Eq.trans (b := _) ?_ (ih.trans ?_)
      · rfl
      · show some (Out.nx (ERo s0 .dead (row ++ rowL (a - 1) l) a' .dead)) = some (Out.nx (ERo s0 .dead (row ++ (if x = 114 then a :: rowL a l else rowL (a - 1) l)) a' .dead))
        rw [if_neg hr]
theorem row_of_ok {l : List Nat} (hs : small l) (hl : l.length ≤ 5000) (h : Int) : g_row_of A [.str (tx l), .int h] = some (.ret (sRow (rowL h l))) := by
  refine run1 ?_
  refine mSeq_n (ρ1 := [.sh (.str (tx l)), .sh (.int h), .tr (sRow []), .dead, .dead]) rfl ?_
  refine mSeq_n (ρ1 := [.sh (.str (tx l)), .sh (.int h), .tr (sRow []), .sh (.int h), .dead]) rfl ?_
  show mSeq (mFor (mIL (mVar 0)) (mgName 4) roBody [4]) (mRetV 2) (ERo (.sh (.str (tx l))) .dead [] h .dead) = _
  obtain ⟨a', e⟩ := ro_go (s0 := .sh (.str (tx l))) rfl l [] h hs (by simp; omega)
  have hi : mIL (mVar 0) (ERo (.sh (.str (tx l))) .dead [] h .dead) = some (true, l.map fun c => .str (tx [c])) := by
    show some (true, sgn (tx l)) = _
    rw [sgn_tx]
  refine mSeq_n ((mFor_eq hi).trans e) ?_
  rfl
/-- what a lane of so many steps is -/
def laneIs (l : List Nat) (a b : Int) : Bool := decide ((l.length : Int) = a + b) && (decide ((l.count 114 : Int) = a) && decide ((l.count 100 : Int) = b))
theorem is_lane_ok {l : List Nat} (hl : l.length ≤ 5000) (a b : Int) : g_is_lane A [.str (tx l), .int a, .int b] = some (.ret (.d (.bl (laneIs l a b)))) := by
  refine run1 ?_
  let ρ : DL.Env := [.sh (.str (tx l)), .sh (.int a), .sh (.int b)]
  show m_is_lane A ρ = _
  have c1 : mTst (mIsi "str" (mVar 0)) ρ = some true := by
    show mTst (fun ρ => (mVar 0 ρ).map fun r => .sh (.bl (isTy r.data.ty "str"))) ρ = some true
    rfl
  have ll : mCB gLen (mCons (mVar 0) mNil) ρ = some (.sh (.int l.length)) := mCB_1 (x := .sh (.str (tx l))) rfl (by
    show (if (tx l).length ≤ 100000 then some (R.sh (.int ((tx l).length : Nat))) else none) = _
    rw [tx_len, if_pos (by omega)])
  have c2 : mTst (mOp fNe (mCB gLen (mCons (mVar 0) mNil)) (mOp fAdd (mVar 1) (mVar 2))) ρ = some (!decide ((l.length : Int) = a + b)) :=
    mTst_b (mOp_eq ll (mOp_eq (x := .sh (.int a)) (y := .sh (.int b)) rfl rfl (fAdd_ok rfl rfl)) (fNe_int rfl rfl))
  unfold laneIs
  by_cases h : (l.length : Int) = a + b
  · rw [decide_eq_true h] at c2 ⊢
    refine mSeq_n (ρ1 := ρ) (by rw [mIfS_f (mOr_f (mNot_t c1) c2)]; rfl) ?_
    have n1 : mCount (mVar 0) (mC (.str (PySem.Str.ofString "r"))) ρ = some (.sh (.int (l.count 114 : Nat))) := by
      show some (R.sh (.int (Txt.count (tx l) (PySem.Str.ofString "r")))) = _
      rw [tx_r, count_tx]
    have n2 : mCount (mVar 0) (mC (.str (PySem.Str.ofString "d"))) ρ = some (.sh (.int (l.count 100 : Nat))) := by
      show some (R.sh (.int (Txt.count (tx l) (PySem.Str.ofString "d")))) = _
      rw [tx_d, count_tx]
    have k1 : mOp fEq (mCount (mVar 0) (mC (.str (PySem.Str.ofString "r")))) (mVar 1) ρ = some (.sh (.bl (decide ((l.count 114 : Int) = a)))) := mOp_eq n1 (y := .sh (.int a)) rfl (fEq_int rfl rfl)
    have k2 : mOp fEq (mCount (mVar 0) (mC (.str (PySem.Str.ofString "d")))) (mVar 2) ρ = some (.sh (.bl (decide ((l.count 100 : Int) = b)))) := mOp_eq n2 (y := .sh (.int b)) rfl (fEq_int rfl rfl)
    refine mRet_d (d := .bl _) ?_ rfl
    unfold mAndV
    rw [mTst_b k1]
    cases hd : decide ((l.count 114 : Int) = a)
    · rfl
    · simp only [Bool.true_and]; exact k2
  · rw [decide_eq_false h] at c2 ⊢
    have : mOr (mNot (mTst (mIsi "str" (mVar 0)))) (mTst (mOp fNe (mCB gLen (mCons (mVar 0) mNil)) (mOp fAdd (mVar 1) (mVar 2)))) ρ = some true := by
      simp only [mOr, mNot_t c1, c2]; rfl
    unfold m_is_lane mSeq
    rw [mIfS_t this]; rfl
end My

set_option Elab.async false
set_option linter.all false
set_option maxRecDepth 100000
set_option maxHeartbeats 4000000
namespace My
open PySem PySem.Spec PyProof.Rows L2 DL
variable {A : Ad}
/-! the table whose lanes these are -/
theorem gAll_bls (bs : List Bool) : gAll [.lst (S.dataL (bs.map fun b => S.d (.bl b)))] = some (.sh (.bl (bs.all id))) := by
  have e : S.dataL (bs.map fun b => S.d (.bl b)) = bs.map D.bl := by rw [S.dataL_map, List.map_map]; rfl
  unfold gAll
  simp only [e, bls?_map, Option.map_some]
def lanesIs (c h : Nat) (e : List Int) (L : List (List Nat)) (k : Nat) : Bool := laneIs (L.getD k []) ((c : Int) + k - e.getD k 0) ((h : Int) - k + e.getD k 0)
def areP (r c h : Nat) (e : List Int) (L : List (List Nat)) : Bool := decide (L.length = r) && ((List.range r).map (lanesIs c h e L)).all id
theorem are_lanes_ok {r c h : Nat} {e : List Int} {L : List (List Nat)} (hr : r ≤ 6) (he : e.length = r) (hL : L.length ≤ 1000) (hl : ∀ l ∈ L, l.length ≤ 5000) : g_are_lanes A [dRoom r c h, dRow e, dTx L] = some (.ret (.d (.bl (areP r c h e L)))) := by
  refine run1 ?_
  let d : Sl := .dead
  let E : Sl → DL.Env := fun s6 => [.sh (dRoom r c h), .sh (dRow e), .sh (dTx L), .sh (.int r), .sh (.int c), .sh (.int h), s6]
  refine mSeq_n (ρ1 := E d) rfl ?_
  have c1 : mTst (mIsi "list" (mVar 2)) (E d) = some true := isi_lst (z := .sh (dTx L)) rfl rfl
  have ll : mCB gLen (mCons (mVar 2) mNil) (E d) = some (.sh (.int L.length)) := mCB_1 (x := .sh (dTx L)) rfl (by simp [R.data, dTx, gLen])
  have c2 : mTst (mOp fNe (mCB gLen (mCons (mVar 2) mNil)) (mVar 3)) (E d) = some (!decide ((L.length : Int) = r)) := mTst_b (mOp_eq ll (y := .sh (.int r)) rfl (fNe_int rfl rfl))
  unfold areP
  by_cases hlen : L.length = r
  · rw [decide_eq_true (show (L.length : Int) = r by omega)] at c2
    rw [decide_eq_true hlen, Bool.true_and]
    refine mSeq_n (ρ1 := E d) (by rw [mIfS_f (mOr_f (mNot_t c1) c2)]; rfl) ?_
    refine mRet_d (d := .bl _) (mCB_1 (x := .tr (.own (((List.range r).map (lanesIs c h e L)).map fun b => .d (.bl b)))) ?_ (gAll_bls _)) rfl
    rw [mLc_eval (s := true) (items := rg 0 r) (fun _ => true) (fun z => match z with | .int k => .sh (.bl (lanesIs c h e L k.toNat)) | _ => .sh .non) (fun z => match z with | .int k => .d (.bl (lanesIs c h e L k.toNat)) | _ => .d .non)]
    · rw [ft, rg0, List.map_map, List.map_map]
      simp [Function.comp_def]
    · exact mRg1_eval (one (r := .sh (.int r)) rfl) rfl (by omega)
    · rw [rg0]; simp; omega
    · rfl
    · intro z mz
      rw [rg0] at mz
      obtain ⟨k, mk, rfl⟩ := List.mem_map.mp mz
      rw [List.mem_range] at mk
      refine ⟨E (.sh (.int k)), rfl, rfl, fun _ => ⟨?_, rfl⟩⟩
      simp only [Int.toNat_natCast]
      have hk1 : k < L.length := by omega
      have hk2 : k < e.length := by omega
      have hm : L.getD k [] ∈ L := by rw [List.getD_eq_getElem?_getD, List.getElem?_eq_getElem hk1]; exact List.getElem_mem hk1
      obtain ⟨z1, a1, a2, _⟩ := mIx (ma := mVar 2) (mb := mVar 6) (ρ := E (.sh (.int k))) (z := .sh (dTx L)) (y := .sh (.int k)) rfl rfl (ds := L.map fun a => .str (tx a)) rfl (i := k) rfl (d := .str (tx (L.getD k []))) (by simp [hk1])
      obtain ⟨z2, b1, b2, _⟩ := mIx (ma := mVar 1) (mb := mVar 6) (ρ := E (.sh (.int k))) (z := .sh (dRow e)) (y := .sh (.int k)) rfl rfl (ds := e.map .int) rfl (i := k) rfl (d := .int (e.getD k 0)) (by simp [hk2])
      have q1 : mOp fSub (mOp fAdd (mVar 4) (mVar 6)) (mOp fIx (mVar 1) (mVar 6)) (E (.sh (.int k))) = some (.sh (.int ((c : Int) + k - e.getD k 0))) := mOp_eq (mOp_eq (x := .sh (.int c)) (y := .sh (.int k)) rfl rfl (fAdd_ok rfl rfl)) b1 (fSub_ok rfl b2)
      have q2 : mOp fAdd (mOp fSub (mVar 5) (mVar 6)) (mOp fIx (mVar 1) (mVar 6)) (E (.sh (.int k))) = some (.sh (.int ((h : Int) - k + e.getD k 0))) := mOp_eq (mOp_eq (x := .sh (.int h)) (y := .sh (.int k)) rfl rfl (fSub_ok rfl rfl)) b1 (fAdd_ok rfl b2)
      refine mCall_d (rs := [z1, .sh (.int ((c : Int) + k - e.getD k 0)), .sh (.int ((h : Int) - k + e.getD k 0))]) (three a1 q1 q2) rfl ?_
      show g_is_lane A [z1.data, .int ((c : Int) + k - e.getD k 0), .int ((h : Int) - k + e.getD k 0)] = _
      rw [a2]
      exact is_lane_ok (hl _ hm) _ _
  · rw [decide_eq_false (show ¬ (L.length : Int) = r by omega)] at c2
    rw [decide_eq_false hlen, Bool.false_and]
    have : mOr (mNot (mTst (mIsi "list" (mVar 2)))) (mTst (mOp fNe (mCB gLen (mCons (mVar 2) mNil)) (mVar 3))) (E d) = some true := by simp only [mOr, mNot_t c1, c2]; rfl
    show mSeq _ _ (E d) = _
    unfold mSeq
    rw [mIfS_t this]; rfl
def unTx : D → List Nat
  | .str x => x.cps.toList
  | _ => []
theorem unTx_tx (l : List Nat) : unTx (.str (tx l)) = l := by simp [unTx, tx]
def rI (n : Nat) : List Int := (List.range n).map fun (k : Nat) => (k : Int)
theorem listRg_c {ρ : DL.Env} {m : ME} {r : Nat} (h : m ρ = some (.sh (.int r))) (hr : r ≤ 1000) : mListRg m ρ = some (.tr (sRow (rI r))) := by
  unfold mListRg
  rw [h]
  simp only [R.data]
  rw [if_pos ⟨by omega, by omega⟩, Int.toNat_natCast]
  have e : rg 0 r = (rI r).map .int := by
    rw [rg0]; unfold rI; rw [List.map_map]; rfl
  rw [e]
  unfold newL
  rw [if_pos (imm_ints _), List.map_map]; rfl
def tabL (h : Nat) (L : List (List Nat)) : List (List Int) := L.map (rowL h)
theorem table_of_pre {r c h : Nat} {L : List (List Nat)} (M : Rm r c h) (hL : L.length ≤ 1000) (hl : ∀ l ∈ L, l.length ≤ 5000) (hs : ∀ l ∈ L, small l) (a b : Bool) (ha : areP r c h (rI r) L = a) (hb : a = true → g_is_table A [dRoom r c h, dTab (tabL h L)] = some (.ret (.d (.bl b)))) :
    g_table_of A [dRoom r c h, dTx L] = if (a && b) = true then some (.ret (sTab (tabL h L))) else some (.exc A.c_NoLanes) := by
  have hr := M.r; have hc := M.c; have hh := M.h
  let d : Sl := .dead
  let ρ : DL.Env := [.sh (dRoom r c h), .sh (dTx L), d, d]
  unfold g_table_of runF
  have e0 : mDropC (mCallO 1 (g_check_room A) (mCons (mVar 0) mNil)) ρ = some (.nx ρ) := by
    have e1 : g_check_room A [dRoom r c h] = some (.ret (.d .non)) := by
      have := is_room_ok (A := A) (r := r) (c := c) (h := h) (by omega) (by omega) (by omega)
      simp [g_check_room, m_check_room, runF, env0, mIfS, mNot, mTst, mCall, mCons, mVar, mNil, R.data, dRoom, this, retR, mNext, outF]
    have w0 : mCallO 1 (g_check_room A) (mCons (mVar 0) mNil) ρ = some (.ret (.d .non)) := by
      unfold mCallO
      rw [one (r := .sh (dRoom r c h)) rfl]
      exact e1
    unfold mDropC; rw [w0]
  obtain ⟨rr, _, rh⟩ := room_ix (ρ := ρ) (k := 0) (r := r) (c := c) (h := h) rfl
  have c1 : mTst (mCall 3 (g_are_lanes A) (mCons (mVar 0) (mCons (mListRg (mOp fIx (mVar 0) (mC (.int 0)))) (mCons (mVar 1) mNil)))) ρ = some a := by
    rw [← ha]
    refine mTst_b (mCall_d (rs := [.sh (dRoom r c h), .tr (sRow (rI r)), .sh (dTx L)]) (three rfl (listRg_c rr (by omega)) rfl) rfl ?_)
    simp only [List.map_cons, List.map_nil, R.data, sRow_data]
    exact are_lanes_ok (by omega) (by simp [rI]) hL hl
  have main : m_table_of A ρ = if (a && b) = true then some (.rt (sTab (tabL h L))) else some (.ex A.c_NoLanes) := by
    refine mSeq_n e0 ?_
    cases a with
    | false =>
      have : mNot (mTst (mCall 3 (g_are_lanes A) (mCons (mVar 0) (mCons (mListRg (mOp fIx (mVar 0) (mC (.int 0)))) (mCons (mVar 1) mNil))))) ρ = some true := by simp only [mNot, c1]; rfl
      show mSeq _ _ ρ = _
      unfold mSeq
      rw [mIfS_t this]; rfl
    | true =>
      refine mSeq_n (ρ1 := ρ) (by rw [mIfS_f (mNot_t c1)]; rfl) ?_
      have e2 : mLc (mIL (mVar 1)) (mgName 3) mYes (mCall 2 (g_row_of A) (mCons (mVar 3) (mCons (mOp fIx (mVar 0) (mC (.int 2))) mNil))) [3] ρ = some (.tr (sTab (tabL h L))) := by
        rw [mLc_eval (s := true) (items := L.map fun a => .str (tx a)) (fun _ => true) (fun z => .tr (sRow (rowL h (unTx z)))) (fun z => sRow (rowL h (unTx z)))]
        · rw [ft, List.map_map]
          simp [sTab, tabL, Function.comp_def, unTx_tx]
        · simp [mIL, mVar, ρ, R.data, R.fixed, dTx]
        · rw [List.length_map]; omega
        · rfl
        · intro z mz
          obtain ⟨l, ml, rfl⟩ := List.mem_map.mp mz
          let ρl : DL.Env := [.sh (dRoom r c h), .sh (dTx L), d, .sh (.str (tx l))]
          refine ⟨ρl, rfl, rfl, fun _ => ⟨?_, rfl⟩⟩
          obtain ⟨_, _, rh⟩ := room_ix (ρ := ρl) (k := 0) (r := r) (c := c) (h := h) rfl
          rw [unTx_tx]
          exact mCall_t (rs := [.sh (.str (tx l)), .sh (.int h)]) (two rfl rh) rfl (row_of_ok (hs l ml) (hl l ml) h)
      refine mSeq_n (mSet_z e2 rfl) ?_
      let ρ2 : DL.Env := [.sh (dRoom r c h), .sh (dTx L), .tr (sTab (tabL h L)), d]
      have c3 : mTst (mCall 2 (g_is_table A) (mCons (mVar 0) (mCons (mVar 2) mNil))) ρ2 = some b :=
        mTst_b (mCall_d (rs := [.sh (dRoom r c h), .vw (sTab (tabL h L)).data]) (two rfl rfl) rfl (by simp only [List.map_cons, List.map_nil, R.data, sTab_data]; exact hb rfl))
      cases b with
      | false =>
        have : mNot (mTst (mCall 2 (g_is_table A) (mCons (mVar 0) (mCons (mVar 2) mNil)))) ρ2 = some true := by simp only [mNot, c3]; rfl
        show mSeq _ _ ρ2 = _
        unfold mSeq
        rw [mIfS_t this]; rfl
      | true =>
        show mSeq _ _ ρ2 = _
        exact mSeq_n (ρ1 := ρ2) (by rw [mIfS_f (mNot_t c3)]; rfl) rfl
  have main2 : m_table_of A (env0 N_table_of.length [dRoom r c h, dTx L]) = if (a && b) = true then some (.rt (sTab (tabL h L))) else some (.ex A.c_NoLanes) := main
  rw [main2]
  cases hab : (a && b) <;> rfl
theorem lanesT_are {r c h : Nat} {t : List (List Int)} (F : Fl c h t) (hl : t.length = r) : areP r c h (rI r) (lanesT t h) = true := by
  unfold areP
  have h1 : (lanesT t h).length = r := by simp [lanesT, hl]
  rw [decide_eq_true h1, Bool.true_and, List.all_eq_true]
  intro b m
  obtain ⟨k, mk, rfl⟩ := List.mem_map.mp m
  rw [List.mem_range] at mk
  have hk : k < t.length := by omega
  have q := F.rw_at (i := k) (List.getElem?_eq_getElem hk)
  have hlen : t[k].length = c := F.row _ (List.getElem_mem hk)
  have e1 : (lanesT t h).getD k [] = laneC h t[k] := by simp [lanesT, hk]
  have e2 : (rI r).getD k 0 = k := by simp [rI, mk]
  have l1 := laneC_len q
  have l2 := lane_r q
  have l3 := lane_d q
  show lanesIs c h (rI r) (lanesT t h) k = true
  unfold lanesIs laneIs
  rw [e1, e2]
  simp only [Bool.and_eq_true, decide_eq_true_eq]
  rw [l1, l2, l3, hlen]
  simp only [Int.toNat_natCast]
  omega
theorem tabL_lanes {c h : Nat} {t : List (List Int)} (F : Fl c h t) : tabL h (lanesT t h) = t := by
  unfold tabL lanesT
  rw [List.map_map]
  apply List.ext_getElem?
  intro i
  rw [List.getElem?_map]
  by_cases hi : i < t.length
  · have e := List.getElem?_eq_getElem hi
    rw [e]
    show some (rowL h (laneC h t[i])) = _
    rw [rowL_lane (F.rw_at e)]
  · rw [List.getElem?_eq_none (by omega)]; rfl
theorem table_back {r c h : Nat} {t : List (List Int)} (M : Rm r c h) (F : Fl c h t) (hl : t.length = r) : g_table_of A [dRoom r c h, dTx (lanesT t h)] = some (.ret (sTab t)) := by
  have hr := M.r; have hc := M.c; have hh := M.h
  have T := F.tab hl
  have := table_of_pre (A := A) M (L := lanesT t h) (by simp [lanesT]; omega) (fun l m => by
    obtain ⟨x, hx, rfl⟩ := List.mem_map.mp m
    obtain ⟨i, hi⟩ := List.getElem?_of_mem hx
    have q := F.rw_at hi
    have := laneC_len q
    have := F.row x hx
    omega) (lanesT_small t h) true true (lanesT_are F hl) (fun _ => by rw [tabL_lanes F]; exact is_table_ok M T)
  rw [this, tabL_lanes F]; rfl
end My

set_option Elab.async false
set_option linter.all false
set_option maxRecDepth 100000
set_option maxHeartbeats 4000000
namespace My
open PySem PySem.Spec PyProof.Rows L2 DL
/-! the order of tables -/
open PySem.W (DatumOrd listLt)
section
variable {α : Type} [DecidableEq α] [DatumOrd α]
theorem lt_first : ∀ {xs ys : List α}, listLt xs ys = true → xs.length = ys.length → ∃ (k : Nat) (a b : α), (∀ m, m < k → xs[m]? = ys[m]?) ∧ xs[k]? = some a ∧ ys[k]? = some b ∧ a ≠ b ∧ DatumOrd.lt a b = true
  | [], [], h, _ => by cases h
  | [], _ :: _, _, hl => by simp at hl
  | _ :: _, [], _, hl => by simp at hl
  | x :: xs, y :: ys, h, hl => by
    unfold listLt at h
    by_cases e : x = y
    · rw [if_pos e] at h
      obtain ⟨k, a, b, h1, h2, h3, h4⟩ := lt_first h (by simpa using hl)
      refine ⟨k + 1, a, b, fun m hm => ?_, by simpa using h2, by simpa using h3, h4⟩
      cases m with
      | zero => simp [e]
      | succ m => simpa using h1 m (by omega)
    · rw [if_neg e] at h
      exact ⟨0, x, y, fun m hm => by omega, rfl, rfl, e, h⟩
theorem lt_of : ∀ {k : Nat} {xs ys : List α} {a b : α}, (∀ m, m < k → xs[m]? = ys[m]?) → xs[k]? = some a → ys[k]? = some b → a ≠ b → DatumOrd.lt a b = true → listLt xs ys = true
  | 0, x :: xs, y :: ys, a, b, _, h2, h3, h4, h5 => by
    simp at h2 h3; subst h2 h3
    unfold listLt
    rw [if_neg h4]; exact h5
  | k + 1, x :: xs, y :: ys, a, b, h1, h2, h3, h4, h5 => by
    have e : x = y := by simpa using h1 0 (by omega)
    unfold listLt
    rw [if_pos e]
    exact lt_of (k := k) (fun m hm => by simpa using h1 (m + 1) (by omega)) (by simpa using h2) (by simpa using h3) h4 h5
  | 0, [], _, _, _, _, h2, _, _, _ => by simp at h2
  | k + 1, [], _, _, _, _, h2, _, _, _ => by simp at h2
  | 0, _ :: _, [], _, _, _, _, h3, _, _ => by simp at h3
  | k + 1, _ :: _, [], _, _, _, _, h3, _, _ => by simp at h3
end
/-- places ahead of this one -/
def Ahead (i j i' j' : Nat) : Prop := i' < i ∨ (i' = i ∧ j' < j)
theorem at_of {t : List (List Int)} {i j : Nat} {x : List Int} {a : Int} (h1 : t[i]? = some x) (h2 : x[j]? = some a) : at2 t i j = a := by simp [at2, h1, h2]
theorem tab_first {r c : Nat} {t u : List (List Int)} (T : HS r c (at2 t) t) (U : HS r c (at2 u) u) (h : tabLt t u = true) : ∃ i j, i < r ∧ j < c ∧ (∀ i' j', Ahead i j i' j' → i' < r → j' < c → at2 t i' j' = at2 u i' j') ∧ at2 t i j < at2 u i j := by
  have h' : listLt t u = true := h
  obtain ⟨i, x, y, h1, h2, h3, h4, h5⟩ := lt_first h' (by rw [T.len, U.len])
  have hi : i < r := by
    have := (List.getElem?_eq_some_iff.mp h2).1
    rw [T.len] at this; exact this
  have lx : x.length = c := T.row x (List.mem_of_getElem? h2)
  have ly : y.length = c := U.row y (List.mem_of_getElem? h3)
  have h5' : listLt x y = true := h5
  obtain ⟨j, a, b, k1, k2, k3, k4, k5⟩ := lt_first h5' (by omega)
  have hj : j < c := by
    have := (List.getElem?_eq_some_iff.mp k2).1
    omega
  have k5' : a < b := of_decide_eq_true k5
  refine ⟨i, j, hi, hj, fun i' j' hA hi' hj' => ?_, ?_⟩
  · rcases hA with q | ⟨q1, q2⟩
    · simp only [at2, List.getD_eq_getElem?_getD, h1 i' q]
    · subst q1
      have e := k1 j' q2
      obtain ⟨v, hv⟩ : ∃ v, x[j']? = some v := ⟨x[j']'(by omega), List.getElem?_eq_getElem _⟩
      rw [at_of h2 hv, at_of h3 (e ▸ hv)]
  · rw [at_of h2 k2, at_of h3 k3]; exact k5'
theorem tab_of {r c : Nat} {t u : List (List Int)} (T : HS r c (at2 t) t) (U : HS r c (at2 u) u) {i j : Nat} (hi : i < r) (hj : j < c) (hb : ∀ i' j', Ahead i j i' j' → i' < r → j' < c → at2 t i' j' = at2 u i' j') (hlt : at2 t i j < at2 u i j) : tabLt t u = true := by
  obtain ⟨x, h2, lx, x2⟩ := T.look hi hj
  obtain ⟨y, h3, ly, y2⟩ := U.look hi hj
  have rows : ∀ m, m < i → t[m]? = u[m]? := fun m hm => by
    have hm' : m < r := by omega
    have e1 : m < t.length := by rw [T.len]; exact hm'
    have e2 : m < u.length := by rw [U.len]; exact hm'
    rw [List.getElem?_eq_getElem e1, List.getElem?_eq_getElem e2]
    congr 1
    have l1 := T.row _ (List.getElem_mem e1)
    have l2 := U.row _ (List.getElem_mem e2)
    apply List.ext_getElem?
    intro n
    by_cases hn : n < c
    · have := hb m n (.inl hm) hm' hn
      have q1 : n < t[m].length := by omega
      have q2 : n < u[m].length := by omega
      rw [at_of (List.getElem?_eq_getElem e1) (List.getElem?_eq_getElem q1), at_of (List.getElem?_eq_getElem e2) (List.getElem?_eq_getElem q2)] at this
      rw [List.getElem?_eq_getElem q1, List.getElem?_eq_getElem q2, this]
    · rw [List.getElem?_eq_none (by omega), List.getElem?_eq_none (by omega)]
  have inrow : ∀ m, m < j → x[m]? = y[m]? := fun m hm => by
    have q1 : m < x.length := by omega
    have q2 : m < y.length := by omega
    have := hb i m (.inr ⟨rfl, hm⟩) hi (by omega)
    rw [at_of h2 (List.getElem?_eq_getElem q1), at_of h3 (List.getElem?_eq_getElem q2)] at this
    rw [List.getElem?_eq_getElem q1, List.getElem?_eq_getElem q2, this]
  have rl : listLt x y = true := lt_of inrow x2 y2 (by omega) (decide_eq_true hlt)
  have ne : x ≠ y := by
    intro e; subst e
    rw [x2] at y2
    have := Option.some.inj y2
    omega
  exact lt_of rows h2 h3 ne rl
theorem after_lt {r c h : Nat} {t : List (List Int)} (T : Tab r c h t) (U : HS r c (at2 t) t) {i j : Nat} (hi : i < r) (hj : j < c) : tabLt t (aft t r c i j) = true := by
  have V := aft_hs T hi hj
  have V2 : HS r c (at2 (aft t r c i j)) (aft t r c i j) := ⟨V.len, V.row, fun _ _ _ _ => rfl⟩
  refine tab_of U V2 hi hj (fun i' j' hA hi' hj' => ?_) ?_
  · rw [V.at_ i' j' hi' hj']
    unfold af
    rw [if_pos (show i' < i ∨ (i' = i ∧ j' < j) from hA)]
  · rw [V.at_ i j hi hj]
    unfold af
    rw [if_neg (by omega), if_pos ⟨rfl, rfl⟩]; omega
theorem none_between {r c h : Nat} {t x : List (List Int)} (T : Tab r c h t) (U : HS r c (at2 t) t) (P : Pw r c h (at2 t)) (X : HS r c (at2 x) x) (Q : Pw r c h (at2 x)) {i j : Nat} (he : (putsL t r c h).getLast? = some (i, j)) (hi : i < r) (hj : j < c)
    (h1 : tabLt t x = true) (h2 : tabLt x (aft t r c i j) = true) : False := by
  have V := aft_hs T hi hj
  have V2 : HS r c (at2 (aft t r c i j)) (aft t r c i j) := ⟨V.len, V.row, fun _ _ _ _ => rfl⟩
  obtain ⟨a, b, ha, hb, e1, l1⟩ := tab_first U X h1
  obtain ⟨p, q, hp, hq, e2, l2⟩ := tab_first X V2 h2
  have ua : ∀ i' j', i' < r → j' < c → Ahead i j i' j' → at2 (aft t r c i j) i' j' = at2 t i' j' := fun i' j' hi' hj' hA => by
    rw [V.at_ i' j' hi' hj']
    unfold af
    rw [if_pos (show i' < i ∨ (i' = i ∧ j' < j) from hA)]
  have uij : at2 (aft t r c i j) i j = at2 t i j + 1 := by
    rw [V.at_ i j hi hj]
    unfold af
    rw [if_neg (by omega), if_pos ⟨rfl, rfl⟩]
  have ub : ∀ i' j', i' < r → j' < c → Ahead i' j' i j → at2 (aft t r c i j) i' j' = 0 := fun i' j' hi' hj' hA => by
    rw [V.at_ i' j' hi' hj']
    unfold Ahead at hA
    unfold af
    rw [if_neg (by omega), if_neg (by omega)]
  have tri : ∀ i1 j1 i2 j2 : Nat, Ahead i1 j1 i2 j2 ∨ (i1 = i2 ∧ j1 = j2) ∨ Ahead i2 j2 i1 j1 := fun i1 j1 i2 j2 => by
    unfold Ahead; omega
  rcases tri i j a b with hA | ⟨rfl, rfl⟩ | hA
  · -- a, b ahead of i, j
    have u1 := ua a b ha hb hA
    rcases tri a b p q with hB | ⟨rfl, rfl⟩ | hB
    · have := e1 p q hB hp hq
      have hC : Ahead i j p q := by unfold Ahead at *; omega
      have := ua p q hp hq hC
      omega
    · omega
    · have := e2 a b hB ha hb
      omega
  · rcases tri i j p q with hB | ⟨rfl, rfl⟩ | hB
    · have := e1 p q hB hp hq
      have := ua p q hp hq hB
      omega
    · omega
    · have := ub p q hp hq hB
      have := (Q.lo p q hp hq).1
      omega
  · have hk : i * c + j < a * c + b := by
      rcases hA with h | ⟨h, h'⟩
      · have : (i + 1) * c ≤ a * c := Nat.mul_le_mul_right c h
        rw [Nat.succ_mul] at this
        omega
      · subst h; omega
    have hm := behind_most P he ha hb hk
    have hx := Q.le_most ha hb
    have em : mostv x h a b = mostv t h a b := by
      unfold mostv
      by_cases hb0 : 0 < b
      · have := e1 a (b - 1) (.inr ⟨rfl, by omega⟩) ha (by omega)
        by_cases ha0 : 0 < a
        · have := e1 (a - 1) b (.inl (by omega)) (by omega) hb
          simp_all
        · simp_all
      · by_cases ha0 : 0 < a
        · have := e1 (a - 1) b (.inl (by omega)) (by omega) hb
          simp_all
        · simp_all
    omega
end My

set_option Elab.async false
set_option linter.all false
set_option maxRecDepth 100000
set_option maxHeartbeats 4000000
namespace My
open PySem PySem.Spec PyProof.Rows L2 DL
open SrtT (K3)
variable {A : Ad}
/-! the room, the two tables -/
theorem one_of (c : Int) (m : Int) (hm : 0 < m) : ∃ n : Nat, 1 ≤ n ∧ (n : Int) ≤ m ∧ 1 + c % m = n := by
  have h0 := Int.emod_nonneg c (b := m) (by omega)
  have h1 := Int.emod_lt_of_pos c (b := m) (by omega)
  exact ⟨(1 + c % m).toNat, by omega, by omega, by omega⟩
theorem room13_ok (x : Int) : ∃ r c h, Rm r c h ∧ g__law_room A [.int x] = some (.ret (.d (dRoom r c h))) := by
  let ρ : DL.Env := [.sh (.int x), .dead]
  have dv : ∀ (ρ : DL.Env) (k : Int), ρ[0]? = some (.sh (.int x)) → CDiv x k → mOp fDiv (mVar 0) (mC (.int k)) ρ = some (.sh (.int (x / k))) := fun ρ k h0 hk => mOp_eq (x := .sh (.int x)) (y := .sh (.int k)) (by simp [mVar, h0]) rfl (fDiv_ok rfl rfl hk)
  have c1 : mTst (mOp fEq (mOp fMod (mOp fDiv (mVar 0) (mC (.int 6))) (mC (.int 4))) (mC (.int 1))) ρ = some (decide (x / 6 % 4 = 1)) :=
    mTst_b (mOp_eq (mOp_eq (dv ρ 6 rfl ⟨by decide, by decide⟩) (y := .sh (.int 4)) rfl (fMod_ok rfl rfl (by decide))) (y := .sh (.int 1)) rfl (fEq_int rfl rfl))
  by_cases hq : x / 6 % 4 = 1
  · obtain ⟨k, k1, k2, k3⟩ := one_of (x / 24) 20 (by decide)
    obtain ⟨r, r1, r2, r3⟩ := one_of x 4 (by decide)
    have hm : (0 : Int) < min 20 (40 / (k : Int)) := by
      have : (40 : Int) / k ≥ 2 := by
        rw [ge_iff_le, Int.le_ediv_iff_mul_le (by omega)]; omega
      omega
    obtain ⟨z, z1, z2, z3⟩ := one_of (x / 480) (min 20 (40 / (k : Int))) hm
    refine ⟨r, k, z, ⟨⟨r1, by omega⟩, ⟨k1, by omega⟩, ⟨z1, by omega⟩⟩, ?_⟩
    refine run1 ?_
    show m__law_room A ρ = _
    rw [decide_eq_true hq] at c1
    let ρ1 : DL.Env := [.sh (.int x), .sh (.int k)]
    have e1 : mSet 1 (mOp fAdd (mC (.int 1)) (mOp fMod (mOp fDiv (mVar 0) (mC (.int 24))) (mC (.int 20)))) ρ = some (.nx ρ1) := by
      have := mOp_eq (ma := mC (.int 1)) (x := .sh (.int 1)) (ρ := ρ) rfl (mOp_eq (dv ρ 24 rfl ⟨by decide, by decide⟩) (mb := mC (.int 20)) (y := .sh (.int 20)) rfl (fMod_ok rfl rfl (by decide))) (fAdd_ok rfl rfl)
      rw [k3] at this
      exact mSet_d this
    have e2 : mRet (mTup (mCons (mOp fAdd (mC (.int 1)) (mOp fMod (mVar 0) (mC (.int 4)))) (mCons (mVar 1) (mCons (mOp fAdd (mC (.int 1)) (mOp fMod (mOp fDiv (mVar 0) (mC (.int 480))) (mCB gMin (mCons (mC (.int 20)) (mCons (mOp fDiv (mC (.int 40)) (mVar 1)) mNil))))) mNil)))) ρ1 = some (.rt (.d (dRoom r k z))) := by
      have a1 := mOp_eq (ma := mC (.int 1)) (x := .sh (.int 1)) (ρ := ρ1) rfl (mOp_eq (ma := mVar 0) (x := .sh (.int x)) rfl (mb := mC (.int 4)) (y := .sh (.int 4)) rfl (fMod_ok rfl rfl (by decide))) (fAdd_ok rfl rfl)
      have b1 := mOp_eq (ma := mC (.int 40)) (x := .sh (.int 40)) (ρ := ρ1) rfl (mb := mVar 1) (y := .sh (.int k)) rfl (fDiv_ok rfl rfl ⟨by omega, by omega⟩)
      have b2 : mCB gMin (mCons (mC (.int 20)) (mCons (mOp fDiv (mC (.int 40)) (mVar 1)) mNil)) ρ1 = some (.sh (.int (min 20 (40 / (k : Int))))) := mCB_two (x := .sh (.int 20)) rfl b1 gMin_ok
      have b3 := mOp_eq (ma := mC (.int 1)) (x := .sh (.int 1)) (ρ := ρ1) rfl (mOp_eq (dv ρ1 480 rfl ⟨by decide, by decide⟩) b2 (fMod_ok rfl rfl hm)) (fAdd_ok rfl rfl)
      rw [r3] at a1
      rw [z3] at b3
      refine mRet_d (d := dRoom r k z) ?_ (by simp [dRoom, imm, immL])
      unfold mTup
      rw [three a1 (y := .sh (.int k)) rfl b3]
      simp [R.data, immL, imm, dRoom]
    show mSeq (mIfS _ _ _) _ ρ = _
    unfold mSeq
    rw [mIfS_t c1]
    simp only [e1, e2]
  · obtain ⟨k, k1, k2, k3⟩ := one_of (x / 24) 5 (by decide)
    obtain ⟨r, r1, r2, r3⟩ := one_of x 6 (by decide)
    obtain ⟨z, z1, z2, z3⟩ := one_of (x / 120) 5 (by decide)
    refine ⟨r, k, z, ⟨⟨r1, by omega⟩, ⟨k1, by omega⟩, ⟨z1, by omega⟩⟩, ?_⟩
    refine run1 ?_
    show m__law_room A ρ = _
    rw [decide_eq_false hq] at c1
    refine mSeq_n (ρ1 := ρ) (by rw [mIfS_f c1]; rfl) ?_
    have a1 := mOp_eq (ma := mC (.int 1)) (x := .sh (.int 1)) (ρ := ρ) rfl (mOp_eq (ma := mVar 0) (x := .sh (.int x)) rfl (mb := mC (.int 6)) (y := .sh (.int 6)) rfl (fMod_ok rfl rfl (by decide))) (fAdd_ok rfl rfl)
    have b1 := mOp_eq (ma := mC (.int 1)) (x := .sh (.int 1)) (ρ := ρ) rfl (mOp_eq (dv ρ 24 rfl ⟨by decide, by decide⟩) (mb := mC (.int 5)) (y := .sh (.int 5)) rfl (fMod_ok rfl rfl (by decide))) (fAdd_ok rfl rfl)
    have b3 := mOp_eq (ma := mC (.int 1)) (x := .sh (.int 1)) (ρ := ρ) rfl (mOp_eq (dv ρ 120 rfl ⟨by decide, by decide⟩) (mb := mC (.int 5)) (y := .sh (.int 5)) rfl (fMod_ok rfl rfl (by decide))) (fAdd_ok rfl rfl)
    rw [r3] at a1
    rw [k3] at b1
    rw [z3] at b3
    refine mRet_d (d := dRoom r k z) ?_ (by simp [dRoom, imm, immL])
    unfold mTup
    rw [three a1 b1 b3]
    simp [R.data, immL, imm, dRoom]
/-- a right table -/
structure Tb (r c h : Nat) (t : List (List Int)) : Prop where
  hs : HS r c (at2 t) t
  pw : Pw r c h (at2 t)
theorem Tb.fl {r c h : Nat} {t : List (List Int)} (B : Tb r c h t) : Fl c h t := B.pw.fl B.hs
theorem Tb.tab {r c h : Nat} {t : List (List Int)} (B : Tb r c h t) : Tab r c h t := (HS.self B.pw B.hs).2.2
theorem Tb.of {r c h : Nat} {f : Nat → Nat → Int} {t : List (List Int)} (P : Pw r c h f) (H : HS r c f t) : Tb r c h t := ⟨(HS.self P H).1, (HS.self P H).2.1⟩
theorem copy_c {ρ : DL.Env} {m : ME} {z : R} {t : List (List Int)} (h : m ρ = some z) (hz : z.data = dTab t) (hl : t.length ≤ 100000) : mCall 1 (g__law_copy A) (mCons m mNil) ρ = some (.tr (sTab t)) :=
  mCall_t (rs := [z]) (one h) rfl (by simp only [List.map_cons, List.map_nil, hz]; exact copy_ok hl)
theorem law_back_ok {r c h : Nat} {t : List (List Int)} (M : Rm r c h) (B : Tb r c h t) : g__law_back A [dRoom r c h, dTab t] = some (.ret (.d (.bl true))) := by
  have hr := M.r
  refine run1 ?_
  let ρ : DL.Env := [.sh (dRoom r c h), .sh (dTab t)]
  show m__law_back A ρ = _
  have tl : t.length ≤ 100000 := by rw [B.hs.len]; omega
  have F := B.fl
  have cp : mCall 1 (g__law_copy A) (mCons (mVar 1) mNil) ρ = some (.tr (sTab t)) := copy_c (z := .sh (dTab t)) rfl rfl tl
  have e1 : mCall 2 (g_lanes_of A) (mCons (mVar 0) (mCons (mCall 1 (g__law_copy A) (mCons (mVar 1) mNil)) mNil)) ρ = some (.tr (sTx (lanesT t h))) :=
    mCall_t (rs := [.sh (dRoom r c h), .tr (sTab t)]) (two rfl cp) rfl (by simp only [List.map_cons, List.map_nil, R.data, sTab_data]; exact lanesOf_ok M F B.hs.len)
  have e2 : mCall 2 (g_table_of A) (mCons (mVar 0) (mCons (mCall 2 (g_lanes_of A) (mCons (mVar 0) (mCons (mCall 1 (g__law_copy A) (mCons (mVar 1) mNil)) mNil))) mNil)) ρ = some (.tr (sTab t)) :=
    mCall_t (rs := [.sh (dRoom r c h), .tr (sTx (lanesT t h))]) (two rfl e1) rfl (by simp only [List.map_cons, List.map_nil, R.data, sTx_data]; exact table_back M F B.hs.len)
  have c1 : mTst (mOp fNe (mCall 2 (g_table_of A) (mCons (mVar 0) (mCons (mCall 2 (g_lanes_of A) (mCons (mVar 0) (mCons (mCall 1 (g__law_copy A) (mCons (mVar 1) mNil)) mNil))) mNil))) (mVar 1)) ρ = some false := by
    refine mTst_b (mOp_eq e2 (y := .sh (dTab t)) rfl ?_)
    simp [fNe, flat2, R.data, sTab_data, gEq_tab]
  refine mSeq_n (ρ1 := ρ) (by rw [mIfS_f c1]; rfl) ?_
  have e3 : mCall 2 (g_floor_of A) (mCons (mVar 0) (mCons (mCall 1 (g__law_copy A) (mCons (mVar 1) mNil)) mNil)) ρ = some (.tr (sTri (floorK r c h t))) :=
    mCall_t (rs := [.sh (dRoom r c h), .tr (sTab t)]) (two rfl cp) rfl (by simp only [List.map_cons, List.map_nil, R.data, sTab_data]; exact floor_ok M F B.hs.len)
  have e4 : mCall 2 (g_heap_of A) (mCons (mVar 0) (mCons (mCall 2 (g_floor_of A) (mCons (mVar 0) (mCons (mCall 1 (g__law_copy A) (mCons (mVar 1) mNil)) mNil))) mNil)) ρ = some (.tr (sTab t)) :=
    mCall_t (rs := [.sh (dRoom r c h), .tr (sTri (floorK r c h t))]) (two rfl e3) rfl (by simp only [List.map_cons, List.map_nil, R.data, sTri_data]; exact heap_ok M B.hs B.pw floor_kind (List.Perm.refl _))
  refine mRet_d (d := .bl true) (mOp_eq e4 (y := .sh (dTab t)) rfl ?_) rfl
  simp [fEq, flat2, R.data, sTab_data, gEq_tab]
theorem own_ix {ρ : DL.Env} {u : List (List Int)} {r c : Nat} {f : Nat → Nat → Int} (U : HS r c f u) {q i j : Nat} {mi mj : ME} {y1 y2 : R} (hq : mVar q ρ = some (.vw (dTab u)) ∨ mVar q ρ = some (.sh (dTab u))) (h1 : mi ρ = some y1) (d1 : y1.data = .int i) (h2 : mj ρ = some y2) (d2 : y2.data = .int j) (hi : i < r) (hj : j < c) :
    ∃ z, mOp fIx (mOp fIx (mVar q) mi) mj ρ = some z ∧ z.data = .int (f i j) ∧ z.slot = .sh (.int (f i j)) := by
  obtain ⟨x, hx1, hx2, hx3⟩ := U.look hi hj
  have key : ∀ w : R, mVar q ρ = some w → w.data = dTab u → ∃ z, mOp fIx (mOp fIx (mVar q) mi) mj ρ = some z ∧ z.data = .int (f i j) ∧ z.slot = .sh (.int (f i j)) := fun w hw hd => by
    obtain ⟨z1, q1, q2, _⟩ := mIx hw h1 (ds := u.map dRow) hd d1 (d := dRow x) (by simp [hx1])
    obtain ⟨z2, q3, q4, q5⟩ := mIx q1 h2 q2 d2 (d := .int (f i j)) (by simp [hx3])
    exact ⟨z2, q3, q4, q5 rfl⟩
  rcases hq with h | h
  · exact key _ h rfl
  · exact key _ h rfl
theorem emod_at (x : Int) (n : Nat) (h : 1 ≤ n) : ∃ i : Nat, i < n ∧ x % (n : Int) = i := by
  have h0 := Int.emod_nonneg x (b := (n : Int)) (by omega)
  have h1 := Int.emod_lt_of_pos x (b := (n : Int)) (by omega)
  exact ⟨(x % n).toNat, by omega, by omega⟩
theorem law_two_ok {r c h : Nat} (M : Rm r c h) {ns : List Int} (hns : ns.length ≤ 63) : ∃ t u, Tb r c h t ∧ Tb r c h u ∧ g__law_two A [.scr ns, dRoom r c h] = some (.ret (.own [sTab t, sTab u])) := by
  have hr := M.r; have hc := M.c; have hh := M.h
  obtain ⟨t, ⟨Ft, lt⟩, ht⟩ := table_fl (k0 := 3) (A := A) (by decide) hns M
  obtain ⟨u, ⟨Fu, lu⟩, hu⟩ := table_fl (k0 := 5) (A := A) (by decide) hns M
  have Bt : Tb r c h t := ⟨Ft.hs lt, Ft.pw lt⟩
  have Bu : Tb r c h u := ⟨Fu.hs lu, Fu.pw lu⟩
  obtain ⟨v, hv⟩ := law_of_any (A := A) ns hns 1
  let s0 : Sl := .sh (.scr ns)
  let s1 : Sl := .sh (dRoom r c h)
  let E : Sl → Sl → Sl → Sl → Sl → DL.Env := fun a b d e f => [s0, s1, a, b, d, e, f]
  let sT : Sl := .tr (sTab t)
  let sU : Sl := .tr (sTab u)
  let sV : Sl := .sh (.int v)
  have e2 : mSet 2 (mCall 3 (g__law_table A) (mCons (mVar 0) (mCons (mC (.int 3)) (mCons (mVar 1) mNil)))) (E .dead .dead .dead .dead .dead) = some (.nx (E sT .dead .dead .dead .dead)) :=
    mSet_z (mCall_t (rs := [.sh (.scr ns), .sh (.int 3), .sh (dRoom r c h)]) (three rfl rfl rfl) rfl ht) rfl
  have e3 : mSet 3 (mCall 3 (g__law_table A) (mCons (mVar 0) (mCons (mC (.int 5)) (mCons (mVar 1) mNil)))) (E sT .dead .dead .dead .dead) = some (.nx (E sT sU .dead .dead .dead)) :=
    mSet_z (mCall_t (rs := [.sh (.scr ns), .sh (.int 5), .sh (dRoom r c h)]) (three rfl rfl rfl) rfl hu) rfl
  have e4 : mSet 4 (mCall 2 (g__law_of A) (mCons (mVar 0) (mCons (mC (.int 1)) mNil))) (E sT sU .dead .dead .dead) = some (.nx (E sT sU sV .dead .dead)) :=
    mSet_d (mCall_d (rs := [.sh (.scr ns), .sh (.int 1)]) (two rfl rfl) rfl hv)
  have fin : ∀ w a b, mRetM (mmLst (mmCons (mmV 2) (mmCons (mmV 3) mmNil))) (E sT (.tr (sTab w)) sV a b) = some (.rt (.own [sTab t, sTab w])) := fun w a b => rfl
  have c5 : mTst (mOp fEq (mOp fMod (mVar 4) (mC (.int 2))) (mC (.int 1))) (E sT sU sV .dead .dead) = some (decide (v % 2 = 1)) :=
    mTst_b (mOp_eq (mOp_eq (x := .sh (.int v)) (y := .sh (.int 2)) rfl rfl (fMod_ok rfl rfl (by decide))) (y := .sh (.int 1)) rfl (fEq_int rfl rfl))
  by_cases hb : v % 2 = 1
  rotate_left
  · refine ⟨t, u, Bt, Bu, run1 ?_⟩
    rw [decide_eq_false hb] at c5
    exact mSeq_n e2 (mSeq_n e3 (mSeq_n e4 (mSeq_n (by rw [mIfS_f c5]; rfl) (fin u .dead .dead))))
  rw [decide_eq_true hb] at c5
  obtain ⟨i, hi, ei⟩ := emod_at (v / 2) r (by omega)
  obtain ⟨j, hj, ej⟩ := emod_at (v / 12) c (by omega)
  let sI : Sl := .sh (.int i)
  let sJ : Sl := .sh (.int j)
  have x3 : mSet 3 (mCall 1 (g__law_copy A) (mCons (mVar 2) mNil)) (E sT sU sV .dead .dead) = some (.nx (E sT sT sV .dead .dead)) :=
    mSet_z (copy_c (z := .vw (sTab t).data) rfl (by simp only [R.data, sTab_data]) (by omega)) rfl
  have x5 : mSet 5 (mOp fMod (mOp fDiv (mVar 4) (mC (.int 2))) (mOp fIx (mVar 1) (mC (.int 0)))) (E sT sT sV .dead .dead) = some (.nx (E sT sT sV sI .dead)) := by
    have := mOp_eq (mOp_eq (ma := mVar 4) (mb := mC (.int 2)) (ρ := E sT sT sV .dead .dead) (x := .sh (.int v)) (y := .sh (.int 2)) rfl rfl (fDiv_ok rfl rfl ⟨by decide, by decide⟩)) (room_ix (k := 1) (r := r) (c := c) (h := h) (ρ := E sT sT sV .dead .dead) rfl).1 (fMod_ok rfl rfl (by omega))
    rw [ei] at this
    exact mSet_d this
  have x6 : mSet 6 (mOp fMod (mOp fDiv (mVar 4) (mC (.int 12))) (mOp fIx (mVar 1) (mC (.int 1)))) (E sT sT sV sI .dead) = some (.nx (E sT sT sV sI sJ)) := by
    have := mOp_eq (mOp_eq (ma := mVar 4) (mb := mC (.int 12)) (ρ := E sT sT sV sI .dead) (x := .sh (.int v)) (y := .sh (.int 12)) rfl rfl (fDiv_ok rfl rfl ⟨by decide, by decide⟩)) (room_ix (k := 1) (r := r) (c := c) (h := h) (ρ := E sT sT sV sI .dead) rfl).2.1 (fMod_ok rfl rfl (by omega))
    rw [ej] at this
    exact mSet_d this
  let EE := E sT sT sV sI sJ
  have w2 : mVar 2 EE = some (.vw (dTab t)) := by
    show some (R.vw (sTab t).data) = _; rw [sTab_data]
  obtain ⟨z, q1, q2, q3⟩ := own_ix (ρ := EE) (q := 2) (mi := mVar 5) (mj := mVar 6) (i := i) (j := j) (y1 := .sh (.int i)) (y2 := .sh (.int j)) Bt.hs (.inl w2) rfl rfl rfl rfl hi hj
  have m1 : mCall 4 (g__law_most A) (mCons (mVar 2) (mCons (mVar 1) (mCons (mVar 5) (mCons (mVar 6) mNil)))) EE = some (.sh (.int (mostv t h i j))) :=
    mCall_d (rs := [.vw (dTab t), .sh (dRoom r c h), .sh (.int i), .sh (.int j)]) (four w2 rfl rfl rfl) rfl (most_hs Bt.hs hi hj)
  have c7 : mTst (mOp fLt (mOp fIx (mOp fIx (mVar 2) (mVar 5)) (mVar 6)) (mCall 4 (g__law_most A) (mCons (mVar 2) (mCons (mVar 1) (mCons (mVar 5) (mCons (mVar 6) mNil)))))) EE = some (decide (at2 t i j < mostv t h i j)) :=
    mTst_b (mOp_eq q1 m1 (fLt_ok q2 rfl))
  have pre : ∀ {w a b} {x : MS}, x EE = some (.nx (E sT (.tr (sTab w)) sV a b)) → m__law_two A = m__law_two A → (mSeq (mSet 3 (mCall 1 (g__law_copy A) (mCons (mVar 2) mNil))) (mSeq (mSet 5 (mOp fMod (mOp fDiv (mVar 4) (mC (.int 2))) (mOp fIx (mVar 1) (mC (.int 0))))) (mSeq (mSet 6 (mOp fMod (mOp fDiv (mVar 4) (mC (.int 12))) (mOp fIx (mVar 1) (mC (.int 1))))) x))) (E sT sU sV .dead .dead) = some (.nx (E sT (.tr (sTab w)) sV a b)) := fun h _ => mSeq_n x3 (mSeq_n x5 (mSeq_n x6 h))
  by_cases hlt : at2 t i j < mostv t h i j
  · rw [decide_eq_true hlt] at c7
    have P2 := Bt.pw.raise hi hj (v := at2 t i j + 1) (by omega) (by omega)
    have H2 := Bt.hs.put hi hj (at2 t i j + 1)
    refine ⟨t, put2 t i j (at2 t i j + 1), Bt, Tb.of P2 H2, run1 ?_⟩
    refine mSeq_n e2 (mSeq_n e3 (mSeq_n e4 (mSeq_n ?_ (fin _ sI sJ))))
    rw [mIfS_t c5]
    refine pre ?_ rfl
    rw [mIfS_t c7]
    have a1 := mOp_eq q1 (mb := mC (.int 1)) (y := .sh (.int 1)) rfl (fAdd_ok q2 rfl)
    have := setIx_tab (ρ := EE) (q := 3) (mi := mVar 5) (mj := mVar 6) (y1 := .sh (.int i)) (y2 := .sh (.int j)) Bt.hs rfl rfl rfl rfl rfl a1 rfl hi hj
    rw [this]; rfl
  · rw [decide_eq_false hlt] at c7
    refine ⟨t, t, Bt, Bt, run1 ?_⟩
    refine mSeq_n e2 (mSeq_n e3 (mSeq_n e4 (mSeq_n ?_ (fin _ sI sJ))))
    rw [mIfS_t c5]
    refine pre ?_ rfl
    rw [mIfS_f c7]; rfl
end My

set_option Elab.async false
set_option linter.all false
set_option maxRecDepth 100000
set_option maxHeartbeats 4000000
namespace My
open PySem PySem.Spec PyProof.Rows L2 DL
open SrtT (K3)
variable {A : Ad}
/-! what tells tables apart -/
theorem dTab_inj {t u : List (List Int)} (h : dTab t = dTab u) : t = u := by
  have h1 : t.map dRow = u.map dRow := D.lst.inj h
  have h2 := congrArg tabs? h1
  rw [tabs?_map, tabs?_map] at h2
  exact Option.some.inj h2
theorem sTab_inj {t u : List (List Int)} (h : sTab t = sTab u) : t = u := dTab_inj (by rw [← sTab_data, ← sTab_data, h])
theorem lanes_iff {r c h : Nat} {t u : List (List Int)} (B : Tb r c h t) (C : Tb r c h u) : lanesT t h = lanesT u h ↔ t = u :=
  ⟨fun e => by rw [← tabL_lanes B.fl, e, tabL_lanes C.fl], fun e => by rw [e]⟩
theorem floor_iff (A : Ad) {r c h : Nat} {t u : List (List Int)} (M : Rm r c h) (B : Tb r c h t) (C : Tb r c h u) : floorK r c h t = floorK r c h u ↔ t = u :=
  ⟨fun e => by
    have h1 := heap_ok (A := A) M B.hs B.pw floor_kind (List.Perm.refl (floorK r c h t))
    have h2 := heap_ok (A := A) M C.hs C.pw floor_kind (List.Perm.refl (floorK r c h u))
    rw [e, h2] at h1
    exact (sTab_inj (FO.ret.inj (Option.some.inj h1))).symm, fun e => by rw [e]⟩
def allL (t : List (List Int)) (r c h : Nat) : List (Nat × Nat) := (List.range h).flatMap (ups t r c)
theorem sum_lt_n (a : Int) : ∀ h : Nat, ((List.range h).map fun (l : Nat) => if (l : Int) < a then 1 else 0).sum = min a.toNat h
  | 0 => by simp
  | h + 1 => by
    rw [List.range_succ, List.map_append, List.sum_append, sum_lt_n a h]
    simp only [List.map_cons, List.map_nil, List.sum_cons, List.sum_nil]
    split <;> omega
theorem count_climb {r c h : Nat} {t : List (List Int)} (P : Pw r c h (at2 t)) {i j : Nat} (hi : i < r) (hj : j < c) : ((allL t r c h).count (i, j) : Int) = at2 t i j := by
  have e : ∀ l : Nat, (ups t r c l).count (i, j) = if (l : Int) < at2 t i j then 1 else 0 := fun l => by
    unfold ups
    by_cases hl : (l : Int) < at2 t i j
    · rw [if_pos hl, List.count_filter (p := fun p => decide ((l : Int) < at2 t p.1 p.2)) (a := (i, j)) (by simpa using hl), (places_nd r c).count, if_pos (mem_places.mpr ⟨hi, hj⟩)]
    · rw [if_neg hl]
      refine List.count_eq_zero.mpr fun m => hl ?_
      exact of_decide_eq_true (List.mem_filter.mp m).2
  have h2 : (allL t r c h).count (i, j) = min (at2 t i j).toNat h := by
    unfold allL
    rw [List.count_flatMap, ← sum_lt_n]
    congr 1
    apply List.map_congr_left
    intro l _
    exact e l
  have := P.lo i j hi hj
  rw [h2]; omega
theorem climb_iff {r c h : Nat} {t u : List (List Int)} (B : Tb r c h t) (C : Tb r c h u) : allL t r c h = allL u r c h ↔ t = u :=
  ⟨fun e => by
    refine (HS.ext B.tab (u := u) ⟨C.hs.len, C.hs.row, fun i j hi hj => ?_⟩).symm
    rw [← count_climb C.pw hi hj, ← count_climb B.pw hi hj, e], fun e => by rw [e]⟩
theorem eqv_dP (p q : Nat × Nat) : D.eqv (dP p) (dP q) = decide (p = q) := by
  have := eqv_tup (f := D.int) eqv_int [(p.1 : Int), p.2] [(q.1 : Int), q.2]
  refine this.trans ?_
  obtain ⟨a, b⟩ := p
  obtain ⟨x, y⟩ := q
  have e1 : decide ((a : Int) = x) = decide (a = x) := decide_eq_decide.mpr (by omega)
  have e2 : decide ((b : Int) = y) = decide (b = y) := decide_eq_decide.mpr (by omega)
  simp [e1, e2]
theorem ok_pl (ps : List (Nat × Nat)) : (D.lst (ps.map dP)).ok = true := by
  have f1 : flt 2 (.lst (ps.map dP)) = true := by
    show fltL 1 (ps.map dP) = true
    exact fltL_all fun d m => by
      obtain ⟨p, _, rfl⟩ := List.mem_map.mp m
      show fltL 0 [.int p.1, .int p.2] = true
      exact fltL_all fun d m => by
        rcases List.mem_cons.mp m with rfl | m
        · exact flt_int
        · rcases List.mem_cons.mp m with rfl | m
          · exact flt_int
          · cases m
  exact ok_flt f1 (by decide)
theorem gEq_pls (ps qs : List (Nat × Nat)) : gEq false (.lst (ps.map dP)) (.lst (qs.map dP)) = some (.bl (decide (ps = qs))) := by
  unfold gEq
  rw [ok_pl, ok_pl, eqv_lst eqv_dP]
  simp
theorem dP_data (ps : List (Nat × Nat)) : S.dataL (ps.map fun p => S.d (dP p)) = ps.map dP := by
  rw [show (ps.map fun p => S.d (dP p)) = (ps.map dP).map S.d by rw [List.map_map]; rfl, dataL_d]
theorem fNe_bl (a b : Bool) : fNe (.sh (.bl a)) (.sh (.bl b)) = some (.sh (.bl (!decide (a = b)))) := by
  cases a <;> cases b <;> rfl
theorem ltT_ok {x y : R} {t u : List (List Int)} (hx : x.data = dTab t) (hy : y.data = dTab u) : fLtT x y = some (.sh (.bl (tabLt t u))) := by
  have e1 : tabs? (t.map dRow) = some t := tabs?_map t
  have e2 : tabs? (u.map dRow) = some u := tabs?_map u
  simp only [fLtT, flat2, hx, hy, dTab, gLtT, e1, e2, Option.map_some]
theorem chT_ok {ma mb mc : ME} {ρ : DL.Env} {x y z : R} {t u v : List (List Int)} (h1 : ma ρ = some x) (h2 : mb ρ = some y) (h3 : mc ρ = some z) (d1 : x.data = dTab t) (d2 : y.data = dTab u) (d3 : z.data = dTab v) : mTst (mChT ma mb mc) ρ = some (tabLt t u && tabLt u v) := by
  have e1 : tabs? (t.map dRow) = some t := tabs?_map t
  have e2 : tabs? (u.map dRow) = some u := tabs?_map u
  have e3 : tabs? (v.map dRow) = some v := tabs?_map v
  unfold mTst mChT
  rw [h1, h2]
  simp only [d1, d2, dTab, e1, e2]
  cases hq : tabLt t u
  · simp [R.data]
  · rw [if_pos rfl, h3]
    simp only [d3, dTab, e3]
    simp only [R.data, Bool.true_and]
theorem best_ok {f : List (List Int) → List (List Int) → Bool} {ma mb : ME} {ρ : DL.Env} {x y : R} {t u : List (List Int)} (h1 : ma ρ = some x) (h2 : mb ρ = some y) (d1 : x.data = dTab t) (d2 : y.data = dTab u) : mCB (gBest f) (mCons ma (mCons mb mNil)) ρ = some (.vw (dTab (if f t u = true then u else t))) := by
  have e1 : tabs? (t.map dRow) = some t := tabs?_map t
  have e2 : tabs? (u.map dRow) = some u := tabs?_map u
  refine mCB_two h1 h2 ?_
  rw [d1, d2]
  simp only [gBest, dTab, e1, e2]
theorem full_iff {r c h : Nat} {t : List (List Int)} (U : HS r c (at2 t) t) (P : Pw r c h (at2 t)) : t = List.replicate r (List.replicate c (h : Int)) ↔ putsL t r c h = [] := by
  constructor
  · intro e
    refine none_of_full fun i j hi hj => ?_
    rw [e]; simp [at2, hi, hj]
  · intro e
    have hf := full_of_none P e
    refine List.eq_replicate_iff.mpr ⟨U.len, fun x m => ?_⟩
    obtain ⟨i, hi, rfl⟩ := List.mem_iff_getElem.mp m
    have hl := U.row _ (List.getElem_mem hi)
    refine List.eq_replicate_iff.mpr ⟨hl, fun v m => ?_⟩
    obtain ⟨j, hj, rfl⟩ := List.mem_iff_getElem.mp m
    have := hf (i + j) i j rfl (by rw [← U.len]; exact hi) (by rw [← hl]; exact hj)
    rw [← this]
    simp [at2, hi, hj]
/-! the law -/
def E13 (s0 s1 s2 s3 s4 s5 s6 : Sl) : DL.Env := [s0, s1, s2, s3, s4, s5, s6, .dead]
def sTwo (t u : List (List Int)) : Sl := .tr (.own [sTab t, sTab u])
theorem two_at {ρ : DL.Env} {t u : List (List Int)} (h : ρ[2]? = some (sTwo t u)) : mOp fIx (mVar 2) (mC (.int 0)) ρ = some (.vw (dTab t)) ∧ mOp fIx (mVar 2) (mC (.int 1)) ρ = some (.vw (dTab u)) := by
  have w : mVar 2 ρ = some (.vw (.lst [dTab t, dTab u])) := by
    simp only [mVar, h, sTwo]
    show some (R.vw (.lst [(sTab t).data, (sTab u).data])) = _
    rw [sTab_data, sTab_data]
  exact ⟨mOp_eq w (y := .sh (.int 0)) rfl (fIx_vw (i := 0) rfl), mOp_eq w (y := .sh (.int 1)) rfl (fIx_vw (i := 1) rfl)⟩
theorem full13_ok {r c h : Nat} (M : Rm r c h) {t : List (List Int)} {s0 s2 s3 s5 s6 : Sl} :
    mOp fEq (mVar 4) (mLc (mRg1 (mCons (mOp fIx (mVar 1) (mC (.int 0))) mNil)) (mgName 7) mYes (mOp fMul (mLst (mCons (mOp fIx (mVar 1) (mC (.int 2))) mNil)) (mOp fIx (mVar 1) (mC (.int 1)))) [7]) (E13 s0 (.sh (dRoom r c h)) s2 s3 (.tr (sTab t)) s5 s6) = some (.sh (.bl (decide (t = List.replicate r (List.replicate c (h : Int)))))) := by
  have hr := M.r; have hc := M.c
  let ρ := E13 s0 (.sh (dRoom r c h)) s2 s3 (.tr (sTab t)) s5 s6
  have w2 : mVar 4 ρ = some (.vw (sTab t).data) := rfl
  have e : mLc (mRg1 (mCons (mOp fIx (mVar 1) (mC (.int 0))) mNil)) (mgName 7) mYes (mOp fMul (mLst (mCons (mOp fIx (mVar 1) (mC (.int 2))) mNil)) (mOp fIx (mVar 1) (mC (.int 1)))) [7] ρ = some (.tr (sTab (List.replicate r (List.replicate c (h : Int))))) := by
    rw [mLc_eval (s := true) (items := rg 0 r) (fun _ => true) (fun _ => .tr (sRow (List.replicate c (h : Int)))) (fun _ => sRow (List.replicate c (h : Int)))]
    · rw [ft, rg0, List.map_map]
      simp only [sTab, List.map_replicate]
      refine congrArg (fun q => some (R.tr (S.own q))) ?_
      exact List.eq_replicate_iff.mpr ⟨by simp, fun b m => by obtain ⟨_, _, rfl⟩ := List.mem_map.mp m; rfl⟩
    · exact mRg1_eval (one (room_ix (k := 1) (r := r) (c := c) (h := h) rfl).1) rfl (by omega)
    · rw [rg0]; simp; omega
    · rfl
    · intro d m
      refine ⟨_, rfl, rfl, fun _ => ⟨?_, rfl⟩⟩
      exact mOp_eq (mLst_one (room_ix (k := 1) (r := r) (c := c) (h := h) rfl).2.2) (room_ix (k := 1) (r := r) (c := c) (h := h) rfl).2.1 (fMul_l (n := h) (k := c) rfl rfl (by omega))
  refine mOp_eq w2 e ?_
  simp [fEq, flat2, R.data, sTab_data, gEq_tab]
def lBody (A : Ad) : MS := (mSeq (mSet 6 (mCall 2 (g_after A) (mCons (mVar 1) (mCons (mCall 1 (g__law_copy A) (mCons (mVar 4) mNil)) mNil))))
    (mKill [0, 5] (mSeq (mIfS (mTst (mOp fIs (mVar 6) (mC .non))) (mKill [0, 2, 3, 5, 6] (mRet (mOp fEq (mVar 4) (mLc (mRg1 (mCons (mOp fIx (mVar 1) (mC (.int 0))) mNil)) (mgName 7) mYes (mOp fMul (mLst (mCons (mOp fIx (mVar 1) (mC (.int 2))) mNil)) (mOp fIx (mVar 1) (mC (.int 1)))) [7])))) mNext)
    (mSeq (mIfS (mOr (mNot (mTst (mOp fLtT (mVar 4) (mVar 6)))) (mAnd (mNot (mTru (mVar 3))) (mTst (mChT (mVar 4) (mCB gMaxT (mCons (mOp fIx (mVar 2) (mC (.int 0))) (mCons (mOp fIx (mVar 2) (mC (.int 1))) mNil))) (mVar 6))))) (mRet (mC (.bl false))) mNext)
    (mMov 4 6)))))
theorem mAnd_f {a b : MT} {ρ : DL.Env} (h : a ρ = some false) : mAnd a b ρ = some false := by simp [mAnd, h]
theorem step_ok {r c h : Nat} (M : Rm r c h) {t u w : List (List Int)} (B : Tb r c h t) (C : Tb r c h u) (W : Tb r c h w) (s0 s5 : Sl) (b : Bool) :
    lBody A (E13 s0 (.sh (dRoom r c h)) (sTwo t u) (.sh (.bl b)) (.tr (sTab w)) s5 .dead) = some (.rt (.d (.bl true))) ∨ ∃ w', Tb r c h w' ∧ lBody A (E13 s0 (.sh (dRoom r c h)) (sTwo t u) (.sh (.bl b)) (.tr (sTab w)) s5 .dead) = some (.nx (E13 .dead (.sh (dRoom r c h)) (sTwo t u) (.sh (.bl b)) (.tr (sTab w')) .dead .dead)) := by
  have hr := M.r; have hc := M.c; have hh := M.h
  let s1 : Sl := .sh (dRoom r c h)
  let s2 := sTwo t u
  let s3 : Sl := .sh (.bl b)
  let sW : Sl := .tr (sTab w)
  let ρ := E13 s0 s1 s2 s3 sW s5 .dead
  have lo : ∀ i j, i < r → j < c → at2 w i j ≤ h := fun i j hi hj => (W.pw.lo i j hi hj).2
  have T := W.tab
  have cp : mCall 1 (g__law_copy A) (mCons (mVar 4) mNil) ρ = some (.tr (sTab w)) := copy_c (z := .vw (sTab w).data) rfl (by simp only [R.data, sTab_data]) (by rw [W.hs.len]; omega)
  cases he : (putsL w r c h).getLast? with
  | none =>
    have he' : putsL w r c h = [] := List.getLast?_eq_none_iff.mp he
    have e6 : mSet 6 (mCall 2 (g_after A) (mCons (mVar 1) (mCons (mCall 1 (g__law_copy A) (mCons (mVar 4) mNil)) mNil))) ρ = some (.nx (E13 s0 s1 s2 s3 sW s5 (.sh .non))) :=
      mSet_d (mCall_d (rs := [.sh (dRoom r c h), .tr (sTab w)]) (two rfl cp) rfl (by simp only [List.map_cons, List.map_nil, R.data, sTab_data]; exact after_none M T lo he'))
    refine .inl (mSeq_n e6 ?_)
    let ρ2 := E13 .dead s1 s2 s3 sW .dead (.sh .non)
    have c2 : mTst (mOp fIs (mVar 6) (mC .non)) ρ2 = some true := mTst_b (mOp_eq (x := .sh .non) (y := .sh .non) rfl rfl rfl)
    show mSeq (mIfS _ _ _) _ ρ2 = _
    have fo := full13_ok (s0 := .dead) (s2 := .dead) (s3 := .dead) (s5 := .dead) (s6 := .dead) M (t := w)
    rw [decide_eq_true ((full_iff W.hs W.pw).mpr he')] at fo
    unfold mSeq
    rw [mIfS_t c2]
    have e7 : mKill [0, 2, 3, 5, 6] (mRet (mOp fEq (mVar 4) (mLc (mRg1 (mCons (mOp fIx (mVar 1) (mC (.int 0))) mNil)) (mgName 7) mYes (mOp fMul (mLst (mCons (mOp fIx (mVar 1) (mC (.int 2))) mNil)) (mOp fIx (mVar 1) (mC (.int 1)))) [7]))) ρ2 = some (.rt (.d (.bl true))) :=
      mRet_d (ρ := E13 .dead s1 .dead .dead sW .dead .dead) fo rfl
    simp only [e7]
  | some p =>
    obtain ⟨i, j⟩ := p
    have hm : (i, j) ∈ putsL w r c h := List.mem_of_getLast? he
    unfold putsL at hm
    rw [List.mem_filter] at hm
    obtain ⟨hp, hp2⟩ := hm
    obtain ⟨hi, hj⟩ := mem_places.mp hp
    have hp2 : at2 w i j < mostv w h i j := of_decide_eq_true hp2
    let x := aft w r c i j
    have X : Tb r c h x := Tb.of (aft_pw W.pw hi hj hp2) (aft_hs T hi hj)
    have hlt : tabLt w x = true := after_lt T W.hs hi hj
    let sX : Sl := .tr (sTab x)
    have e6 : mSet 6 (mCall 2 (g_after A) (mCons (mVar 1) (mCons (mCall 1 (g__law_copy A) (mCons (mVar 4) mNil)) mNil))) ρ = some (.nx (E13 s0 s1 s2 s3 sW s5 sX)) :=
      mSet_z (mCall_t (rs := [.sh (dRoom r c h), .tr (sTab w)]) (two rfl cp) rfl (by simp only [List.map_cons, List.map_nil, R.data, sTab_data]; exact after_some M T lo he)) rfl
    refine .inr ⟨x, X, mSeq_n e6 ?_⟩
    let ρ2 := E13 .dead s1 s2 s3 sW .dead sX
    have c2 : mTst (mOp fIs (mVar 6) (mC .non)) ρ2 = some false := by
      refine mTst_b (mOp_eq (x := .vw (sTab x).data) (y := .sh .non) rfl rfl ?_)
      simp only [fIs, flat2, R.data, DL.isNon, sTab_data, dTab, if_true, Option.map_some]
    show mSeq (mIfS _ _ _) _ ρ2 = _
    refine mSeq_n (ρ1 := ρ2) (by rw [mIfS_f c2]; rfl) ?_
    have w4 : mVar 4 ρ2 = some (.vw (sTab w).data) := rfl
    have w6 : mVar 6 ρ2 = some (.vw (sTab x).data) := rfl
    have c4 : mTst (mOp fLtT (mVar 4) (mVar 6)) ρ2 = some true := by
      refine mTst_b ((mOp_eq w4 w6 (ltT_ok (sTab_data w) (sTab_data x))).trans ?_)
      rw [hlt]
    obtain ⟨i0, i1⟩ := two_at (ρ := ρ2) (t := t) (u := u) rfl
    let m := if tabLt t u = true then u else t
    have Bm : Tb r c h m := by
      show Tb r c h (if tabLt t u = true then u else t)
      split
      · exact C
      · exact B
    have bm : mCB gMaxT (mCons (mOp fIx (mVar 2) (mC (.int 0))) (mCons (mOp fIx (mVar 2) (mC (.int 1))) mNil)) ρ2 = some (.vw (dTab m)) := best_ok i0 i1 rfl rfl
    have c5 : mTst (mChT (mVar 4) (mCB gMaxT (mCons (mOp fIx (mVar 2) (mC (.int 0))) (mCons (mOp fIx (mVar 2) (mC (.int 1))) mNil))) (mVar 6)) ρ2 = some false := by
      rw [chT_ok w4 bm w6 (sTab_data w) rfl (sTab_data x)]
      congr 1
      cases h1 : tabLt w m
      · rfl
      · cases h2 : tabLt m x
        · rfl
        · exact (none_between T W.hs W.pw Bm.hs Bm.pw he hi hj h1 h2).elim
    have c6 : mAnd (mNot (mTru (mVar 3))) (mTst (mChT (mVar 4) (mCB gMaxT (mCons (mOp fIx (mVar 2) (mC (.int 0))) (mCons (mOp fIx (mVar 2) (mC (.int 1))) mNil))) (mVar 6))) ρ2 = some false := by
      cases b with
      | true => exact mAnd_f rfl
      | false => exact mAnd_t rfl c5
    refine mSeq_n (ρ1 := ρ2) ?_ rfl
    rw [mIfS_f (mOr_f (mNot_t c4) c6)]; rfl
theorem loop13 {r c h : Nat} (M : Rm r c h) {t u : List (List Int)} (B : Tb r c h t) (C : Tb r c h u) (b : Bool) : ∀ (ds : List D) (s0 : Sl) (w : List (List Int)), Tb r c h w →
    forGo true (mgName 5) (lBody A) [5, 6] ds (E13 s0 (.sh (dRoom r c h)) (sTwo t u) (.sh (.bl b)) (.tr (sTab w)) .dead .dead) = some (.rt (.d (.bl true))) ∨ ∃ ρ', forGo true (mgName 5) (lBody A) [5, 6] ds (E13 s0 (.sh (dRoom r c h)) (sTwo t u) (.sh (.bl b)) (.tr (sTab w)) .dead .dead) = some (.nx ρ')
  | [], s0, w, _ => .inr ⟨_, rfl⟩
  | d :: ds, s0, w, W => by
    have e : forGo true (mgName 5) (lBody A) [5, 6] (d :: ds) (E13 s0 (.sh (dRoom r c h)) (sTwo t u) (.sh (.bl b)) (.tr (sTab w)) .dead .dead) = (match lBody A (E13 s0 (.sh (dRoom r c h)) (sTwo t u) (.sh (.bl b)) (.tr (sTab w)) (.sh d) .dead) with
      | some (.nx ρ2) => forGo true (mgName 5) (lBody A) [5, 6] ds (killE [5, 6] ρ2)
      | some (.ct ρ2) => forGo true (mgName 5) (lBody A) [5, 6] ds (killE [5, 6] ρ2)
      | some (.bk ρ2) => some (.nx ρ2)
      | o => o) := rfl
    rw [e]
    rcases step_ok (A := A) M B C W s0 (.sh d) b with q | ⟨w', W', q⟩
    · rw [q]; exact .inl rfl
    · rw [q]
      exact loop13 M B C b ds .dead w' W'
theorem law_true (ns : List Int) (hns : ns.length ≤ 63) : g_law A [.scr ns] = some (.ret (.d (.bl true))) := by
  obtain ⟨r, c, h, M, hroom⟩ := room13_ok (A := A) (ns.headD 0)
  have hr := M.r; have hc := M.c; have hh := M.h
  obtain ⟨t, u, B, C, htwo⟩ := law_two_ok (A := A) M hns
  obtain ⟨v2, hv2⟩ := law_of_any (A := A) ns hns 2
  refine run1 ?_
  let d : Sl := .dead
  let s0 : Sl := .sh (.scr ns)
  let s1 : Sl := .sh (dRoom r c h)
  let s2 := sTwo t u
  let b := decide (t = u)
  let s3 : Sl := .sh (.bl b)
  show m_law A (E13 s0 d d d d d d) = _
  have e1 : mSet 1 (mCall 1 (g__law_room A) (mCons (mCall 2 (g__law_of A) (mCons (mVar 0) (mCons (mC (.int 0)) mNil))) mNil)) (E13 s0 d d d d d d) = some (.nx (E13 s0 s1 d d d d d)) :=
    mSet_d (mCall_d (rs := [.sh (.int (ns.headD 0))]) (one (mCall_d (rs := [.sh (.scr ns), .sh (.int 0)]) (two rfl rfl) rfl (law_of_ok ns))) rfl hroom)
  have e2 : mSet 2 (mCall 2 (g__law_two A) (mCons (mVar 0) (mCons (mVar 1) mNil))) (E13 s0 s1 d d d d d) = some (.nx (E13 s0 s1 s2 d d d d)) :=
    mSet_z (mCall_t (rs := [.sh (.scr ns), .sh (dRoom r c h)]) (two rfl rfl) rfl htwo) rfl
  let ρ2 := E13 s0 s1 s2 d d d d
  let ρ3 := E13 s0 s1 s2 s3 d d d
  obtain ⟨i0, i1⟩ := two_at (ρ := ρ2) (t := t) (u := u) rfl
  obtain ⟨j0, j1⟩ := two_at (ρ := ρ3) (t := t) (u := u) rfl
  have back : ∀ {m : ME} {x : List (List Int)}, m ρ2 = some (.vw (dTab x)) → Tb r c h x → mTst (mCall 2 (g__law_back A) (mCons (mVar 1) (mCons m mNil))) ρ2 = some true := fun hm X =>
    mTst_b (mCall_d (rs := [.sh (dRoom r c h), .vw (dTab _)]) (two rfl hm) rfl (law_back_ok M X))
  have e3 : mSet 3 (mOp fEq (mOp fIx (mVar 2) (mC (.int 0))) (mOp fIx (mVar 2) (mC (.int 1)))) ρ2 = some (.nx ρ3) := by
    refine mSet_d (mOp_eq i0 i1 ?_)
    simp [fEq, flat2, R.data, gEq_tab, b]
  have call_l : ∀ {m : ME} {x : List (List Int)}, m ρ3 = some (.vw (dTab x)) → Tb r c h x → mCall 2 (g_lanes_of A) (mCons (mVar 1) (mCons m mNil)) ρ3 = some (.tr (sTx (lanesT x h))) := fun hm X =>
    mCall_t (rs := [.sh (dRoom r c h), .vw (dTab _)]) (two rfl hm) rfl (lanesOf_ok M X.fl X.hs.len)
  have call_f : ∀ {m : ME} {x : List (List Int)}, m ρ3 = some (.vw (dTab x)) → Tb r c h x → mCall 2 (g_floor_of A) (mCons (mVar 1) (mCons m mNil)) ρ3 = some (.tr (sTri (floorK r c h x))) := fun hm X =>
    mCall_t (rs := [.sh (dRoom r c h), .vw (dTab _)]) (two rfl hm) rfl (floor_ok M X.fl X.hs.len)
  have call_c : ∀ {m : ME} {x : List (List Int)}, m ρ3 = some (.vw (dTab x)) → Tb r c h x → mCall 2 (g_climb A) (mCons (mVar 1) (mCons m mNil)) ρ3 = some (.tr (.own ((allL x r c h).map fun p => .d (dP p)))) := fun hm X =>
    mCall_t (rs := [.sh (dRoom r c h), .vw (dTab _)]) (two rfl hm) rfl (climb_ok M X.tab)
  have ne : ∀ {m : ME} {a : Bool}, m ρ3 = some (.sh (.bl a)) → a = b → mIfS (mTst (mOp fNe m (mVar 3))) (mRet (mC (.bl false))) mNext ρ3 = some (.nx ρ3) := fun {m a} hm ha => by
    have c1 : mTst (mOp fNe m (mVar 3)) ρ3 = some false := by
      refine mTst_b ((mOp_eq hm (y := .sh (.bl b)) rfl (fNe_bl a b)).trans ?_)
      rw [ha]; simp
    rw [mIfS_f c1]; rfl
  refine mSeq_n e1 (mSeq_n e2 (mSeq_n (ρ1 := ρ2) ?_ (mSeq_n e3 (mSeq_n (ne (a := decide (lanesT t h = lanesT u h)) (mOp_eq (call_l j0 B) (call_l j1 C) ?_) ?_) (mSeq_n (ne (a := decide (floorK r c h t = floorK r c h u)) (mOp_eq (call_f j0 B) (call_f j1 C) ?_) ?_) (mSeq_n (ne (a := decide (allL t r c h = allL u r c h)) (mOp_eq (call_c j0 B) (call_c j1 C) ?_) ?_) ?_))))))
  · rw [mIfS_f (mOr_f (mNot_t (back i0 B)) (mNot_t (back i1 C)))]; rfl
  · simp only [fEq, flat2, R.data, sTx_data, gEq_txs false (lanesT_small t h) (lanesT_small u h), Option.map_some]; rfl
  · exact decide_eq_decide.mpr (lanes_iff B C)
  · simp only [fEq, flat2, R.data, sTri_data, gEq_tris false (kinds_ok floor_kind) (kinds_ok floor_kind), Option.map_some]; rfl
  · exact decide_eq_decide.mpr (floor_iff A M B C)
  · have q : ∀ x, (S.own ((allL x r c h).map fun p => S.d (dP p))).data = .lst ((allL x r c h).map dP) := fun x => congrArg D.lst (dP_data _)
    simp only [fEq, flat2, R.data, q, gEq_pls, Option.map_some]
  · exact decide_eq_decide.mpr (climb_iff B C)
  · let w := if tabLt u t = true then u else t
    have W : Tb r c h w := by
      show Tb r c h (if tabLt u t = true then u else t)
      split
      · exact C
      · exact B
    have bm : mCB gMinT (mCons (mOp fIx (mVar 2) (mC (.int 0))) (mCons (mOp fIx (mVar 2) (mC (.int 1))) mNil)) ρ3 = some (.vw (dTab w)) := best_ok j0 j1 rfl rfl
    let sW : Sl := .tr (sTab w)
    have e4 : mSet 4 (mCall 1 (g__law_copy A) (mCons (mCB gMinT (mCons (mOp fIx (mVar 2) (mC (.int 0))) (mCons (mOp fIx (mVar 2) (mC (.int 1))) mNil))) mNil)) ρ3 = some (.nx (E13 s0 s1 s2 s3 sW d d)) :=
      mSet_z (copy_c bm rfl (by rw [W.hs.len]; omega)) rfl
    refine mSeq_n e4 ?_
    let ρ4 := E13 s0 s1 s2 s3 sW d d
    have q0 : mOp fMod (mCall 2 (g__law_of A) (mCons (mVar 0) (mCons (mC (.int 2)) mNil))) (mC (.int 4)) ρ4 = some (.sh (.int (v2 % 4))) :=
      mOp_eq (mCall_d (rs := [.sh (.scr ns), .sh (.int 2)]) (two rfl rfl) rfl hv2) (y := .sh (.int 4)) rfl (fMod_ok rfl rfl (by decide))
    obtain ⟨k, hk, ek⟩ := emod_at v2 4 (by decide)
    have ek : v2 % 4 = k := ek
    rw [ek] at q0
    have q1 := mRg1_eval (one q0) rfl (by omega)
    have ef : (mKill [5, 6] (mSeq (mFor (mRg1 (mCons (mOp fMod (mCall 2 (g__law_of A) (mCons (mVar 0) (mCons (mC (.int 2)) mNil))) (mC (.int 4))) mNil)) (mgName 5) (lBody A) [5, 6]) (mRet (mC (.bl true))))) ρ4 = some (.rt (.d (.bl true))) := by
      show mSeq _ _ ρ4 = _
      unfold mSeq
      rw [mFor_eq q1]
      rcases loop13 (A := A) M B C b (rg 0 k) s0 w W with h1 | ⟨ρ', h1⟩
      · rw [h1]
      · rw [h1]; rfl
    exact ef
theorem ok_end {P : Program} {w : World} {K : PySem.W.Frag} {mg : Str → Option Value} {base : Heap} {A : Ad} (T : Txt K mg A) : FnOk P w K mg base (L2.CX P w) 10 A.a_law A.d_law ["_law_script"] (DL.spLaw K) := law_end (ok_law T) law_true
end My

open PySem PySem.W PyProof.Rows
set_option maxHeartbeats 0 in
theorem PySem.Challenge.cw_boxheap_k13_whole_three_ways_holds : PySem.Challenge.rw_boxheap_k13_whole_three_ways.Holds := by
  w_on; o_law; k_head; (case hw => w_witness2)
  k_fill
  refine L2.walk_of (l := PySem.Challenge.rw_boxheap_k13_whole_three_ways) (n := 63) (k := 10) (x := "_law_script") (CX := fun w => L2.CX PySem.Challenge.pw_boxheap_k13_whole_three_ways w) (sp := fun w => DL.spLaw _) rfl (by decide) rfl ⟨rfl, by decide, by decide⟩ (fun w h Y => PySem.W.kIn_of Y) ?F (fun _ _ a ns hl _ hS => ⟨ns, .cons (.scr hS hl) .nil, rfl, hl, fun _ => rfl⟩) (fun w _ _ _ _ h => DL.noExc h)
  case F =>
    intro w mg fa h KX G hmg
    refine' Exists.elim (My.all_mk (l := PySem.Challenge.rw_boxheap_k13_whole_three_ways) (w := w) KX G hmg ?a0 ?l0 ?c0 ?k0 ?a1 ?l1 ?c1 ?k1 ?a2 ?l2 ?c2 ?k2 ?a3 ?l3 ?c3 ?k3 ?a4 ?l4 ?c4 ?k4 ?a5 ?l5 ?c5 ?k5 ?a6 ?l6 ?c6 ?k6 ?a7 ?l7 ?c7 ?k7 ?a8 ?l8 ?c8 ?k8 ?a9 ?l9 ?c9 ?k9 ?a10 ?l10 ?c10 ?k10 ?a11 ?l11 ?c11 ?k11 ?a12 ?l12 ?c12 ?k12 ?a13 ?l13 ?c13 ?k13 ?a14 ?l14 ?c14 ?k14 ?a15 ?l15 ?c15 ?k15 ?a16 ?l16 ?c16 ?k16 ?a17 ?l17 ?c17 ?k17 ?a18 ?l18 ?c18 ?k18 ?a19 ?l19 ?c19 ?k19 ?a20 ?l20 ?c20 ?k20 ?a21 ?l21 ?c21 ?k21 ?a22 ?l22 ?c22 ?k22 ?a23 ?l23 ?c23 ?k23 ?a24 ?l24 ?c24 ?k24 ?a25 ?l25 ?c25 ?k25 ?a26 ?l26 ?c26 ?k26 ?a27 ?l27 ?c27 ?k27 ?a28 ?l28 ?c28 ?k28 ?a29 ?l29 ?c29 ?k29 ?a30 ?l30 ?c30 ?k30 ?a31 ?l31 ?c31 ?k31 ?a32 ?l32 ?c32 ?k32 ?a33 ?l33 ?c33 ?k33 ?a34 ?l34 ?c34 ?k34 ?a35 ?l35 ?c35 ?k35 ?a36 ?l36 ?c36 ?k36 ?xa_NoRoom ?xq_NoRoom ?xk_NoRoom ?xb_NoRoom ?xt_NoRoom ?xa_NoTable ?xq_NoTable ?xk_NoTable ?xb_NoTable ?xt_NoTable ?xa_NoLanes ?xq_NoLanes ?xk_NoLanes ?xb_NoLanes ?xt_NoLanes ?xa_NoFloor ?xq_NoFloor ?xk_NoFloor ?xb_NoFloor ?xt_NoFloor ?ca_MOST ?cl_MOST ?ca_KINDS ?cl_KINDS ?z_all ?z_bool ?z_enumerate ?z_int ?z_isinstance ?z_len ?z_list ?z_max ?z_min ?z_range ?z_sorted ?z_str ?z_tuple ?z_zip) ?fin
    (case a0 => k_is)
    (case l0 => k_is)
    (case c0 => k_is)
    (case k0 => k_is)
    (case a1 => k_is)
    (case l1 => k_is)
    (case c1 => k_is)
    (case k1 => k_is)
    (case a2 => k_is)
    (case l2 => k_is)
    (case c2 => k_is)
    (case k2 => k_is)
    (case a3 => k_is)
    (case l3 => k_is)
    (case c3 => k_is)
    (case k3 => k_is)
    (case a4 => k_is)
    (case l4 => k_is)
    (case c4 => k_is)
    (case k4 => k_is)
    (case a5 => k_is)
    (case l5 => k_is)
    (case c5 => k_is)
    (case k5 => k_is)
    (case a6 => k_is)
    (case l6 => k_is)
    (case c6 => k_is)
    (case k6 => k_is)
    (case a7 => k_is)
    (case l7 => k_is)
    (case c7 => k_is)
    (case k7 => k_is)
    (case a8 => k_is)
    (case l8 => k_is)
    (case c8 => k_is)
    (case k8 => k_is)
    (case a9 => k_is)
    (case l9 => k_is)
    (case c9 => k_is)
    (case k9 => k_is)
    (case a10 => k_is)
    (case l10 => k_is)
    (case c10 => k_is)
    (case k10 => k_is)
    (case a11 => k_is)
    (case l11 => k_is)
    (case c11 => k_is)
    (case k11 => k_is)
    (case a12 => k_is)
    (case l12 => k_is)
    (case c12 => k_is)
    (case k12 => k_is)
    (case a13 => k_is)
    (case l13 => k_is)
    (case c13 => k_is)
    (case k13 => k_is)
    (case a14 => k_is)
    (case l14 => k_is)
    (case c14 => k_is)
    (case k14 => k_is)
    (case a15 => k_is)
    (case l15 => k_is)
    (case c15 => k_is)
    (case k15 => k_is)
    (case a16 => k_is)
    (case l16 => k_is)
    (case c16 => k_is)
    (case k16 => k_is)
    (case a17 => k_is)
    (case l17 => k_is)
    (case c17 => k_is)
    (case k17 => k_is)
    (case a18 => k_is)
    (case l18 => k_is)
    (case c18 => k_is)
    (case k18 => k_is)
    (case a19 => k_is)
    (case l19 => k_is)
    (case c19 => k_is)
    (case k19 => k_is)
    (case a20 => k_is)
    (case l20 => k_is)
    (case c20 => k_is)
    (case k20 => k_is)
    (case a21 => k_is)
    (case l21 => k_is)
    (case c21 => k_is)
    (case k21 => k_is)
    (case a22 => k_is)
    (case l22 => k_is)
    (case c22 => k_is)
    (case k22 => k_is)
    (case a23 => k_is)
    (case l23 => k_is)
    (case c23 => k_is)
    (case k23 => k_is)
    (case a24 => k_is)
    (case l24 => k_is)
    (case c24 => k_is)
    (case k24 => k_is)
    (case a25 => k_is)
    (case l25 => k_is)
    (case c25 => k_is)
    (case k25 => k_is)
    (case a26 => k_is)
    (case l26 => k_is)
    (case c26 => k_is)
    (case k26 => k_is)
    (case a27 => k_is)
    (case l27 => k_is)
    (case c27 => k_is)
    (case k27 => k_is)
    (case a28 => k_is)
    (case l28 => k_is)
    (case c28 => k_is)
    (case k28 => k_is)
    (case a29 => k_is)
    (case l29 => k_is)
    (case c29 => k_is)
    (case k29 => k_is)
    (case a30 => k_is)
    (case l30 => k_is)
    (case c30 => k_is)
    (case k30 => k_is)
    (case a31 => k_is)
    (case l31 => k_is)
    (case c31 => k_is)
    (case k31 => k_is)
    (case a32 => k_is)
    (case l32 => k_is)
    (case c32 => k_is)
    (case k32 => k_is)
    (case a33 => k_is)
    (case l33 => k_is)
    (case c33 => k_is)
    (case k33 => k_is)
    (case a34 => k_is)
    (case l34 => k_is)
    (case c34 => k_is)
    (case k34 => k_is)
    (case a35 => k_is)
    (case l35 => k_is)
    (case c35 => k_is)
    (case k35 => k_is)
    (case a36 => k_is)
    (case l36 => k_is)
    (case c36 => k_is)
    (case k36 => k_is)
    (case xa_NoRoom => k_is)
    (case xq_NoRoom => k_exc)
    (case xk_NoRoom => k_is)
    (case xb_NoRoom => k_is)
    (case xt_NoRoom => k_is)
    (case xa_NoTable => k_is)
    (case xq_NoTable => k_exc)
    (case xk_NoTable => k_is)
    (case xb_NoTable => k_is)
    (case xt_NoTable => k_is)
    (case xa_NoLanes => k_is)
    (case xq_NoLanes => k_exc)
    (case xk_NoLanes => k_is)
    (case xb_NoLanes => k_is)
    (case xt_NoLanes => k_is)
    (case xa_NoFloor => k_is)
    (case xq_NoFloor => k_exc)
    (case xk_NoFloor => k_is)
    (case xb_NoFloor => k_is)
    (case xt_NoFloor => k_is)
    (case ca_MOST => k_is)
    (case cl_MOST => k_is)
    (case ca_KINDS => k_is)
    (case cl_KINDS => k_is)
    (case z_all => k_is)
    (case z_bool => k_is)
    (case z_enumerate => k_is)
    (case z_int => k_is)
    (case z_isinstance => k_is)
    (case z_len => k_is)
    (case z_list => k_is)
    (case z_max => k_is)
    (case z_min => k_is)
    (case z_range => k_is)
    (case z_sorted => k_is)
    (case z_str => k_is)
    (case z_tuple => k_is)
    (case z_zip => k_is)
    (case fin => intro A hA; obtain ⟨fd, T, rfl, rfl, hb⟩ := hA; exact ⟨A.d_law, hb, fun base _ _ => My.ok_end T⟩)

