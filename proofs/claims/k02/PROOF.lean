import PyProof.Rows.All
import Wide.All
import OpenK.AllK
import Wide.FinOn
import HandS.ForMost
import HandS.ForExc
import HandS.Evl
import HandS.IsInst
import HandS.Zip
import HandS.Wide
import HandS.Flow
import HandS.Star
import PyProof.TypeEq
import KE.KTupSum
import HandS.HotCalls
import HandS.ExcIs
import HandS.SuiteRaise
import HandS.TupMul
import KE.KEqNest
import KE.KEqDict
import PyProof.NeKinds
import PySem.Challenge.RW_veiled_k02_tables_known
set_option Elab.async false
set_option linter.all false
set_option maxRecDepth 100000
set_option maxHeartbeats 2000000
/-! Data: a value stands for a tree of plain data in a part of the heap that is known; what an expression, a test, a statement comes to, told over such data alone. -/
namespace DL
open PySem PySem.Spec PyProof.Rows L2 Evl
set_option autoImplicit false
abbrev St := L2.St
/-- the written part -/
class Kn where
  K : PySem.W.Frag
abbrev KK [i : Kn] : PySem.W.Frag := i.K
variable [Kn]

/-! ### two known parts together -/
def HU (A B : Hp) : Hp := fun a => match A a with
  | some o => some o
  | none => B a
theorem hu_l (A B : Hp) : Ex A (HU A B) := fun a o e => by
  unfold HU
  rw [e]
theorem hu_r {A B H : Hp} (ha : Ex A H) (hb : Ex B H) : Ex B (HU A B) := fun a o e => by
  unfold HU
  cases h : A a with
  | none => exact e
  | some u' =>
    have h1 := ha a u' h
    have h2 := hb a o e
    rw [h1] at h2
    exact h2
theorem hu_in {A B H : Hp} (ha : Ex A H) (hb : Ex B H) : Ex (HU A B) H := fun a o e => by
  unfold HU at e
  cases h : A a with
  | none =>
    rw [h] at e
    exact hb a o e
  | some u' =>
    rw [h] at e
    cases e
    exact ha a _ h
theorem hu_reg {A B : Hp} {a : Addr} (h : HU A B a ≠ none) : A a ≠ none ∨ B a ≠ none := by
  unfold HU at h
  cases e : A a with
  | none =>
    rw [e] at h
    exact .inr h
  | some u' => exact .inl (by intro z; cases z)

/-! ### what a value stands for -/
mutual
inductive Rp (N : Hp) : V → PyData → Prop
  | non : Rp N .non .none
  | bl (b : Bool) : Rp N (.bl b) (.bool b)
  | int (i : Int) : Rp N (.int i) (.int i)
  | str (x : Str) : Rp N (.str x) (.str x)
  | lst {a : Addr} {xs : List V} {ds : List PyData} : SqL KK N a xs → RpAll N xs ds → Rp N (.ref a) (.list ds)
  | tup {a : Addr} {xs : List V} {ds : List PyData} : Rd N a (.tup xs) → RpAll N xs ds → Rp N (.ref a) (.tuple ds)
  | dct {a : Addr} {kvs : List (Key × V)} {ds : List (PyData × PyData)} : N a = some (.dK kvs) → RpD N kvs ds → Rp N (.ref a) (.dict ds)
inductive RpAll (N : Hp) : List V → List PyData → Prop
  | nil : RpAll N [] []
  | cons {v : V} {vs : List V} {d : PyData} {ds : List PyData} : Rp N v d → RpAll N vs ds → RpAll N (v :: vs) (d :: ds)
inductive RpD (N : Hp) : List (Key × V) → List (PyData × PyData) → Prop
  | nil : RpD N [] []
  | cons {k : Key} {v : V} {kvs : List (Key × V)} {dk d : PyData} {ds : List (PyData × PyData)} : Rp N (kV k) dk → Rp N v d → RpD N kvs ds → RpD N ((k, v) :: kvs) ((dk, d) :: ds)
end
mutual
theorem Rp.mono {N N' : Hp} (e : Ex N N') : ∀ {v : V} {d : PyData}, Rp N v d → Rp N' v d
  | _, _, .non => .non
  | _, _, .bl b => .bl b
  | _, _, .int i => .int i
  | _, _, .str x => .str x
  | _, _, .lst h r => .lst (ex_l e h) (RpAll.mono e r)
  | _, _, .tup h r => .tup (ex_rd e h) (RpAll.mono e r)
  | _, _, .dct h r => .dct (e _ _ h) (RpD.mono e r)
theorem RpAll.mono {N N' : Hp} (e : Ex N N') : ∀ {vs : List V} {ds : List PyData}, RpAll N vs ds → RpAll N' vs ds
  | _, _, .nil => .nil
  | _, _, .cons h r => .cons (Rp.mono e h) (RpAll.mono e r)
theorem RpD.mono {N N' : Hp} (e : Ex N N') : ∀ {vs : List (Key × V)} {ds : List (PyData × PyData)}, RpD N vs ds → RpD N' vs ds
  | _, _, .nil => .nil
  | _, _, .cons h h2 r => .cons (Rp.mono e h) (Rp.mono e h2) (RpD.mono e r)
end
section
variable {N : Hp}
theorem RpAll.length : ∀ {vs : List V} {ds : List PyData}, RpAll N vs ds → vs.length = ds.length
  | _, _, .nil => rfl
  | _, _, .cons _ r => by
    show _ + 1 = _ + 1
    rw [RpAll.length r]
theorem RpAll.get : ∀ {vs : List V} {ds : List PyData} {i : Nat} {d : PyData}, RpAll N vs ds → ds[i]? = some d → ∃ v, vs[i]? = some v ∧ Rp N v d
  | _, _, _, _, .nil, h => by simp at h
  | _, _, 0, _, .cons h _, e => by
    have e' := Option.some.inj e
    subst e'
    exact ⟨_, rfl, h⟩
  | _, _, i + 1, _, .cons _ r, e => RpAll.get (i := i) r e
theorem RpAll.getV : ∀ {vs : List V} {ds : List PyData} {i : Nat} {v : V}, RpAll N vs ds → vs[i]? = some v → ∃ d, ds[i]? = some d ∧ Rp N v d
  | _, _, _, _, .nil, h => by simp at h
  | _, _, 0, _, .cons h _, e => by
    have e' := Option.some.inj e
    subst e'
    exact ⟨_, rfl, h⟩
  | _, _, i + 1, _, .cons _ r, e => RpAll.getV (i := i) r e
theorem RpAll.append : ∀ {vs ws : List V} {ds es : List PyData}, RpAll N vs ds → RpAll N ws es → RpAll N (vs ++ ws) (ds ++ es)
  | _, _, _, _, .nil, h => h
  | _, _, _, _, .cons h r, g => .cons h (RpAll.append r g)
theorem RpAll.take : ∀ {vs : List V} {ds : List PyData} (n : Nat), RpAll N vs ds → RpAll N (vs.take n) (ds.take n)
  | _, _, 0, _ => .nil
  | _, _, _ + 1, .nil => .nil
  | _, _, n + 1, .cons h r => .cons h (RpAll.take n r)
theorem RpAll.drop : ∀ {vs : List V} {ds : List PyData} (n : Nat), RpAll N vs ds → RpAll N (vs.drop n) (ds.drop n)
  | _, _, 0, h => h
  | _, _, _ + 1, .nil => .nil
  | _, _, n + 1, .cons h r => RpAll.drop n r
theorem RpAll.one {v : V} {d : PyData} (h : Rp N v d) : RpAll N [v] [d] := .cons h .nil
/-- ints -/
theorem RpAll.ints : ∀ (ns : List Int), RpAll N (ns.map V.int) (ns.map PyData.int)
  | [] => .nil
  | n :: r => .cons (.int n) (RpAll.ints r)
theorem RpAll.ofInts : ∀ {vs : List V} {ns : List Int}, RpAll N vs (ns.map PyData.int) → vs = ns.map V.int
  | _, [], .nil => rfl
  | _, n :: r, .cons h t => by
    cases h
    rw [RpAll.ofInts t]
    rfl
theorem RpAll.ofBools : ∀ {vs : List V} {ns : List Bool}, RpAll N vs (ns.map PyData.bool) → vs = ns.map V.bl
  | _, [], .nil => rfl
  | _, n :: r, .cons h t => by
    cases h
    rw [RpAll.ofBools t]
    rfl
end

/-! plain: without dicts -/
mutual
def noDict : PyData → Bool
  | .dict _ => false
  | .list ds => noDictAll ds
  | .tuple ds => noDictAll ds
  | _ => true
def noDictAll : List PyData → Bool
  | [] => true
  | d :: ds => noDict d && noDictAll ds
end
theorem seq_of_rd {K : PySem.W.Frag} {H : Hp} {a : Addr} {xs : List V} (h : Rd H a (.lst xs)) : SqL K H a xs := Or.inl h
theorem set_of_rd {K : PySem.W.Frag} {H : Hp} {a : Addr} {xs : List V} (h : Rd H a (.tup xs)) : SqT K H a xs := Or.inl h
mutual
theorem Rp.dp {N : Hp} : ∀ {v : V} {d : PyData}, Rp N v d → noDict d = true → Dp KK N v d
  | _, _, .non, _ => .non
  | _, _, .bl b, _ => .bl b
  | _, _, .int i, _ => .int i
  | _, _, .str x, _ => .str x
  | _, _, .lst h r, n => .lst h (RpAll.dp r (by simpa [noDict] using n))
  | _, _, .tup h r, n => .tup (set_of_rd h) (RpAll.dp r (by simpa [noDict] using n))
  | _, _, .dct h r, n => by simp [noDict] at n
theorem RpAll.dp {N : Hp} : ∀ {vs : List V} {ds : List PyData}, RpAll N vs ds → noDictAll ds = true → DpAll KK N vs ds
  | _, _, .nil, _ => .nil
  | _, _, .cons h r, n => by
    have n' := (Bool.and_eq_true _ _).mp (show (noDict _ && noDictAll _) = true from n)
    exact .cons (Rp.dp h n'.1) (RpAll.dp r n'.2)
end

/-! ### what stands in the slots -/
abbrev De := List (Option PyData)
def Reg (N H N' : Hp) : Prop := ∀ a, N' a ≠ none → N a ≠ none ∨ H a = none
theorem Reg.refl {N H : Hp} : Reg N H N := fun _ h => .inl h
theorem ex_none {H H' : Hp} (e : Ex H H') {a : Addr} (h : H' a = none) : H a = none := fresh_back e h
theorem Reg.trans {N H N1 H1 N2 : Hp} (h1 : Reg N H N1) (e : Ex H H1) (h2 : Reg N1 H1 N2) : Reg N H N2 := fun a h =>
  (h2 a h).elim (fun z => h1 a z) fun z => .inr (ex_none e z)
theorem Reg.new {N H H1 : Hp} {p : Addr} {o : HO} (e : Ex H H1) (hp : H1 p = none) (r : Reg N H N) : Reg N H (upd N p o) := fun a h => by
  by_cases z : a = p
  · subst z
    exact .inr (ex_none e hp)
  · rw [upd_ne z] at h
    exact .inl h
structure Holds (N : Hp) (σ : St) (ds : De) : Prop where
  len : σ.length = ds.length
  at_ : ∀ (i : Nat) (d : PyData), ds[i]? = some (some d) → ∃ v, σ[i]? = some (some v) ∧ Rp N v d
section
variable {N N' : Hp} {σ : St} {ds : De}
theorem Holds.mono (e : Ex N N') (h : Holds N σ ds) : Holds N' σ ds := ⟨h.len, fun i d q => by
  obtain ⟨v, e1, r⟩ := h.at_ i d q
  exact ⟨v, e1, r.mono e⟩⟩
theorem Holds.set (h : Holds N σ ds) {v : V} {d : PyData} (r : Rp N v d) (j : Nat) : Holds N (σ.set j (some v)) (ds.set j (some d)) := ⟨by rw [List.length_set, List.length_set, h.len], fun i e q => by
  by_cases z : j = i
  · subst z
    by_cases hj : j < ds.length
    · rw [List.getElem?_set_self hj] at q
      have q' := Option.some.inj (Option.some.inj q)
      subst q'
      exact ⟨v, by rw [List.getElem?_set_self (by rw [h.len]; exact hj)], r⟩
    · rw [List.getElem?_eq_none (by rw [List.length_set]; omega)] at q
      cases q
  · rw [List.getElem?_set_ne z] at q
    obtain ⟨u, e1, r1⟩ := h.at_ i e q
    exact ⟨u, by rw [List.getElem?_set_ne z]; exact e1, r1⟩⟩
theorem Holds.unset (h : Holds N σ ds) (j : Nat) : Holds N (σ.set j none) (ds.set j none) := ⟨by rw [List.length_set, List.length_set, h.len], fun i e q => by
  by_cases z : j = i
  · subst z
    by_cases hj : j < ds.length
    · rw [List.getElem?_set_self hj] at q
      cases q
    · rw [List.getElem?_eq_none (by rw [List.length_set]; omega)] at q
      cases q
  · rw [List.getElem?_set_ne z] at q
    obtain ⟨u, e1, r1⟩ := h.at_ i e q
    exact ⟨u, by rw [List.getElem?_set_ne z]; exact e1, r1⟩⟩
end
def wipeD (ds : De) : List Nat → De
  | [] => ds
  | v :: vs => (wipeD ds vs).set v none
theorem Holds.wipe {N : Hp} {σ : St} {ds : De} (h : Holds N σ ds) : ∀ vs : List Nat, Holds N (wipe σ vs) (wipeD ds vs)
  | [] => h
  | v :: vs => (Holds.wipe h vs).unset v
theorem wipe1 (σ : St) (j : Nat) (x : V) : wipe ((wipe σ [j]).set j (some x)) [j] = wipe σ [j] := by
  show ((σ.set j none).set j (some x)).set j none = σ.set j none
  rw [List.set_set, List.set_set]
theorem wipe2 (σ : St) (j k : Nat) (hjk : j ≠ k) (x y : V) : wipe (((wipe σ [j, k]).set j (some x)).set k (some y)) [j, k] = wipe σ [j, k] := by
  show (((((σ.set k none).set j none).set j (some x)).set k (some y)).set k none).set j none = (σ.set k none).set j none
  rw [List.set_set, List.set_set, List.set_comm _ _ (Ne.symm hjk), List.set_set, List.set_comm _ _ hjk, List.set_set]
/-- fewer things known -/
def Le (ds' ds : De) : Prop := ds'.length = ds.length ∧ ∀ (i : Nat) (d : PyData), ds'[i]? = some (some d) → ds[i]? = some (some d)
theorem Le.refl (ds : De) : Le ds ds := ⟨rfl, fun _ _ h => h⟩
theorem Holds.le {N : Hp} {σ : St} {ds ds' : De} (h : Holds N σ ds) (l : Le ds' ds) : Holds N σ ds' := ⟨by rw [h.len, l.1], fun i d e => h.at_ i d (l.2 i d e)⟩

/-! ### judgements -/
/-- te comes to d -/
def EvD (te : TE) (σ : St) (N : Hp) (d : PyData) : Prop := ∀ H, Ex N H → ∀ Q : VK, (∀ v H' N', Ex H H' → Ex N N' → Ex N' H' → Reg N H N' → Rp N' v d → Q v H') → te σ H Q
def EvE (te : TE) (ds : De) (d : PyData) : Prop := ∀ σ N, Holds N σ ds → EvD te σ N d
def EvB (tt : TT) (ds : De) (b : Bool) : Prop := ∀ σ N, Holds N σ ds → ∀ H, Ex N H → ∀ Q : Bool → Hp → Prop, (∀ H', Ex H H' → Q b H') → tt σ H Q
def EvAs (ta : TA) (ds : De) (es : List PyData) : Prop := ∀ σ N, Holds N σ ds → ∀ H, Ex N H → ∀ Q : List V → Hp → Prop, (∀ vs H' N', Ex H H' → Ex N N' → Ex N' H' → Reg N H N' → RpAll N' vs es → Q vs H') → ta σ H Q

section
variable {ds : De} {ta tb tc : TE} {d e : PyData}
theorem ev_var {i : Nat} (h : ds[i]? = some (some d)) : EvE (tVar i) ds d := fun σ N hs H eN Q q => by
  obtain ⟨v, e1, r⟩ := hs.at_ i d h
  exact ⟨v, e1, q v H N (Ex.refl H) (Ex.refl N) eN Reg.refl r⟩
theorem ev_const {v : V} (h : ∀ N, Rp N v d) : EvE (tC v) ds d := fun σ N hs H eN Q q => q v H N (Ex.refl H) (Ex.refl N) eN Reg.refl (h N)
theorem ev_int {i : Int} : EvE (tC (.int i)) ds (.int i) := ev_const fun _ => .int i
theorem ev_bl {b : Bool} : EvE (tC (.bl b)) ds (.bool b) := ev_const fun _ => .bl b
theorem ev_non : EvE (tC .non) ds .none := ev_const fun _ => .non
theorem ev_str {x : Str} : EvE (tC (.str x)) ds (.str x) := ev_const fun _ => .str x
/-- an operation by its values -/
theorem ev_op {r : R2} {z : PyData} (ha : EvE ta ds d) (hb : EvE tb ds e)
    (hr : ∀ x y N H, Ex N H → Rp N x d → Rp N y e → ∀ Q : VK, (∀ v H' N', Ex H H' → Ex N N' → Ex N' H' → Reg N H N' → Rp N' v z → Q v H') → r x y H Q) : EvE (tOp r ta tb) ds z := fun σ N hs H eN Q q =>
  ha σ N hs H eN _ fun x H1 N1 e1 n1 k1 g1 r1 => hb σ N1 (hs.mono n1) H1 k1 _ fun y H2 N2 e2 n2 k2 g2 r2 =>
    hr x y N2 H2 k2 (r1.mono n2) r2 _ fun v H3 N3 e3 n3 k3 g3 r3 => q v H3 N3 ((e1.trans e2).trans e3) ((n1.trans n2).trans n3) k3 ((g1.trans e1 g2).trans (e1.trans e2) g3) r3
/-- .. a plain value comes out -/
theorem ev_opV {r : R2} {z : PyData} {v : V} (ha : EvE ta ds d) (hb : EvE tb ds e) (hz : ∀ N, Rp N v z)
    (hr : ∀ x y N H, Ex N H → Rp N x d → Rp N y e → ∀ Q : VK, Q v H → r x y H Q) : EvE (tOp r ta tb) ds z :=
  ev_op ha hb fun x y N H eN rx ry Q q => hr x y N H eN rx ry Q (q v H N (Ex.refl H) (Ex.refl N) eN Reg.refl (hz N))
theorem ev_I0 {g : Int → Int → V} {z : PyData} {i j : Int} (ha : EvE ta ds (.int i)) (hb : EvE tb ds (.int j)) (hz : ∀ N, Rp N (g i j) z) : EvE (tOp (rI0 g) ta tb) ds z :=
  ev_opV ha hb hz fun x y N H _ rx ry Q q => by
    cases rx
    cases ry
    exact ⟨i, j, rfl, rfl, q⟩
theorem ev_I {C : Int → Int → Prop} {g : Int → Int → V} {z : PyData} {i j : Int} (ha : EvE ta ds (.int i)) (hb : EvE tb ds (.int j)) (hc : C i j) (hz : ∀ N, Rp N (g i j) z) : EvE (tOp (rI C g) ta tb) ds z :=
  ev_opV ha hb hz fun x y N H _ rx ry Q q => by
    cases rx
    cases ry
    exact ⟨i, j, rfl, rfl, hc, q⟩
theorem ev_add {i j : Int} (ha : EvE ta ds (.int i)) (hb : EvE tb ds (.int j)) : EvE (tOp (rI0 fun i j => .int (i + j)) ta tb) ds (.int (i + j)) := ev_I0 ha hb fun _ => .int _
theorem ev_sub {i j : Int} (ha : EvE ta ds (.int i)) (hb : EvE tb ds (.int j)) : EvE (tOp (rI0 fun i j => .int (i - j)) ta tb) ds (.int (i - j)) := ev_I0 ha hb fun _ => .int _
theorem ev_lt {i j : Int} (ha : EvE ta ds (.int i)) (hb : EvE tb ds (.int j)) : EvE (tOp (rI0 fun i j => .bl (decide (i < j))) ta tb) ds (.bool (decide (i < j))) := ev_I0 ha hb fun _ => .bl _
theorem ev_le {i j : Int} (ha : EvE ta ds (.int i)) (hb : EvE tb ds (.int j)) : EvE (tOp (rI0 fun i j => .bl (decide (i ≤ j))) ta tb) ds (.bool (decide (i ≤ j))) := ev_I0 ha hb fun _ => .bl _
theorem ev_gt {i j : Int} (ha : EvE ta ds (.int i)) (hb : EvE tb ds (.int j)) : EvE (tOp (rI0 fun i j => .bl (decide (j < i))) ta tb) ds (.bool (decide (j < i))) := ev_I0 ha hb fun _ => .bl _
theorem ev_ge {i j : Int} (ha : EvE ta ds (.int i)) (hb : EvE tb ds (.int j)) : EvE (tOp (rI0 fun i j => .bl (decide (j ≤ i))) ta tb) ds (.bool (decide (j ≤ i))) := ev_I0 ha hb fun _ => .bl _
/-- a remainder, a quotient by a positive number -/
theorem ev_mod {i j : Int} (ha : EvE ta ds (.int i)) (hb : EvE tb ds (.int j)) (h : 0 < j) : EvE (tOp (rI (fun _ j => 0 < j) fun i j => .int (i % j)) ta tb) ds (.int (i % j)) := ev_I ha hb h fun _ => .int _
theorem ev_fdiv {i j : Int} (ha : EvE ta ds (.int i)) (hb : EvE tb ds (.int j)) (h : CDiv i j) : EvE (tOp (rI CDiv fun i j => .int (i / j)) ta tb) ds (.int (i / j)) := ev_I ha hb h fun _ => .int _
theorem ev_mul {i j : Int} (ha : EvE ta ds (.int i)) (hb : EvE tb ds (.int j)) (h : CMul i j) : EvE (tOp (rI CMul fun i j => .int (i * j)) ta tb) ds (.int (i * j)) := ev_I ha hb h fun _ => .int _
theorem ev_mulW {i j : Int} (ha : EvE ta ds (.int i)) (hb : EvE tb ds (.int j)) (h : CMulW i j) : EvE (tOp (rI CMulW fun i j => .int (i * j)) ta tb) ds (.int (i * j)) := ev_I ha hb h fun _ => .int _
theorem ev_pow {i j : Int} (ha : EvE ta ds (.int i)) (hb : EvE tb ds (.int j)) (h : CPow i j) : EvE (tOp (rI CPow fun i j => .int (i ^ j.toNat)) ta tb) ds (.int (i ^ j.toNat)) := ev_I ha hb h fun _ => .int _
/-- == and != of ints -/
theorem ev_eqI {i j : Int} (ha : EvE ta ds (.int i)) (hb : EvE tb ds (.int j)) : EvE (tOp rEq ta tb) ds (.bool (decide (i = j))) :=
  ev_opV (v := .bl (decide (i = j))) ha hb (fun _ => .bl _) fun x y N H _ rx ry Q q => by
    cases rx
    cases ry
    refine ⟨rfl, ?_⟩
    rw [show decide ((V.int i : V) = V.int j) = decide (i = j) from by simp]
    exact q
theorem ev_neI {i j : Int} (ha : EvE ta ds (.int i)) (hb : EvE tb ds (.int j)) : EvE (tOp rNe ta tb) ds (.bool (!decide (i = j))) :=
  ev_opV (v := .bl (!decide (i = j))) ha hb (fun _ => .bl _) fun x y N H _ rx ry Q q => by
    cases rx
    cases ry
    refine ⟨rfl, ?_⟩
    rw [show decide ((V.int i : V) = V.int j) = decide (i = j) from by simp]
    exact q
/-- == and != of data -/
theorem ev_eqD (ha : EvE ta ds d) (hb : EvE tb ds e) (nd : noDict d = true) (ne : noDict e = true) (sd : SeqAt.shaped d = true) (se : SeqAt.shaped e = true) : EvE (tOp (rEqD KK) ta tb) ds (.bool (PyData.eqv d e)) :=
  ev_opV (v := .bl (PyData.eqv d e)) ha hb (fun _ => .bl _) fun x y N H eN rx ry Q q => ⟨d, e, (rx.mono eN).dp nd, (ry.mono eN).dp ne, sd, se, q⟩
theorem ev_neD (ha : EvE ta ds d) (hb : EvE tb ds e) (nd : noDict d = true) (ne : noDict e = true) (sd : SeqAt.shaped d = true) (se : SeqAt.shaped e = true) : EvE (tOp (rNeD KK) ta tb) ds (.bool (!PyData.eqv d e)) :=
  ev_opV (v := .bl (!PyData.eqv d e)) ha hb (fun _ => .bl _) fun x y N H eN rx ry Q q => ⟨d, e, (rx.mono eN).dp nd, (ry.mono eN).dp ne, sd, se, q⟩
theorem ev_is {d' : PyData} (h : EvE ta ds d) (e : d = d') : EvE ta ds d' := e ▸ h
end

/-! ### tests -/
section
variable {ds : De} {te : TE} {t u : TT} {a b : Bool}
theorem eb_test (h : EvE te ds (.bool b)) : EvB (tTest te) ds b := fun σ N hs H eN Q q => h σ N hs H eN _ fun v H' N' e _ _ _ r => by
  cases r
  exact ⟨b, rfl, q H' e⟩
theorem eb_B (h : EvE te ds (.bool b)) : EvB (tB te) ds b := fun σ N hs H eN Q q => h σ N hs H eN _ fun v H' N' e _ _ _ r => by
  cases r
  exact ⟨b, rfl, q H' e⟩
theorem eb_not (h : EvB t ds a) : EvB (tNot t) ds (!a) := fun σ N hs H eN Q q => h σ N hs H eN _ fun H' e => q H' e
theorem eb_and (h1 : EvB t ds a) (h2 : a = true → EvB u ds b) : EvB (tAnd t u) ds (a && b) := fun σ N hs H eN Q q => h1 σ N hs H eN _ fun H1 e1 => by
  cases a with
  | true => exact iteT (h2 rfl σ N hs H1 (eN.trans e1) _ fun H2 e2 => q H2 (e1.trans e2))
  | false => exact iteF (q H1 e1)
theorem eb_or (h1 : EvB t ds a) (h2 : a = false → EvB u ds b) : EvB (tOr t u) ds (a || b) := fun σ N hs H eN Q q => h1 σ N hs H eN _ fun H1 e1 => by
  cases a with
  | true => exact iteT (q H1 e1)
  | false => exact iteF (h2 rfl σ N hs H1 (eN.trans e1) _ fun H2 e2 => q H2 (e1.trans e2))
theorem eb_is (h : EvB t ds a) (e : a = b) : EvB t ds b := e ▸ h
variable {ta tb tc : TE} {d : PyData}
theorem ev_andV (h1 : EvE ta ds (.bool a)) (h2 : a = true → EvE tb ds (.bool b)) : EvE (tAndV ta tb) ds (.bool (a && b)) := fun σ N hs H eN Q q => h1 σ N hs H eN _ fun v H1 N1 e1 n1 k1 g1 r => by
  cases r
  refine ⟨a, rfl, ?_⟩
  cases a with
  | true => exact iteT (h2 rfl σ N1 (hs.mono n1) H1 k1 _ fun v H2 N2 e2 n2 k2 g2 r2 => q v H2 N2 (e1.trans e2) (n1.trans n2) k2 (g1.trans e1 g2) r2)
  | false => exact iteF (q _ H1 N1 e1 n1 k1 g1 (.bl false))
theorem ev_orV (h1 : EvE ta ds (.bool a)) (h2 : a = false → EvE tb ds (.bool b)) : EvE (tOrV ta tb) ds (.bool (a || b)) := fun σ N hs H eN Q q => h1 σ N hs H eN _ fun v H1 N1 e1 n1 k1 g1 r => by
  cases r
  refine ⟨a, rfl, ?_⟩
  cases a with
  | true => exact iteT (q _ H1 N1 e1 n1 k1 g1 (.bl true))
  | false => exact iteF (h2 rfl σ N1 (hs.mono n1) H1 k1 _ fun v H2 N2 e2 n2 k2 g2 r2 => q v H2 N2 (e1.trans e2) (n1.trans n2) k2 (g1.trans e1 g2) r2)
theorem ev_notV (h1 : EvE ta ds (.bool a)) : EvE (tNotV ta) ds (.bool (!a)) := fun σ N hs H eN Q q => h1 σ N hs H eN _ fun v H1 N1 e1 n1 k1 g1 r => by
  cases r
  exact ⟨a, rfl, q _ H1 N1 e1 n1 k1 g1 (.bl _)⟩
theorem ev_if (h : EvB t ds b) (h1 : b = true → EvE ta ds d) (h2 : b = false → EvE tb ds d) : EvE (tIf t ta tb) ds d := fun σ N hs H eN Q q => h σ N hs H eN _ fun H1 e1 => by
  have k1 : Ex N H1 := eN.trans e1
  have gg : ∀ {H2 N2 : Hp}, Reg N H1 N2 → Reg N H N2 := fun g a ha => (g a ha).elim .inl fun z => .inr (ex_none e1 z)
  cases b with
  | true => exact iteT (h1 rfl σ N hs H1 k1 _ fun v H2 N2 e2 n2 k2 g2 r2 => q v H2 N2 (e1.trans e2) n2 k2 (gg (H2 := H2) g2) r2)
  | false => exact iteF (h2 rfl σ N hs H1 k1 _ fun v H2 N2 e2 n2 k2 g2 r2 => q v H2 N2 (e1.trans e2) n2 k2 (gg (H2 := H2) g2) r2)
end

/-! ### arguments, displays, built-ins -/
section
variable {ds : De} {te : TE} {ta : TA} {d : PyData} {es : List PyData}
theorem ea_nil : EvAs tNil ds [] := fun σ N hs H eN Q q => q [] H N (Ex.refl H) (Ex.refl N) eN Reg.refl .nil
theorem ea_cons (h : EvE te ds d) (hr : EvAs ta ds es) : EvAs (tCons te ta) ds (d :: es) := fun σ N hs H eN Q q =>
  h σ N hs H eN _ fun v H1 N1 e1 n1 k1 g1 r1 => hr σ N1 (hs.mono n1) H1 k1 _ fun vs H2 N2 e2 n2 k2 g2 r2 =>
    q (v :: vs) H2 N2 (e1.trans e2) (n1.trans n2) k2 (g1.trans e1 g2) (.cons (r1.mono n2) r2)
theorem laid {N H H1 N1 : Hp} {p : Addr} {o : HO} (e1 : Ex H H1) (n1 : Ex N N1) (k1 : Ex N1 H1) (g1 : Reg N H N1) (hp : H1 p = none) :
    Ex H (upd H1 p o) ∧ Ex N (upd N1 p o) ∧ Ex (upd N1 p o) (upd H1 p o) ∧ Reg N H (upd N1 p o) ∧ Ex N1 (upd N1 p o) := by
  have hn : N1 p = none := ex_none k1 hp
  refine ⟨e1.trans (Ex.new hp), n1.trans (Ex.new hn), fun a u e => ?_, fun a h => ?_, Ex.new hn⟩
  · by_cases z : a = p
    · subst z
      rw [upd_same] at e ⊢
      exact e
    · rw [upd_ne z] at e ⊢
      exact k1 a u e
  · by_cases z : a = p
    · subst z
      exact .inr (ex_none e1 hp)
    · rw [upd_ne z] at h
      exact g1 a h
theorem sz_100 {n : Nat} (h : n ≤ 100000) : n ≤ sizeLine := Nat.le_trans h (by decide)
theorem ev_lst (h : EvAs ta ds es) (hl : es.length ≤ 100000) : EvE (tLst ta) ds (.list es) := fun σ N hs H eN Q q =>
  h σ N hs H eN _ fun vs H1 N1 e1 n1 k1 g1 r1 => ⟨sz_100 (by rw [r1.length]; exact hl), fun p hp => by
    obtain ⟨a1, a2, a3, a4, a5⟩ := laid (o := .lst vs) e1 n1 k1 g1 hp
    exact q (.ref p) _ _ a1 a2 a3 a4 (.lst (sq_of upd_same) (r1.mono a5))⟩
theorem ev_tup (h : EvAs ta ds es) (hl : es.length ≤ 100000) : EvE (tTup ta) ds (.tuple es) := fun σ N hs H eN Q q =>
  h σ N hs H eN _ fun vs H1 N1 e1 n1 k1 g1 r1 => ⟨sz_100 (by rw [r1.length]; exact hl), fun p hp => by
    obtain ⟨a1, a2, a3, a4, a5⟩ := laid (o := .tup vs) e1 n1 k1 g1 hp
    exact q (.ref p) _ _ a1 a2 a3 a4 (.tup (.inl upd_same) (r1.mono a5))⟩
/-- a call by its values -/
theorem ev_cb {r : List V → Hp → VK → Prop} {z : PyData} (h : EvAs ta ds es)
    (hr : ∀ vs N H, Ex N H → RpAll N vs es → ∀ Q : VK, (∀ v H' N', Ex H H' → Ex N N' → Ex N' H' → Reg N H N' → Rp N' v z → Q v H') → r vs H Q) : EvE (tCB r ta) ds z := fun σ N hs H eN Q q =>
  h σ N hs H eN _ fun vs H1 N1 e1 n1 k1 g1 r1 => hr vs N1 H1 k1 r1 _ fun v H2 N2 e2 n2 k2 g2 r2 => q v H2 N2 (e1.trans e2) (n1.trans n2) k2 (g1.trans e1 g2) r2
theorem ev_cbV {r : List V → Hp → VK → Prop} {z : PyData} {v : V} (h : EvAs ta ds es) (hz : ∀ N, Rp N v z)
    (hr : ∀ vs N H, Ex N H → RpAll N vs es → ∀ Q : VK, Q v H → r vs H Q) : EvE (tCB r ta) ds z :=
  ev_cb h fun vs N H eN rv Q q => hr vs N H eN rv Q (q v H N (Ex.refl H) (Ex.refl N) eN Reg.refl (hz N))
theorem rd_ex {N H : Hp} (e : Ex N H) {a : Addr} {o : HO} (h : Rd N a o) : Rd H a o := ex_rd e h
theorem ev_len_l {ts : List PyData} {tx : TE} (h : EvE tx ds (.list ts)) : EvE (tCB (fun xs H Q => ∃ (p : Addr) (ys : List V), xs = [.ref p] ∧ (SqL KK H p ys ∨ SqT KK H p ys) ∧ Q (.int ys.length) H) (tCons tx tNil)) ds (.int (ts.length : Int)) :=
  ev_cbV (v := .int (ts.length : Int)) (ea_cons h ea_nil) (fun _ => .int _) fun vs N H eN rv Q q => by
    cases rv with
    | cons r rr =>
      cases rr
      cases r with
      | lst hr hall =>
        refine ⟨_, _, rfl, .inl ((ex_l eN hr)), ?_⟩
        rw [hall.length]
        exact q
theorem ev_len_t {ts : List PyData} {tx : TE} (h : EvE tx ds (.tuple ts)) : EvE (tCB (fun xs H Q => ∃ (p : Addr) (ys : List V), xs = [.ref p] ∧ (SqL KK H p ys ∨ SqT KK H p ys) ∧ Q (.int ys.length) H) (tCons tx tNil)) ds (.int (ts.length : Int)) :=
  ev_cbV (v := .int (ts.length : Int)) (ea_cons h ea_nil) (fun _ => .int _) fun vs N H eN rv Q q => by
    cases rv with
    | cons r rr =>
      cases rr
      cases r with
      | tup hr hall =>
        refine ⟨_, _, rfl, .inr (set_of_rd (rd_ex eN hr)), ?_⟩
        rw [hall.length]
        exact q
theorem ev_any {bs : List Bool} {tx : TE} (h : EvE tx ds (.list (bs.map .bool))) : EvE (tCB (rAny KK) (tCons tx tNil)) ds (.bool (bs.any id)) :=
  ev_cbV (v := .bl (bs.any id)) (ea_cons h ea_nil) (fun _ => .bl _) fun vs N H eN rv Q q => by
    cases rv with
    | cons r rr =>
      cases rr
      cases r with
      | lst hr hall =>
        have e := hall.ofBools
        subst e
        exact ⟨_, bs, rfl, (ex_l eN hr), q⟩
theorem ev_all {bs : List Bool} {tx : TE} (h : EvE tx ds (.list (bs.map .bool))) : EvE (tCB (rAll KK) (tCons tx tNil)) ds (.bool (bs.all id)) :=
  ev_cbV (v := .bl (bs.all id)) (ea_cons h ea_nil) (fun _ => .bl _) fun vs N H eN rv Q q => by
    cases rv with
    | cons r rr =>
      cases rr
      cases r with
      | lst hr hall =>
        have e := hall.ofBools
        subst e
        exact ⟨_, bs, rfl, (ex_l eN hr), q⟩
theorem ev_sum {ns : List Int} {tx : TE} (h : EvE tx ds (.list (ns.map .int))) : EvE (tCB (rSum KK) (tCons tx tNil)) ds (.int ns.sum) :=
  ev_cbV (v := .int ns.sum) (ea_cons h ea_nil) (fun _ => .int _) fun vs N H eN rv Q q => by
    cases rv with
    | cons r rr =>
      cases rr
      cases r with
      | lst hr hall =>
        have e := hall.ofInts
        subst e
        exact ⟨_, ns, rfl, (ex_l eN hr), q⟩
/-- xs[i] -/
theorem ev_ixL {ts : List PyData} {i : Int} {tx ti : TE} (h : EvE tx ds (.list ts)) (hi : EvE ti ds (.int i)) (ha : atI ts i = some d) : EvE (tOp (rIxL KK) tx ti) ds d :=
  ev_op h hi fun x y N H eN rx ry Q q => by
    cases ry
    cases rx with
    | lst hr hall =>
      have hx := ha
      unfold atI at hx
      cases e : ixN ts.length i with
      | none =>
        rw [e] at hx
        cases hx
      | some j =>
        rw [e] at hx
        obtain ⟨v, ev, rv⟩ := hall.get (i := j) (d := d) hx
        refine ⟨_, _, i, v, rfl, rfl, (ex_l eN hr), ?_, q v H N (Ex.refl H) (Ex.refl N) eN Reg.refl rv⟩
        unfold atI
        rw [hall.length, e]
        exact ev
theorem ev_ixT {ts : List PyData} {i : Int} {tx ti : TE} (h : EvE tx ds (.tuple ts)) (hi : EvE ti ds (.int i)) (ha : atI ts i = some d) : EvE (tOp (rIxT KK) tx ti) ds d :=
  ev_op h hi fun x y N H eN rx ry Q q => by
    cases ry
    cases rx with
    | tup hr hall =>
      have hx := ha
      unfold atI at hx
      cases e : ixN ts.length i with
      | none =>
        rw [e] at hx
        cases hx
      | some j =>
        rw [e] at hx
        obtain ⟨v, ev, rv⟩ := hall.get (i := j) (d := d) hx
        refine ⟨_, _, i, v, rfl, rfl, set_of_rd (rd_ex eN hr), ?_, q v H N (Ex.refl H) (Ex.refl N) eN Reg.refl rv⟩
        unfold atI
        rw [hall.length, e]
        exact ev
/-- list(xs) -/
theorem ev_list_of {ts : List PyData} {tx : TE} (h : EvE tx ds (.list ts)) :
    EvE (tCB (fun xs H Q => ∃ (p : Addr) (ys : List V), xs = [.ref p] ∧ (SqL KK H p ys ∨ SqT KK H p ys) ∧ ∀ l, H l = none → Q (.ref l) (upd H l (.lst ys))) (tCons tx tNil)) ds (.list ts) :=
  ev_cb (ea_cons h ea_nil) fun vs N H eN rv Q q => by
    cases rv with
    | cons r rr =>
      cases rr
      cases r with
      | lst hr hall =>
        refine ⟨_, _, rfl, .inl ((ex_l eN hr)), fun p hp => ?_⟩
        obtain ⟨a1, a2, a3, a4, a5⟩ := laid (o := .lst _) (Ex.refl H) (Ex.refl N) eN Reg.refl hp
        exact q (.ref p) _ _ a1 a2 a3 a4 (.lst (sq_of upd_same) (hall.mono a5))
end
end DL
set_option Elab.async false
set_option linter.all false
set_option maxRecDepth 100000
set_option maxHeartbeats 2000000
/-! Data: comprehensions, statements, loops, calls, promises. -/
namespace DL
open PySem PySem.Spec PyProof.Rows L2 Evl
set_option autoImplicit false
variable [Kn]

/-! ### a list that is being made -/
/-- at D stands the list of what es tells; known besides: a part Nk -/
structure Cq (N H H1 N1 : Hp) (D : Addr) (es : List PyData) (H' : Hp) : Prop where
  ex : ∃ (acc : List V) (Nk : Hp), Ex H1 H' ∧ H' D = some (.lst acc) ∧ Ex N1 Nk ∧ Ex Nk H' ∧ Nk D = none ∧ Reg N H Nk ∧ RpAll Nk acc es
section
variable {N H H1 N1 : Hp} {D : Addr} {es : List PyData} {H' H'' : Hp}
theorem Cq.start (e1 : Ex H H1) (k1 : Ex N1 H1) (g1 : Reg N H N1) (hD : H1 D = none) : Cq N H H1 N1 D [] (upd H1 D (.lst [])) :=
  ⟨[], N1, Ex.new hD, upd_same, Ex.refl _, k1.trans (Ex.new hD), ex_none k1 hD, g1, .nil⟩
theorem Cq.on (p : Cq N H H1 N1 D es H') (e : Ex H' H'') : Cq N H H1 N1 D es H'' := by
  obtain ⟨acc, Nk, a, b, c, d, f, g, r⟩ := p.ex
  exact ⟨acc, Nk, a.trans e, e _ _ b, c, d.trans e, f, g, r⟩
theorem Cq.known (p : Cq N H H1 N1 D es H') : Ex N1 H' := by
  obtain ⟨acc, Nk, a, b, c, d, f, g, r⟩ := p.ex
  exact c.trans d
theorem Cq.old (p : Cq N H H1 N1 D es H') : Ex H1 H' := by
  obtain ⟨acc, Nk, a, b, c, d, f, g, r⟩ := p.ex
  exact a
theorem Cq.fin (p : Cq N H H1 N1 D es H') (e1 : Ex H H1) (n1 : Ex N N1) (hD : H1 D = none) {Q : VK} (q : ∀ v H' N', Ex H H' → Ex N N' → Ex N' H' → Reg N H N' → Rp N' v (.list es) → Q v H') : Q (.ref D) H' := by
  obtain ⟨acc, Nk, a, b, c, d, f, g, r⟩ := p.ex
  refine q _ H' (upd Nk D (.lst acc)) (e1.trans a) ((n1.trans c).trans (Ex.new f)) (fun x o h => ?_) (fun x h => ?_) (.lst (sq_of upd_same) (r.mono (Ex.new f)))
  · by_cases z : x = D
    · subst z
      rw [upd_same] at h
      rw [← h]
      exact b
    · rw [upd_ne z] at h
      exact d x o h
  · by_cases z : x = D
    · subst z
      exact .inr (ex_none e1 hD)
    · rw [upd_ne z] at h
      exact g x h
/-- one item more -/
theorem cq_add {ds : De} {te : TE} {d : PyData} {σ : St} {H3 : Hp} (p : Cq N H H1 N1 D es H3) (e1 : Ex H H1) (hD : H1 D = none) (hl : es.length < 100000) (hs : Holds N1 σ ds) (he : EvE te ds d) :
    te σ H3 fun y H4 => ∃ acc, H4 D = some (.lst acc) ∧ acc.length < sizeLine ∧ Cq N H H1 N1 D (es ++ [d]) (upd H4 D (.lst (acc ++ [y]))) := by
  obtain ⟨acc, Nk, a, b, c, k, f, g, r⟩ := p.ex
  refine he σ Nk (hs.mono c) H3 k _ fun y H4 N4 e4 n4 k4 g4 r4 => ⟨acc, e4 _ _ b, by rw [r.length]; exact sz_lt hl, acc ++ [y], N4, ?_, upd_same, c.trans n4, ?_, ?_, ?_, (r.mono n4).append (.one r4)⟩
  · exact Ex.mut (a.trans e4) hD
  · have f4 : N4 D = none := by
      cases h : N4 D with
      | none => rfl
      | some o =>
        rcases g4 D (by rw [h]; intro z; cases z) with z | z
        · exact absurd f z
        · rw [b] at z
          cases z
    exact Ex.mut k4 f4
  · cases h : N4 D with
    | none => rfl
    | some o =>
      rcases g4 D (by rw [h]; intro z; cases z) with z | z
      · exact absurd f z
      · rw [b] at z
        cases z
  · exact fun x hx => (g4 x hx).elim (g x) fun z => .inr (ex_none (e1.trans a) z)
theorem cq_turn {ds : De} {te : TE} {tt : TT} {d : PyData} {b : Bool} {σ : St} (p : Cq N H H1 N1 D es H') (e1 : Ex H H1) (hD : H1 D = none) (hl : es.length < 100000) (hs : Holds N1 σ ds) (ht : EvB tt ds b) (he : b = true → EvE te ds d)
    {P : Hp → Prop} (h1 : b = true → ∀ H'', Cq N H H1 N1 D (es ++ [d]) H'' → P H'') (h2 : b = false → ∀ H'', Cq N H H1 N1 D es H'' → P H'') :
    tt σ H' fun b H3 => if b = true then te σ H3 fun y H4 => ∃ acc, H4 D = some (.lst acc) ∧ acc.length < sizeLine ∧ P (upd H4 D (.lst (acc ++ [y]))) else P H3 := by
  have kk := p.known
  refine ht σ N1 hs H' kk _ fun H3 e3 => ?_
  cases b with
  | false => exact iteF (h2 rfl _ (p.on e3))
  | true =>
    refine iteT ?_
    obtain ⟨acc, Nk, a, b, c, k, f, g, r⟩ := (p.on e3).ex
    refine he rfl σ Nk (hs.mono c) H3 k _ fun y H4 N4 e4 n4 k4 g4 r4 => ⟨acc, e4 _ _ b, by rw [r.length]; exact sz_lt hl, h1 rfl _ ⟨acc ++ [y], N4, Ex.mut (a.trans e4) hD, upd_same, c.trans n4, ?_, ?_, ?_, (r.mono n4).append (.one r4)⟩⟩
    · have f4 : N4 D = none := by
        cases h : N4 D with
        | none => rfl
        | some o =>
          rcases g4 D (by rw [h]; intro z; cases z) with z | z
          · exact absurd f z
          · rw [b] at z
            cases z
      exact Ex.mut k4 f4
    · cases h : N4 D with
      | none => rfl
      | some o =>
        rcases g4 D (by rw [h]; intro z; cases z) with z | z
        · exact absurd f z
        · rw [b] at z
          cases z
    · exact fun x hx => (g4 x hx).elim (g x) fun z => .inr (ex_none (e1.trans a) z)
end
theorem take_snoc {A : Type} {xs : List A} {i : Nat} {x : A} (h : xs[i]? = some x) : xs.take (i + 1) = xs.take i ++ [x] := by
  rw [List.take_add_one, h]
  rfl
theorem fm_yes {A B : Type} {xs : List A} {p : A → Bool} {f : A → B} {i : Nat} {x : A} (h : xs[i]? = some x) (hp : p x = true) : ((xs.take (i + 1)).filter p).map f = ((xs.take i).filter p).map f ++ [f x] := by
  rw [take_snoc h, List.filter_append, List.map_append]
  simp [hp]
theorem fm_no {A B : Type} {xs : List A} {p : A → Bool} {f : A → B} {i : Nat} {x : A} (h : xs[i]? = some x) (hp : p x = false) : ((xs.take (i + 1)).filter p).map f = ((xs.take i).filter p).map f := by
  rw [take_snoc h, List.filter_append, List.map_append]
  simp [hp]
theorem fm_len {A B : Type} {xs : List A} {p : A → Bool} {f : A → B} {i : Nat} : (((xs.take i).filter p).map f).length ≤ xs.length := by
  rw [List.length_map]
  refine Nat.le_trans (List.length_filter_le _ _) ?_
  rw [List.length_take]
  exact Nat.min_le_right _ _
theorem eb_yes {ds : De} : EvB tYes ds true := fun σ N hs H eN Q q => q H (Ex.refl H)
section
variable {ds : De} {tl te : TE} {tt : TT} {j : Nat} {A : Type}
/-- [f x for x in xs if p x], xs a list -/
theorem ev_lcL {xs : List A} {g : A → PyData} {p : A → Bool} {f : A → PyData} (h : EvE tl ds (.list (xs.map g))) (hz : xs.length < 100000)
    (ht : ∀ x ∈ xs, EvB tt ((wipeD ds [j]).set j (some (g x))) (p x)) (he : ∀ x ∈ xs, p x = true → EvE te ((wipeD ds [j]).set j (some (g x))) (f x)) :
    EvE (tLc (iList KK tl) (gName j) tt te [j]) ds (.list ((xs.filter p).map f)) := fun σ N hs H eN Q q =>
  h σ N hs H eN _ fun v H1 N1 e1 n1 k1 g1 r1 => by
    cases r1 with
    | @lst a vs _ hr hall =>
      refine ⟨a, rfl, ⟨vs, ex_l k1 hr⟩, fun D hD => ?_⟩
      have hlen : vs.length = xs.length := by rw [hall.length, List.length_map]
      refine lc_list (xs := vs) (fun i H' => Cq N H H1 N1 D (((xs.take i).filter p).map f) H') (Cq.start e1 k1 g1 hD) (fun i H' _ c => ex_l c.known hr) (fun i v H' hi c => ?_) (fun H' c => ?_)
      · obtain ⟨d, ed, rv⟩ := hall.getV hi
        rw [List.getElem?_map] at ed
        cases ex : xs[i]? with
        | none =>
          rw [ex] at ed
          cases ed
        | some x =>
          rw [ex] at ed
          have ed' : g x = d := Option.some.inj ed
          subst ed'
          have hm : x ∈ xs := List.mem_of_getElem? ex
          refine ⟨wipe1 σ j v, cq_turn (b := p x) (d := f x) c e1 hD (Nat.lt_of_le_of_lt fm_len hz) (((hs.mono n1).wipe [j]).set rv j) (ht x hm) (he x hm) (fun hp H'' c' => ?_) (fun hp H'' c' => ?_)⟩
          · rw [fm_yes ex hp]
            exact c'
          · rw [fm_no ex hp]
            exact c'
      · rw [show ((xs.take vs.length).filter p).map f = (xs.filter p).map f by rw [hlen, List.take_length]] at c
        exact c.fin e1 n1 hD q
theorem ev_lcL1 {xs : List A} {g : A → PyData} {f : A → PyData} (h : EvE tl ds (.list (xs.map g))) (hz : xs.length < 100000) (he : ∀ x ∈ xs, EvE te ((wipeD ds [j]).set j (some (g x))) (f x)) :
    EvE (tLc (iList KK tl) (gName j) tYes te [j]) ds (.list (xs.map f)) := by
  have h2 := ev_lcL (j := j) (tt := tYes) (te := te) (p := fun _ => true) (f := f) h hz (fun _ _ => eb_yes) (fun x hx _ => he x hx)
  rw [List.filter_eq_self.mpr (fun _ _ => rfl)] at h2
  exact h2
/-- .. over range(n) -/
theorem ev_lcR {ta : TA} {n : Int} {p : Nat → Bool} {f : Nat → PyData} (h : EvAs ta ds [.int n]) (hn : n < 100000)
    (ht : ∀ i : Nat, (i : Int) < n → EvB tt ((wipeD ds [j]).set j (some (.int (i : Int)))) (p i)) (he : ∀ i : Nat, (i : Int) < n → p i = true → EvE te ((wipeD ds [j]).set j (some (.int (i : Int)))) (f i)) :
    -100000 < n → EvE (tLc (iRng1 ta) (gName j) tt te [j]) ds (.list (((List.range n.toNat).filter p).map f)) := fun hn0 σ N hs H eN Q q =>
  h σ N hs H eN _ fun vs H1 N1 e1 n1 k1 g1 r1 => by
    cases r1 with
    | cons r rr =>
      cases rr
      cases r
      refine ⟨n, rfl, by omega, by omega, fun D hD => ?_⟩
      refine lc_range (lo := 0) (n := n.toNat) (fun i H' => Cq N H H1 N1 D ((((List.range n.toNat).take i).filter p).map f) H') (Cq.start e1 k1 g1 hD) (fun i H' hi c => ?_) (fun H' c => ?_)
      · have e0 : (0 : Int) + (i : Int) = (i : Int) := Int.zero_add _
        rw [e0]
        have ex : (List.range n.toNat)[i]? = some i := by rw [List.getElem?_range hi]
        refine ⟨wipe1 σ j _, cq_turn (b := p i) (d := f i) c e1 hD (Nat.lt_of_le_of_lt fm_len (by rw [List.length_range]; omega)) (((hs.mono n1).wipe [j]).set (.int _) j) (ht i (by omega)) (he i (by omega)) (fun hp H'' c' => ?_) (fun hp H'' c' => ?_)⟩
        · rw [fm_yes ex hp]
          exact c'
        · rw [fm_no ex hp]
          exact c'
      · rw [show (((List.range n.toNat).take n.toNat).filter p).map f = ((List.range n.toNat).filter p).map f by rw [List.take_of_length_le (by rw [List.length_range]; exact Nat.le_refl _)]] at c
        exact c.fin e1 n1 hD q
theorem ev_lcR1 {ta : TA} {n : Int} {f : Nat → PyData} (h : EvAs ta ds [.int n]) (hn : n < 100000) (hn0 : -100000 < n) (he : ∀ i : Nat, (i : Int) < n → EvE te ((wipeD ds [j]).set j (some (.int (i : Int)))) (f i)) :
    EvE (tLc (iRng1 ta) (gName j) tYes te [j]) ds (.list ((List.range n.toNat).map f)) := by
  have h2 := ev_lcR (j := j) (tt := tYes) (te := te) (p := fun _ => true) (f := f) h hn (fun _ _ => eb_yes) (fun i hi _ => he i hi) hn0
  rw [List.filter_eq_self.mpr (fun _ _ => rfl)] at h2
  exact h2
end

/-! ### statements -/
inductive Out
  | nx (ds : De) | rt (d : PyData) | go (ds : De) | er (c : Value)
def After (E : XK) (D : Ends) (N H : Hp) : Out → Prop
  | .nx ds => ∀ σ' H' N', Ex H H' → Ex N N' → Ex N' H' → Reg N H N' → Holds N' σ' ds → D.nx σ' H'
  | .go ds => (∀ σ' H' N', Ex H H' → Ex N N' → Ex N' H' → Reg N H N' → Holds N' σ' ds → D.nx σ' H') ∧ (∀ σ' H' N', Ex H H' → Ex N N' → Ex N' H' → Reg N H N' → Holds N' σ' ds → D.ct σ' H')
  | .rt d => ∀ v H' N', Ex H H' → Ex N N' → Ex N' H' → Reg N H N' → Rp N' v d → D.rt v H'
  | .er c => ∀ H', Ex H H' → E c none H'
def EvS (E : XK) (t : TS) (ds : De) (o : Out) : Prop := ∀ σ N, Holds N σ ds → ∀ (D : Ends) H, Ex N H → After E D N H o → t D σ H
theorem After.on {E : XK} {D : Ends} {N H N1 H1 : Hp} {o : Out} (e1 : Ex H H1) (n1 : Ex N N1) (g1 : Reg N H N1) (h : After E D N H o) : After E D N1 H1 o := by
  have gg : ∀ {N'}, Reg N1 H1 N' → Reg N H N' := fun g => g1.trans e1 g
  cases o with
  | nx ds => exact fun σ' H' N' e n k g hs => h σ' H' N' (e1.trans e) (n1.trans n) k (gg g) hs
  | go ds => exact ⟨fun σ' H' N' e n k g hs => h.1 σ' H' N' (e1.trans e) (n1.trans n) k (gg g) hs, fun σ' H' N' e n k g hs => h.2 σ' H' N' (e1.trans e) (n1.trans n) k (gg g) hs⟩
  | rt d => exact fun v H' N' e n k g r => h v H' N' (e1.trans e) (n1.trans n) k (gg g) r
  | er c => exact fun H' e => h H' (e1.trans e)
/-- only a part is known on the way: what stays the same is the base -/
theorem After.same {E : XK} {D D' : Ends} {N H : Hp} {o : Out} (h : After E D N H o) (hn : ∀ ds, (o = .nx ds ∨ o = .go ds) → D'.nx = D.nx) (hc : ∀ ds, o = .go ds → D'.ct = D.ct) (hr : D'.rt = D.rt) : After E D' N H o := by
  cases o with
  | nx ds => exact fun σ' H' N' e n k g hs => by rw [hn ds (.inl rfl)]; exact h σ' H' N' e n k g hs
  | go ds => exact ⟨fun σ' H' N' e n k g hs => by rw [hn ds (.inr rfl)]; exact h.1 σ' H' N' e n k g hs, fun σ' H' N' e n k g hs => by rw [hc ds rfl]; exact h.2 σ' H' N' e n k g hs⟩
  | rt d => exact fun v H' N' e n k g r => by rw [hr]; exact h v H' N' e n k g r
  | er c => exact h
section
variable {E : XK} {t u : TS} {ds ds1 : De} {o : Out} {te : TE} {d : PyData} {c : TT} {b : Bool}
theorem es_seq (h1 : EvS E t ds (.nx ds1)) (h2 : EvS E u ds1 o) : EvS E (tSeq t u) ds o := fun σ N hs D H eN a =>
  h1 σ N hs { D with nx := u D } H eN fun σ' H' N' e n k g hs' => h2 σ' N' hs' D H' k (a.on e n g)
theorem es_seqR (h1 : EvS E t ds (.rt d)) : EvS E (tSeq t u) ds (.rt d) := fun σ N hs D H eN a =>
  h1 σ N hs { D with nx := u D } H eN fun v H' N' e n k g r => a v H' N' e n k g r
theorem es_seqE {cl : Value} (h1 : EvS E t ds (.er cl)) : EvS E (tSeq t u) ds (.er cl) := fun σ N hs D H eN a =>
  h1 σ N hs { D with nx := u D } H eN a
theorem es_asg {i : Nat} (h : EvE te ds d) : EvS E (tAsg te (gName i)) ds (.nx (ds.set i (some d))) := fun σ N hs D H eN a =>
  h σ N hs H eN _ fun v H' N' e n k g r => a _ H' N' e n k g ((hs.mono n).set r i)
theorem es_asg2 {i j : Nat} {d1 d2 : PyData} (h : EvE te ds (.tuple [d1, d2])) : EvS E (tAsg te (gTup KK 2 (gCons (gName i) (gCons (gName j) gNil)))) ds (.nx ((ds.set i (some d1)).set j (some d2))) := fun σ N hs D H eN a =>
  h σ N hs H eN _ fun v H' N' e n k g r => by
    cases r with
    | tup hr hall =>
      cases hall with
      | cons r1 rr =>
        cases rr with
        | cons r2 rr =>
          cases rr
          exact ⟨_, _, rfl, set_of_rd (rd_ex k hr), rfl, _, _, rfl, _, _, rfl, rfl, a _ H' N' e n k g (((hs.mono n).set r1 i).set r2 j)⟩
theorem es_asg3 {i j l : Nat} {d1 d2 d3 : PyData} (h : EvE te ds (.tuple [d1, d2, d3])) : EvS E (tAsg te (gTup KK 3 (gCons (gName i) (gCons (gName j) (gCons (gName l) gNil))))) ds (.nx (((ds.set i (some d1)).set j (some d2)).set l (some d3))) := fun σ N hs D H eN a =>
  h σ N hs H eN _ fun v H' N' e n k g r => by
    cases r with
    | tup hr hall =>
      cases hall with
      | cons r1 rr =>
        cases rr with
        | cons r2 rr =>
          cases rr with
          | cons r3 rr =>
            cases rr
            exact ⟨_, _, rfl, set_of_rd (rd_ex k hr), rfl, _, _, rfl, _, _, rfl, _, _, rfl, rfl, a _ H' N' e n k g ((((hs.mono n).set r1 i).set r2 j).set r3 l)⟩
theorem es_ret (h : EvE te ds d) : EvS E (tRet te) ds (.rt d) := fun σ N hs D H eN a => h σ N hs H eN _ a
theorem es_drop (h : EvE te ds d) : EvS E (tDrop te) ds (.nx ds) := fun σ N hs D H eN a => h σ N hs H eN _ fun v H' N' e n k g _ => a σ H' N' e n k g (hs.mono n)
theorem es_next : EvS E tNext ds (.nx ds) := fun σ N hs D H eN a => a σ H N (Ex.refl _) (Ex.refl _) eN Reg.refl hs
theorem es_if (h : EvB c ds b) (h1 : b = true → EvS E t ds o) (h2 : b = false → EvS E u ds o) : EvS E (tIfS c t u) ds o := fun σ N hs D H eN a =>
  h σ N hs H eN _ fun H1 e1 => by
    have g1 : Reg N H N := Reg.refl
    cases b with
    | true => exact iteT (h1 rfl σ N hs D H1 (eN.trans e1) (a.on e1 (Ex.refl N) g1))
    | false => exact iteF (h2 rfl σ N hs D H1 (eN.trans e1) (a.on e1 (Ex.refl N) g1))
theorem es_go (h : EvS E t ds (.nx ds1)) : EvS E t ds (.go ds1) := fun σ N hs D H eN a => h σ N hs D H eN a.1
theorem es_ct : EvS E tCont ds (.go ds) := fun σ N hs D H eN a => a.2 σ H N (Ex.refl _) (Ex.refl _) eN Reg.refl hs
theorem es_le {ds0 : De} (l : Le ds0 ds) (h : EvS E t ds0 o) : EvS E t ds o := fun σ N hs D H eN a => h σ N (hs.le l) D H eN a
theorem es_nxle {ds2 : De} (l : Le ds2 ds1) (h : EvS E t ds (.nx ds1)) : EvS E t ds (.nx ds2) := fun σ N hs D H eN a => h σ N hs D H eN fun σ' H' N' e n k g hs' => a σ' H' N' e n k g (hs'.le l)
theorem es_gole {ds2 : De} (l : Le ds2 ds1) (h : EvS E t ds (.go ds1)) : EvS E t ds (.go ds2) := fun σ N hs D H eN a => h σ N hs D H eN ⟨fun σ' H' N' e n k g hs' => a.1 σ' H' N' e n k g (hs'.le l), fun σ' H' N' e n k g hs' => a.2 σ' H' N' e n k g (hs'.le l)⟩
theorem es_is {o' : Out} (h : EvS E t ds o) (e : o = o') : EvS E t ds o' := e ▸ h
end
theorem Holds.setIn {N : Hp} {σ : St} {ds : De} (h : Holds N σ ds) (j : Nat) (v : V) : Holds N (σ.set j (some v)) (ds.set j none) := ⟨by rw [List.length_set, List.length_set, h.len], fun i e q => by
  by_cases z : j = i
  · subst z
    by_cases hj : j < ds.length
    · rw [List.getElem?_set_self hj] at q
      cases q
    · rw [List.getElem?_eq_none (by rw [List.length_set]; omega)] at q
      cases q
  · rw [List.getElem?_set_ne z] at q
    obtain ⟨u, e1, r1⟩ := h.at_ i e q
    exact ⟨u, by rw [List.getElem?_set_ne z]; exact e1, r1⟩⟩

/-! ### loops -/
section
variable {E : XK} {tb : TS} {ds : De} {tl : TE} {j : Nat}
/-- the word of a loop between two turns -/
def Lw (D : Ends) (N H : Hp) (S : Nat → De) (i : Nat) (σ : St) (H' : Hp) : Prop := ∃ N', Ex H H' ∧ Ex N N' ∧ Ex N' H' ∧ Reg N H N' ∧ Holds N' σ (S i)
/-- for x in xs, all turns to the end -/
theorem es_forL {ts : List PyData} (h : EvE tl ds (.list ts)) (S : Nat → De) (h0 : Le (S 0) ds) (turn : ∀ i t, ts[i]? = some t → EvS E tb ((S i).set j (some t)) (.go (S (i + 1)))) :
    EvS E (tFor (iList KK tl) (gName j) tb) ds (.nx (S ts.length)) := fun σ N hs D H eN a =>
  h σ N hs H eN _ fun v H1 N1 e1 n1 k1 g1 r1 => by
    cases r1 with
    | @lst ad vs _ hr hall =>
      refine ⟨ad, rfl, ⟨vs, ex_l k1 hr⟩, ?_⟩
      refine for_list (xs := vs) (Lw D N1 H1 S) ⟨N1, Ex.refl _, Ex.refl _, k1, Reg.refl, (hs.mono n1).le h0⟩ (fun i σ H' _ ⟨N', a1, a2, a3, a4, a5⟩ => ex_l (a2.trans a3) hr) ?_ ?_
      · rintro i v σ' H' hi ⟨N', a1, a2, a3, a4, a5⟩
        obtain ⟨t, et, rv⟩ := hall.getV hi
        refine turn i t et (σ'.set j (some v)) N' (a5.set (rv.mono a2) j) _ H' a3 ⟨?_, ?_⟩
        · exact fun σ2 H2 N2 b1 b2 b3 b4 b5 => ⟨N2, a1.trans b1, a2.trans b2, b3, a4.trans a1 b4, b5⟩
        · exact fun σ2 H2 N2 b1 b2 b3 b4 b5 => ⟨N2, a1.trans b1, a2.trans b2, b3, a4.trans a1 b4, b5⟩
      · rintro σ' H' ⟨N', a1, a2, a3, a4, a5⟩
        rw [hall.length] at a5
        exact a σ' H' N' (e1.trans a1) (n1.trans a2) a3 (g1.trans e1 a4) a5
/-- .. one turn returns -/
theorem es_forLr {ts : List PyData} {d : PyData} {k : Nat} (h : EvE tl ds (.list ts)) (S : Nat → De) (h0 : Le (S 0) ds) (hk : k < ts.length) (turn : ∀ i t, i < k → ts[i]? = some t → EvS E tb ((S i).set j (some t)) (.go (S (i + 1))))
    (last : ∀ t, ts[k]? = some t → EvS E tb ((S k).set j (some t)) (.rt d)) :
    EvS E (tFor (iList KK tl) (gName j) tb) ds (.rt d) := fun σ N hs D H eN a =>
  h σ N hs H eN _ fun v H1 N1 e1 n1 k1 g1 r1 => by
    cases r1 with
    | @lst ad vs _ hr hall =>
      have hlen := hall.length
      refine ⟨ad, rfl, ⟨vs, ex_l k1 hr⟩, ?_⟩
      refine for_list (xs := vs) (fun i σ H' => i ≤ k ∧ Lw D N1 H1 S i σ H') ⟨Nat.zero_le _, N1, Ex.refl _, Ex.refl _, k1, Reg.refl, (hs.mono n1).le h0⟩ (fun i σ H' _ ⟨_, N', a1, a2, a3, a4, a5⟩ => ex_l (a2.trans a3) hr) ?_ ?_
      · rintro i v σ' H' hi ⟨hik, N', a1, a2, a3, a4, a5⟩
        obtain ⟨t, et, rv⟩ := hall.getV hi
        by_cases hlt : i < k
        · refine turn i t hlt et (σ'.set j (some v)) N' (a5.set (rv.mono a2) j) _ H' a3 ⟨?_, ?_⟩
          · exact fun σ2 H2 N2 b1 b2 b3 b4 b5 => ⟨hlt, N2, a1.trans b1, a2.trans b2, b3, a4.trans a1 b4, b5⟩
          · exact fun σ2 H2 N2 b1 b2 b3 b4 b5 => ⟨hlt, N2, a1.trans b1, a2.trans b2, b3, a4.trans a1 b4, b5⟩
        · have e : i = k := by omega
          subst e
          refine last t et (σ'.set j (some v)) N' (a5.set (rv.mono a2) j) _ H' a3 ?_
          exact fun v H2 N2 b1 b2 b3 b4 b5 => a v H2 N2 ((e1.trans a1).trans b1) ((n1.trans a2).trans b2) b3 ((g1.trans e1 a4).trans (e1.trans a1) b4) b5
      · rintro σ' H' ⟨hik, _⟩
        omega
/-- for i in range(n) -/
theorem es_forR {ta : TA} {n : Int} (h : EvAs ta ds [.int n]) (hn : n < 100000) (hn0 : -100000 < n) (S : Nat → De) (h0 : Le (S 0) ds) (turn : ∀ i : Nat, (i : Int) < n → EvS E tb ((S i).set j (some (.int (i : Int)))) (.go (S (i + 1)))) :
    EvS E (tFor (iRng1 ta) (gName j) tb) ds (.nx (S n.toNat)) := fun σ N hs D H eN a =>
  h σ N hs H eN _ fun vs H1 N1 e1 n1 k1 g1 r1 => by
    cases r1 with
    | cons r rr =>
      cases rr
      cases r
      refine ⟨n, rfl, by omega, by omega, ?_⟩
      refine for_range (lo := 0) (n := n.toNat) (Lw D N1 H1 S) ⟨N1, Ex.refl _, Ex.refl _, k1, Reg.refl, (hs.mono n1).le h0⟩ ?_ ?_
      · rintro i σ' H' hi ⟨N', a1, a2, a3, a4, a5⟩
        rw [Int.zero_add]
        refine turn i (by omega) (σ'.set j (some (.int i))) N' (a5.set (.int _) j) _ H' a3 ⟨?_, ?_⟩
        · exact fun σ2 H2 N2 b1 b2 b3 b4 b5 => ⟨N2, a1.trans b1, a2.trans b2, b3, a4.trans a1 b4, b5⟩
        · exact fun σ2 H2 N2 b1 b2 b3 b4 b5 => ⟨N2, a1.trans b1, a2.trans b2, b3, a4.trans a1 b4, b5⟩
      · rintro σ' H' ⟨N', a1, a2, a3, a4, a5⟩
        exact a σ' H' N' (e1.trans a1) (n1.trans a2) a3 (g1.trans e1 a4) a5
theorem es_forRr {ta : TA} {n : Int} {d : PyData} {k : Nat} (h : EvAs ta ds [.int n]) (hn : n < 100000) (hn0 : -100000 < n) (S : Nat → De) (h0 : Le (S 0) ds) (hk : (k : Int) < n) (turn : ∀ i : Nat, i < k → EvS E tb ((S i).set j (some (.int (i : Int)))) (.go (S (i + 1))))
    (last : EvS E tb ((S k).set j (some (.int (k : Int)))) (.rt d)) :
    EvS E (tFor (iRng1 ta) (gName j) tb) ds (.rt d) := fun σ N hs D H eN a =>
  h σ N hs H eN _ fun vs H1 N1 e1 n1 k1 g1 r1 => by
    cases r1 with
    | cons r rr =>
      cases rr
      cases r
      refine ⟨n, rfl, by omega, by omega, ?_⟩
      refine for_range (lo := 0) (n := n.toNat) (fun i σ H' => i ≤ k ∧ Lw D N1 H1 S i σ H') ⟨Nat.zero_le _, N1, Ex.refl _, Ex.refl _, k1, Reg.refl, (hs.mono n1).le h0⟩ ?_ ?_
      · rintro i σ' H' hi ⟨hik, N', a1, a2, a3, a4, a5⟩
        rw [Int.zero_add]
        by_cases hlt : i < k
        · refine turn i hlt (σ'.set j (some (.int i))) N' (a5.set (.int _) j) _ H' a3 ⟨?_, ?_⟩
          · exact fun σ2 H2 N2 b1 b2 b3 b4 b5 => ⟨hlt, N2, a1.trans b1, a2.trans b2, b3, a4.trans a1 b4, b5⟩
          · exact fun σ2 H2 N2 b1 b2 b3 b4 b5 => ⟨hlt, N2, a1.trans b1, a2.trans b2, b3, a4.trans a1 b4, b5⟩
        · have e : i = k := by omega
          subst e
          refine last (σ'.set j (some (.int i))) N' (a5.set (.int _) j) _ H' a3 ?_
          exact fun v H2 N2 b1 b2 b3 b4 b5 => a v H2 N2 ((e1.trans a1).trans b1) ((n1.trans a2).trans b2) b3 ((g1.trans e1 a4).trans (e1.trans a1) b4) b5
      · rintro σ' H' ⟨hik, _⟩
        omega
/-- out = []; for i in range(n): out.append(e): one list, made turn by turn -/
theorem es_buildR {ta : TA} {n : Int} {k : Nat} {te : TE} {f : Nat → PyData} {rest : TS} {o : Out} (hjk : j ≠ k) (hk : k < ds.length) (h : EvAs ta (ds.set k none) [.int n]) (hn : n < 100000) (hn0 : -100000 < n)
    (turn : ∀ i : Nat, (i : Int) < n → EvE te ((ds.set k none).set j (some (.int (i : Int)))) (f i))
    (after : EvS E rest ((ds.set j none).set k (some (.list ((List.range n.toNat).map f)))) o) :
    EvS E (tSeq (tAsg (tLst tNil) (gName k)) (tSeq (tFor (iRng1 ta) (gName j) (tDrop (tBM KK "list" rAppend (tVar k) (tCons te tNil)))) rest)) ds o := fun σ N hs D H eN a => by
  refine ⟨Nat.zero_le _, fun L hL => ?_⟩
  have hL0 : N L = none := ex_none eN hL
  have eH : Ex H (upd H L (.lst [])) := Ex.new hL
  refine h (σ.set k (some (.ref L))) N (hs.setIn k _) (upd H L (.lst [])) (eN.trans eH) _ fun vs H1 N1 e1 n1 k1 g1 r1 => ?_
  cases r1 with
  | cons r rr =>
    cases rr
    cases r
    have hL1 : H1 L = some (.lst []) := e1 _ _ upd_same
    have hN1 : N1 L = none := by
      cases q : N1 L with
      | none => rfl
      | some u' =>
        rcases g1 L (by rw [q]; intro z; cases z) with z | z
        · exact absurd hL0 z
        · rw [upd_same] at z
          cases z
    have g0 : Reg N H N1 := fun x hx => (g1 x hx).elim .inl fun z => .inr (ex_none eH z)
    refine ⟨n, rfl, by omega, by omega, ?_⟩
    have kl : k < σ.length := by rw [hs.len]; exact hk
    refine for_range (lo := 0) (n := n.toNat) (fun i σ' H' => σ'[k]? = some (some (.ref L)) ∧ ∃ (acc : List V) (Nk : Hp), Ex H H' ∧ H' L = some (.lst acc) ∧ Ex N1 Nk ∧ Ex Nk H' ∧ Nk L = none ∧ Reg N H Nk ∧ RpAll Nk acc ((List.range i).map f) ∧ Holds Nk σ' ((ds.set k none).set j none)) ?_ ?_ ?_
    · refine ⟨?_, [], N1, eH.trans e1, hL1, Ex.refl _, k1, hN1, g0, .nil, ?_⟩
      · rw [List.getElem?_set_self kl]
      · refine ((hs.mono n1).setIn k _).le ⟨by rw [List.length_set], fun i d q => ?_⟩
        by_cases z : j = i
        · subst z
          by_cases hj : j < (ds.set k none).length
          · rw [List.getElem?_set_self hj] at q
            cases q
          · rw [List.getElem?_eq_none (by rw [List.length_set]; omega)] at q
            cases q
        · rw [List.getElem?_set_ne z] at q
          exact q
    · rintro i σ' H' hi ⟨hk', acc, Nk, b1, b2, b3, b4, b5, b6, b7, b8⟩
      rw [Int.zero_add]
      have hk2 : (σ'.set j (some (.int (i : Int))))[k]? = some (some (.ref L)) := by
        rw [List.getElem?_set_ne hjk]
        exact hk'
      refine ⟨_, hk2, .inl ⟨rfl, acc, .inl (.inl b2)⟩, ?_⟩
      have hh : Holds Nk (σ'.set j (some (.int (i : Int)))) ((ds.set k none).set j (some (.int (i : Int)))) := by
        have q := b8.set (.int (i : Int)) j
        rw [List.set_set] at q
        exact q
      refine turn i (by omega) _ Nk hh H' b4 _ fun y H4 N4 e4 n4 k4 g4 r4 => ?_
      have f4 : N4 L = none := by
        cases q : N4 L with
        | none => rfl
        | some u' =>
          rcases g4 L (by rw [q]; intro z; cases z) with z | z
          · exact absurd b5 z
          · rw [b2] at z
            cases z
      refine ⟨L, acc, y, rfl, rfl, e4 _ _ b2, sz_lt (by rw [b7.length, List.length_map, List.length_range]; omega), hk2, acc ++ [y], N4, ?_, upd_same, b3.trans n4, Ex.mut k4 f4, f4, ?_, ?_, ?_⟩
      · exact Ex.mut (b1.trans e4) hL
      · exact b6.trans b1 g4
      · rw [List.range_succ, List.map_append]
        exact (b7.mono n4).append (.one r4)
      · have q := (b8.mono n4).setIn j (.int (i : Int))
        rw [List.set_set] at q
        exact q
    · rintro σ' H' ⟨hk', acc, Nk, b1, b2, b3, b4, b5, b6, b7, b8⟩
      refine after σ' (upd Nk L (.lst acc)) ?_ D H' ?_ (a.on b1 ((n1.trans b3).trans (Ex.new b5)) ?_)
      · refine ⟨by rw [b8.len]; simp, fun i d q => ?_⟩
        by_cases z : k = i
        · subst z
          rw [List.getElem?_set_self (by rw [List.length_set]; exact hk)] at q
          have q' := Option.some.inj (Option.some.inj q)
          subst q'
          exact ⟨_, hk', .lst (sq_of upd_same) (b7.mono (Ex.new b5))⟩
        · rw [List.getElem?_set_ne z] at q
          by_cases z2 : j = i
          · subst z2
            by_cases hj : j < ds.length
            · rw [List.getElem?_set_self hj] at q
              cases q
            · rw [List.getElem?_eq_none (by rw [List.length_set]; omega)] at q
              cases q
          · rw [List.getElem?_set_ne z2] at q
            obtain ⟨u, c1, c2⟩ := b8.at_ i d (by rw [List.getElem?_set_ne z2, List.getElem?_set_ne z]; exact q)
            exact ⟨u, c1, c2.mono (Ex.new b5)⟩
      · intro x o hx
        by_cases z : x = L
        · subst z
          rw [upd_same] at hx
          rw [← hx]
          exact b2
        · rw [upd_ne z] at hx
          exact b4 x o hx
      · intro x hx
        by_cases z : x = L
        · subst z
          exact .inr hL
        · rw [upd_ne z] at hx
          exact b6 x hx
end

/-! ### promises -/
/-- a def that hands back data: R arguments result; nothing that stood before is changed -/
def spF (R : List PyData → PyData → Prop) : Sp := fun vs H Q _ => ∃ (N : Hp) (ds : List PyData) (d : PyData), Ex N H ∧ RpAll N vs ds ∧ R ds d ∧ ∀ v H' N', Ex H H' → Ex N N' → Ex N' H' → Reg N H N' → Rp N' v d → Q v H'
theorem ev_call {R : List PyData → PyData → Prop} {E : XK} {ds : De} {ta : TA} {es : List PyData} {d : PyData} (h : EvAs ta ds es) (hr : R es d) : EvE (tCall (spF R) [] E ta) ds d := fun σ N hs H eN Q q =>
  h σ N hs H eN _ fun vs H1 N1 e1 n1 k1 g1 r1 => ⟨N1, es, d, k1, by rw [List.append_nil]; exact r1, hr, fun v H2 N2 e2 n2 k2 g2 r2 => q v H2 N2 (e1.trans e2) (n1.trans n2) k2 (g1.trans e1 g2) r2⟩
/-- the slots at a def's entry -/
def startD (n : Nat) (es : List PyData) : De := es.map some ++ List.replicate (n - es.length) none
theorem holds_start {N : Hp} {names : List Str} {vs : List V} {es : List PyData} (r : RpAll N vs es) : Holds N (L2.start names vs) (startD names.length es) := ⟨by
    unfold L2.start startD
    simp [r.length], fun i d q => by
    unfold startD at q
    unfold L2.start
    have hl := r.length
    by_cases z : i < es.length
    · rw [List.getElem?_append_left (by rw [List.length_map]; exact z), List.getElem?_map] at q
      cases e : es[i]? with
      | none =>
        rw [e] at q
        cases q
      | some d' =>
        rw [e] at q
        have q' : d' = d := Option.some.inj (Option.some.inj q)
        subst q'
        obtain ⟨v, e1, rv⟩ := r.get e
        exact ⟨v, by rw [List.getElem?_append_left (by rw [List.length_map]; omega), List.getElem?_map, e1]; rfl, rv⟩
    · rw [List.getElem?_append_right (by rw [List.length_map]; omega)] at q
      rw [List.getElem?_replicate] at q
      split at q
      · cases Option.some.inj q
      · cases q⟩
/-- a def's body, from data to data -/
theorem body_ret {R : List PyData → PyData → Prop} {t : TS} {names : List Str} {vs : List V} {H : Hp} {Q : VK} {E : XK} (h : spF R vs H Q E) (hb : ∀ es d, R es d → EvS E t (startD names.length es) (.rt d)) :
    t { nx := fun _ H' => Q .non H', rt := Q, bk := fun _ _ => False, ct := fun _ _ => False } (L2.start names vs) H := by
  obtain ⟨N, es, d, eN, r, hr, q⟩ := h
  exact hb es d hr (L2.start names vs) N (holds_start r) _ H eN q
theorem len_of {R : List PyData → PyData → Prop} {n : Nat} (h : ∀ es d, R es d → es.length = n) : ∀ vs H Q E, spF R vs H Q E → vs.length = n := fun vs H Q E ⟨N, es, d, eN, r, hr, q⟩ => by
  rw [r.length]
  exact h es d hr
end DL
set_option Elab.async false
set_option linter.all false
set_option maxRecDepth 100000
set_option maxHeartbeats 2000000
/-! zip of a list of lists, at the library's level. -/
namespace ZS
open PySem
set_option autoImplicit false
abbrev ZObj (h : Heap) (z : Addr) (f0 : Value) (f1 : Bool) (TI TO : Addr) : Prop :=
  h.get? z = some { cls := .type "zip", dict := none, data := .fields #[f0, .bool f1, .bool false, .ref TI, .ref TO], slots := #[] }
abbrev IsT (h : Heap) (T : Addr) (vs : List Value) : Prop := h.get? T = some { cls := .type "tuple", data := .seq vs.toArray }
def ItsAt (h : Heap) (its ls : List Addr) (f : Nat → Nat) : Prop := ∀ (k : Nat) (it l : Addr), its[k]? = some it → ls[k]? = some l → h.IsListIter it l (f k)
structure Apart (z TI TO : Addr) (its ls : List Addr) : Prop where
  nd : (z :: TI :: TO :: its).Nodup
  lsx : ∀ l ∈ ls, l ≠ z ∧ l ≠ TO ∧ l ∉ its
  len : its.length = ls.length
section
variable {prog : Program} {w : World} {A : Around} {E : Value → Shared → Prop} {s : Shared} {z TI TO : Addr} {its ls : List Addr}
theorem Apart.TIz (D : Apart z TI TO its ls) : TI ≠ z := fun e => (List.nodup_cons.mp D.nd).1 (by rw [e]; exact List.mem_cons_self)
theorem Apart.TOz (D : Apart z TI TO its ls) : TO ≠ z := fun e => (List.nodup_cons.mp D.nd).1 (by rw [e]; exact List.mem_cons_of_mem _ List.mem_cons_self)
theorem Apart.nd2 (D : Apart z TI TO its ls) : (TI :: TO :: its).Nodup := (List.nodup_cons.mp D.nd).2
theorem Apart.nd3 (D : Apart z TI TO its ls) : (TO :: its).Nodup := (List.nodup_cons.mp D.nd2).2
theorem Apart.nd4 (D : Apart z TI TO its ls) : its.Nodup := (List.nodup_cons.mp D.nd3).2
theorem Apart.TITO (D : Apart z TI TO its ls) : TI ≠ TO := fun e => (List.nodup_cons.mp D.nd2).1 (by rw [e]; exact List.mem_cons_self)
theorem Apart.zi (D : Apart z TI TO its ls) {it : Addr} (h : it ∈ its) : it ≠ z := fun e => (List.nodup_cons.mp D.nd).1 (by rw [← e]; exact List.mem_cons_of_mem _ (List.mem_cons_of_mem _ h))
theorem Apart.TIi (D : Apart z TI TO its ls) {it : Addr} (h : it ∈ its) : it ≠ TI := fun e => (List.nodup_cons.mp D.nd2).1 (by rw [← e]; exact List.mem_cons_of_mem _ h)
theorem Apart.TOi (D : Apart z TI TO its ls) {it : Addr} (h : it ∈ its) : it ≠ TO := fun e => (List.nodup_cons.mp D.nd3).1 (by rw [← e]; exact h)
theorem Apart.ij (D : Apart z TI TO its ls) {i j : Nat} {a b : Addr} (hi : its[i]? = some a) (hj : its[j]? = some b) (h : i ≠ j) : a ≠ b := fun e => by
  subst e
  obtain ⟨h1, e1⟩ := List.getElem?_eq_some_iff.mp hi
  obtain ⟨h2, e2⟩ := List.getElem?_eq_some_iff.mp hj
  exact h ((List.getElem_inj D.nd4).mp (e1.trans e2.symm))
/-- all else stays -/
def Els (z TO : Addr) (its : List Addr) (h h' : Heap) : Prop := ∀ c o, c ≠ z → c ≠ TO → c ∉ its → h.get? c = some o → h'.get? c = some o
theorem Els.trans {h1 h2 h3 : Heap} (a : Els z TO its h1 h2) (b : Els z TO its h2 h3) : Els z TO its h1 h3 := fun c o x y q e => b c o x y q (a c o x y q e)
theorem Els.of {h1 h2 : Heap} {a : Addr} (e : Heap.SameBut a h1 h2) (ha : a = z ∨ a = TO ∨ a ∈ its) : Els z TO its h1 h2 := fun c o x y q g => e.extBut c o (fun h => by
  subst h
  rcases ha with ha | ha | ha
  · exact x ha
  · exact y ha
  · exact q ha) g
theorem zs_alive {a : Addr} {Q : Option Obj → Shared → Prop} (h : Q (s.heap.get? a) s) : wpAny (model prog w) A (loadIfAlive a) Q E s := fun _ _ _ => h
/-- is the tuple that was handed out free again? -/
theorem zs_free {f0 : Value} {f1 : Bool} {Q : Bool → Shared → Prop} (hz : ZObj s.heap z f0 f1 TI TO) (hf : f0 = .none ∨ ∃ T : Nat, f0 = rawInt T)
    (h1 : Q true s) (h2 : ∀ h', ZObj h' z f0 true TI TO → Heap.SameBut z s.heap h' → Q false { s with heap := h' }) :
    wpAny (model prog w) A (Builtin.SmallTypes.ownedTupleIsFree (.ref z)) Q E s := by
  unfold Builtin.SmallTypes.ownedTupleIsFree
  refine wpAny_bind (wpAny_field hz rfl (x := f0) rfl ?_)
  rcases hf with rfl | ⟨T, rfl⟩
  · exact wpAny_pure h1
  · show wpAny _ _ (loadIfAlive ((T : Int).toNat) >>= _) _ _ _
    refine wpAny_bind (zs_alive ?_)
    cases hg : s.heap.get? ((T : Int).toNat) with
    | none => exact wpAny_pure h1
    | some o =>
      simp only [Option.isNone_some, Bool.false_eq_true, if_false]
      refine wpAny_bind (wpAny_field hz rfl (x := .bool f1) rfl ?_)
      cases f1 with
      | true =>
        rw [if_neg (show ¬ ((Value.bool true != Value.bool true) = true) from Bool.false_ne_true)]
        exact wpAny_pure (h2 s.heap hz (Heap.SameBut.refl _ _))
      | false =>
        rw [if_pos (show (Value.bool false != Value.bool true) = true from rfl)]
        exact wpAny_bind (wpAny_setField_rec hz (by simp) fun h₁ hz₁ hs₁ => wpAny_pure (h2 h₁ hz₁ hs₁))
theorem zs_updateSeq {T : Addr} {vs : List Value} {x : Value} {k : Nat} {Q : Unit → Shared → Prop} (hT : IsT s.heap T vs) (hz : vs.length ≤ 1000)
    (h : ∀ h', IsT h' T (vs.set k x) → Heap.SameBut T s.heap h' → Q () { s with heap := h' }) :
    wpAny (model prog w) A (updateSeq T (·.setIfInBounds k x)) Q E s := by
  have h1 : vs.length ≤ sizeLine := Nat.le_trans hz (by decide)
  refine wpAny_updateSeq hT rfl (h _ ?_ (Heap.SameBut.update ..)) (by rw [List.size_toArray]; exact h1) (by
    rw [Array.size_setIfInBounds, List.size_toArray]
    exact Nat.le_succ_of_le h1)
  show (s.heap.update T _).get? T = _
  rw [Heap.get?_update_self _ hT rfl]
  simp [Obj.mapSeq]
theorem isIter_keep {h h' : Heap} {a l : Addr} {i : Nat} (x : h.IsListIter a l i) (e : ∀ o, h.get? a = some o → h'.get? a = some o) : h'.IsListIter a l i := x.at e

/-- what one turn of zip's own walk over its iterators has done so far: k of them drawn -/
structure TurnA (s : Shared) (z TI TO : Addr) (its ls : List Addr) (i : Nat) (old vs : List Value) (f1 : Bool) (k : Nat) (s' : Shared) : Prop where
  eq : ∃ h', s' = { s with heap := h' } ∧ ZObj h' z .ellipsis f1 TI TO ∧ IsT h' TO (vs.take k ++ old.drop k) ∧ ItsAt h' its ls (fun j => if j < k then i + 1 else i) ∧ Els z TO its s.heap h' ∧ h'.objs.size = s.heap.objs.size
theorem set_take_drop {A : Type} : ∀ (vs old : List A) (k : Nat) (x : A), vs.length = old.length → vs[k]? = some x → (vs.take k ++ old.drop k).set k x = vs.take (k + 1) ++ old.drop (k + 1)
  | [], _, _, _, _, h => by simp at h
  | v :: vs, [], _, _, h, _ => by simp at h
  | v :: vs, o :: old, 0, x, _, h => by
    have e : v = x := by simpa using h
    subst e
    simp
  | v :: vs, o :: old, k + 1, x, hl, h => by
    have ih := set_take_drop vs old k x (by simpa using hl) (by simpa using h)
    simpa using ih
/-- a turn with an item, the first way: the tuple of its own is filled anew and copied -/
theorem zs_next_A {i : Nat} {f0 : Value} {f1 : Bool} {old vs : List Value} {Q : Value → Shared → Prop} (D : Apart z TI TO its ls)
    (hz : ZObj s.heap z f0 f1 TI TO) (hTI : IsT s.heap TI (its.map Value.ref)) (hTO : IsT s.heap TO old) (hit : ItsAt s.heap its ls (fun _ => i)) (hold : old.length = its.length) (hvs : vs.length = its.length) (hn : 0 < its.length) (hn2 : its.length ≤ 1000)
    (hls : ∀ (k : Nat) (l : Addr) (v : Value), ls[k]? = some l → vs[k]? = some v → ∃ xs : Array Value, s.heap.IsList l xs ∧ xs[i]? = some v)
    (hfree : ∀ Q' : Bool → Shared → Prop, Q' true s → wpAny (model prog w) A (Builtin.SmallTypes.ownedTupleIsFree (.ref z)) Q' E s)
    (hQ : ∀ h', (∃ T : Nat, ZObj h' z (rawInt T) false TI TO) → IsT h' TO vs → ItsAt h' its ls (fun _ => i + 1) → IsT h' s.heap.objs.size vs → h'.objs.size = s.heap.objs.size + 1 → Els z TO its s.heap h' → Q (.ref s.heap.objs.size) { s with heap := h' }) :
    wpAny (model prog w) A (Builtin.«zip.__next__» ⟨[.ref z], []⟩) (fun fin s' => ∃ v, fin = .done (.ret v) ∧ Q v s') E s := by
  show wpAny _ _ (field (.ref z) 2 >>= _) _ _ _
  refine wpAny_bind (wpAny_field hz rfl (x := .bool false) rfl ?_)
  show wpAny _ _ (field (.ref z) 3 >>= _) _ _ _
  refine wpAny_bind (wpAny_field hz rfl (x := .ref TI) rfl ?_)
  refine wpAny_bind (wpAny_seqItems hTI rfl ?_)
  have hne : (its.map Value.ref).toArray.isEmpty = false := by
    cases its with
    | nil => simp at hn
    | cons a r => rfl
  simp only [hne, Bool.false_eq_true, if_false]
  show wpAny _ _ (Builtin.SmallTypes.ownedTupleIsFree (.ref z) >>= _) _ _ _
  refine wpAny_bind (hfree _ ?_)
  simp only [if_true]
  refine wpAny_bind (wpAny_rule ?_)
  refine wpAny_bind (wpAny_field hz rfl (x := .ref TO) rfl ?_)
  refine wpAny_bind (wpAny_setField_rec hz (by simp) fun h₁ hz₁ hs₁ => ?_)
  replace hz₁ : ZObj h₁ z .ellipsis f1 TI TO := hz₁
  have hTO₁ : IsT h₁ TO old := hs₁.extBut _ _ D.TOz hTO
  refine wpAny_bind ?_
  refine wpAny_forIn_list _ (fun rest b s' => b.1 = none ∧ ∃ k, k ≤ its.length ∧ rest = ((its.map Value.ref).zipIdx).drop k ∧ TurnA s z TI TO its ls i old vs f1 k s') _ ?turn ?fin _ _ ?h
  case h =>
    refine ⟨rfl, 0, Nat.zero_le _, by simp, ⟨h₁, rfl, hz₁, by simpa using hTO₁, ?_, Els.of hs₁ (.inl rfl), hs₁.1⟩⟩
    intro k it l hi hl
    simp only [Nat.not_lt_zero, if_false]
    exact (hit k it l hi hl).at fun o e => hs₁.extBut _ _ (D.zi (List.mem_of_getElem? hi)) e
  case turn =>
    rintro ⟨itv, kk⟩ rest b s' ⟨hb, k, hk, hrest, ⟨h', rfl, a1, a2, a3, a4, a5⟩⟩
    have hklt : k < its.length := by
      rcases Nat.lt_or_ge k its.length with q | q
      · exact q
      · rw [List.drop_of_length_le (by simpa using q)] at hrest
        cases hrest
    have hlen : k < ((its.map Value.ref).zipIdx).length := by simpa using hklt
    rw [List.drop_eq_getElem_cons hlen] at hrest
    have he := (List.cons.inj hrest).1
    have hr := (List.cons.inj hrest).2
    have hit2 : its[k]? = some its[k] := List.getElem?_eq_getElem hklt
    have e1 : itv = Value.ref its[k] ∧ kk = k := by
      simp at he
      exact he
    obtain ⟨rfl, rfl⟩ := e1
    have hlk : kk < ls.length := by rw [← D.len]; exact hklt
    have hvk : kk < vs.length := by rw [hvs]; exact hklt
    obtain ⟨xs, hxs, hx⟩ := hls kk ls[kk] vs[kk] (List.getElem?_eq_getElem hlk) (List.getElem?_eq_getElem hvk)
    have hmem : its[kk] ∈ its := List.getElem_mem hklt
    have hlm := D.lsx ls[kk] (List.getElem_mem hlk)
    have hxs' : h'.IsList ls[kk] xs := hxs.at fun o e => a4 _ o hlm.1 hlm.2.1 hlm.2.2 e
    have hitk : h'.IsListIter its[kk] ls[kk] i := by
      have q := a3 kk its[kk] ls[kk] hit2 (List.getElem?_eq_getElem hlk)
      simpa using q
    refine wpAny_bind (wpAny_onRaise ?_)
    show wpAny _ _ (Builtin.SmallTypes.nextOf (.ref its[kk]) >>= _) _ _ _
    refine wpAny_bind (wpAny_nextOf_list_item hitk hxs' hx fun h₂ h1₂ hs₂ => wpAny_pure ?_)
    have hTO₂ : IsT h₂ TO (vs.take kk ++ old.drop kk) := hs₂.extBut _ _ (D.TOi hmem).symm a2
    refine wpAny_bind (wpAny_seqItems hTO₂ rfl ?_)
    refine wpAny_bind (zs_updateSeq hTO₂ (by simp; omega) fun h₃ hTO₃ hs₃ => ?_)
    rw [set_take_drop vs old kk vs[kk] (by rw [hvs, hold]) (List.getElem?_eq_getElem hvk)] at hTO₃
    refine wpAny_bind (wpAny_letGo (wpAny_pure ?_))
    refine ⟨rfl, kk + 1, hklt, hr, ⟨h₃, rfl, ?_, hTO₃, ?_, ?_, ?_⟩⟩
    · exact hs₃.extBut _ _ D.TOz.symm (hs₂.extBut _ _ (D.zi hmem).symm a1)
    · intro j it l hj hl
      by_cases hjk : j = kk
      · subst hjk
        have e2 : it = its[j] := by
          rw [hit2] at hj
          exact (Option.some.inj hj).symm
        have e3 : l = ls[j] := by
          rw [List.getElem?_eq_getElem hlk] at hl
          exact (Option.some.inj hl).symm
        subst e2 e3
        simp only [Nat.lt_succ_self, if_true]
        exact h1₂.at fun o e => hs₃.extBut _ _ (D.TOi hmem) e
      · have q := a3 j it l hj hl
        have hjm : it ∈ its := List.mem_of_getElem? hj
        have e4 : (if j < kk + 1 then i + 1 else i) = (if j < kk then i + 1 else i) := by
          by_cases h5 : j < kk
          · rw [if_pos h5, if_pos (by omega)]
          · rw [if_neg h5, if_neg (by omega)]
        show h₃.IsListIter it l (if j < kk + 1 then i + 1 else i)
        rw [e4]
        exact q.at fun o e => hs₃.extBut _ _ (D.TOi hjm) (hs₂.extBut _ _ (D.ij hj hit2 hjk) e)
    · exact (a4.trans (Els.of hs₂ (.inr (.inr hmem)))).trans (Els.of hs₃ (.inr (.inl rfl)))
    · rw [hs₃.1, hs₂.1, a5]
  case fin =>
    rintro ⟨b1, b2⟩ s' ⟨hb, k, hk, hrest, ⟨h₅, rfl, a1, a2, a3, a4, a5⟩⟩
    have hkn : k = its.length := by
      rcases Nat.lt_or_ge k its.length with q | q
      · rw [List.drop_eq_getElem_cons (by simpa using q)] at hrest
        cases hrest
      · omega
    subst hkn
    simp only at hb
    subst hb
    have hTO₅ : IsT h₅ TO vs := by
      rw [show vs.take its.length = vs from List.take_of_length_le (by omega), show old.drop its.length = [] from List.drop_of_length_le (by omega), List.append_nil] at a2
      exact a2
    refine wpAny_bind (wpAny_seqItems hTO₅ rfl ?_)
    refine wpAny_bind (wpAny_newTuple ?_ (by
      show vs.length ≤ sizeLine
      rw [hvs]
      exact Nat.le_trans hn2 (by decide)))
    have hzlt : z < h₅.objs.size := Heap.lt_size a1
    show wpAny _ _ (Builtin.SmallTypes.ownedTupleHandOut (.ref z) (.ref h₅.objs.size) >>= _) _ _ _
    refine wpAny_bind ?_
    unfold Builtin.SmallTypes.ownedTupleHandOut
    have hz₆ : ZObj (h₅.push { cls := .type "tuple", data := .seq vs.toArray }) z .ellipsis f1 TI TO := Heap.get?_push_of_some _ a1
    refine wpAny_bind (wpAny_setField_rec hz₆ (by simp) fun h₇ hz₇ hs₇ => ?_)
    replace hz₇ : ZObj h₇ z (rawInt h₅.objs.size) f1 TI TO := hz₇
    refine wpAny_setField_rec hz₇ (by simp) fun h₈ hz₈ hs₈ => ?_
    replace hz₈ : ZObj h₈ z (rawInt h₅.objs.size) false TI TO := hz₈
    have up : ∀ c o, c ≠ z → h₅.get? c = some o → h₈.get? c = some o := fun c o c1 e => hs₈.extBut _ _ c1 (hs₇.extBut _ _ c1 (Heap.get?_push_of_some _ e))
    have hT₈ : IsT h₈ h₅.objs.size vs := hs₈.extBut _ _ (Nat.ne_of_gt hzlt) (hs₇.extBut _ _ (Nat.ne_of_gt hzlt) (Heap.get?_push_size _ rfl))
    have hz8 : h₈.objs.size = h₅.objs.size + 1 := by rw [hs₈.1, hs₇.1, Heap.size_push]
    refine wpAny_pure ⟨_, rfl, ?_⟩
    show Q (.ref h₅.objs.size) _
    rw [a5] at hz8 hT₈ ⊢
    refine hQ h₈ ⟨_, hz₈⟩ (up _ _ D.TOz hTO₅) ?_ hT₈ hz8 ?_
    · intro k it l hi hl
      have q := a3 k it l hi hl
      have hk2 : k < its.length := (List.getElem?_eq_some_iff.mp hi).1
      simp only [hk2, if_true] at q
      exact q.at fun o e => up _ o (D.zi (List.mem_of_getElem? hi)) e
    · exact fun c o c1 c2 c3 e => up c o c1 (a4 c o c1 c2 c3 e)
/-- the second way: the tuple of its own is still out; a new list of items is gathered -/
structure TurnB (s : Shared) (z TI TO : Addr) (its ls : List Addr) (i : Nat) (f0 : Value) (k : Nat) (s' : Shared) : Prop where
  eq : ∃ h', s' = { s with heap := h' } ∧ ZObj h' z f0 true TI TO ∧ ItsAt h' its ls (fun j => if j < k then i + 1 else i) ∧ (∀ o, s.heap.get? TO = some o → h'.get? TO = some o) ∧ Els z TO its s.heap h' ∧ h'.objs.size = s.heap.objs.size
theorem zs_next_B {i : Nat} {f0 : Value} {f1 : Bool} {old vs : List Value} {Q : Value → Shared → Prop} (D : Apart z TI TO its ls)
    (hz : ZObj s.heap z f0 f1 TI TO) (hTI : IsT s.heap TI (its.map Value.ref)) (hTO : IsT s.heap TO old) (hit : ItsAt s.heap its ls (fun _ => i)) (hvs : vs.length = its.length) (hn : 0 < its.length) (hn2 : its.length ≤ 1000)
    (hls : ∀ (k : Nat) (l : Addr) (v : Value), ls[k]? = some l → vs[k]? = some v → ∃ xs : Array Value, s.heap.IsList l xs ∧ xs[i]? = some v)
    (hfree : ∀ Q' : Bool → Shared → Prop, (∀ h', ZObj h' z f0 true TI TO → Heap.SameBut z s.heap h' → Q' false { s with heap := h' }) → wpAny (model prog w) A (Builtin.SmallTypes.ownedTupleIsFree (.ref z)) Q' E s)
    (hQ : ∀ h', ZObj h' z f0 true TI TO → IsT h' TO old → ItsAt h' its ls (fun _ => i + 1) → IsT h' s.heap.objs.size vs → h'.objs.size = s.heap.objs.size + 1 → Els z TO its s.heap h' → Q (.ref s.heap.objs.size) { s with heap := h' }) :
    wpAny (model prog w) A (Builtin.«zip.__next__» ⟨[.ref z], []⟩) (fun fin s' => ∃ v, fin = .done (.ret v) ∧ Q v s') E s := by
  show wpAny _ _ (field (.ref z) 2 >>= _) _ _ _
  refine wpAny_bind (wpAny_field hz rfl (x := .bool false) rfl ?_)
  show wpAny _ _ (field (.ref z) 3 >>= _) _ _ _
  refine wpAny_bind (wpAny_field hz rfl (x := .ref TI) rfl ?_)
  refine wpAny_bind (wpAny_seqItems hTI rfl ?_)
  have hne : (its.map Value.ref).toArray.isEmpty = false := by
    cases its with
    | nil => simp at hn
    | cons a r => rfl
  simp only [hne, Bool.false_eq_true, if_false]
  show wpAny _ _ (Builtin.SmallTypes.ownedTupleIsFree (.ref z) >>= _) _ _ _
  refine wpAny_bind (hfree _ fun h₁ hz₁ hs₁ => ?_)
  simp only [Bool.false_eq_true, if_false]
  refine wpAny_bind ?_
  refine MeetsSeq2.wpAny_forIn_array _ (fun rest b s' => b.1 = none ∧ ∃ k, k ≤ its.length ∧ rest = (its.map Value.ref).drop k ∧ b.2 = (vs.take k).toArray ∧ TurnB s z TI TO its ls i f0 k s') _ ?turn ?fin _ _ ?h
  case h =>
    refine ⟨rfl, 0, Nat.zero_le _, by simp, by simp, ⟨h₁, rfl, hz₁, ?_, fun o e => hs₁.extBut _ _ D.TOz e, Els.of hs₁ (.inl rfl), hs₁.1⟩⟩
    intro k it l hi hl
    simp only [Nat.not_lt_zero, if_false]
    exact (hit k it l hi hl).at fun o e => hs₁.extBut _ _ (D.zi (List.mem_of_getElem? hi)) e
  case turn =>
    rintro itv rest b s' ⟨hb, k, hk, hrest, hb2, ⟨h', rfl, a1, a3, a2, a4, a5⟩⟩
    have hklt : k < its.length := by
      rcases Nat.lt_or_ge k its.length with q | q
      · exact q
      · rw [List.drop_of_length_le (by simpa using q)] at hrest
        cases hrest
    have hlen : k < (its.map Value.ref).length := by simpa using hklt
    rw [List.drop_eq_getElem_cons hlen] at hrest
    have he := (List.cons.inj hrest).1
    have hr := (List.cons.inj hrest).2
    have hit2 : its[k]? = some its[k] := List.getElem?_eq_getElem hklt
    have e1 : itv = Value.ref its[k] := by simpa using he
    subst e1
    have hlk : k < ls.length := by rw [← D.len]; exact hklt
    have hvk : k < vs.length := by rw [hvs]; exact hklt
    obtain ⟨xs, hxs, hx⟩ := hls k ls[k] vs[k] (List.getElem?_eq_getElem hlk) (List.getElem?_eq_getElem hvk)
    have hmem : its[k] ∈ its := List.getElem_mem hklt
    have hlm := D.lsx ls[k] (List.getElem_mem hlk)
    have hxs' : h'.IsList ls[k] xs := hxs.at fun o e => a4 _ o hlm.1 hlm.2.1 hlm.2.2 e
    have hitk : h'.IsListIter its[k] ls[k] i := by
      have q := a3 k its[k] ls[k] hit2 (List.getElem?_eq_getElem hlk)
      simpa using q
    obtain ⟨b1, b2⟩ := b
    simp only at hb hb2
    subst hb hb2
    refine wpAny_bind (wpAny_holding ?_)
    show wpAny _ _ (Builtin.SmallTypes.nextOf (.ref its[k]) >>= _) _ _ _
    refine wpAny_bind (wpAny_nextOf_list_item hitk hxs' hx fun h₂ h1₂ hs₂ => wpAny_pure (wpAny_pure ?_))
    refine ⟨rfl, k + 1, hklt, hr, ?_, ⟨h₂, rfl, hs₂.extBut _ _ (D.zi hmem).symm a1, ?_, fun o e => hs₂.extBut _ _ (D.TOi hmem).symm (a2 o e), a4.trans (Els.of hs₂ (.inr (.inr hmem))), by rw [hs₂.1, a5]⟩⟩
    · rw [List.take_add_one, List.getElem?_eq_getElem hvk]
      simp
    · intro j it l hj hl
      by_cases hjk : j = k
      · subst hjk
        have e2 : it = its[j] := by
          rw [hit2] at hj
          exact (Option.some.inj hj).symm
        have e3 : l = ls[j] := by
          rw [List.getElem?_eq_getElem hlk] at hl
          exact (Option.some.inj hl).symm
        subst e2 e3
        simp only [Nat.lt_succ_self, if_true]
        exact h1₂
      · have q := a3 j it l hj hl
        have hjm : it ∈ its := List.mem_of_getElem? hj
        have e4 : (if j < k + 1 then i + 1 else i) = (if j < k then i + 1 else i) := by
          by_cases h5 : j < k
          · rw [if_pos h5, if_pos (by omega)]
          · rw [if_neg h5, if_neg (by omega)]
        show h₂.IsListIter it l (if j < k + 1 then i + 1 else i)
        rw [e4]
        exact q.at fun o e => hs₂.extBut _ _ (D.ij hj hit2 hjk) e
  case fin =>
    rintro ⟨b1, b2⟩ s' ⟨hb, k, hk, hrest, hb2, ⟨h₅, rfl, a1, a3, a2, a4, a5⟩⟩
    have hkn : k = its.length := by
      rcases Nat.lt_or_ge k its.length with q | q
      · rw [List.drop_eq_getElem_cons (by simpa using q)] at hrest
        cases hrest
      · omega
    subst hkn
    simp only at hb hb2
    subst hb hb2
    rw [show vs.take its.length = vs from List.take_of_length_le (by omega)]
    refine wpAny_bind (wpAny_newTuple ?_ (by
      show vs.length ≤ sizeLine
      rw [hvs]
      exact Nat.le_trans hn2 (by decide)))
    refine wpAny_pure ⟨_, rfl, ?_⟩
    have up : ∀ c o, h₅.get? c = some o → (h₅.push { cls := .type "tuple", data := .seq vs.toArray }).get? c = some o := fun c o e => Heap.get?_push_of_some _ e
    show Q (.ref h₅.objs.size) _
    have g := hQ (h₅.push { cls := .type "tuple", data := .seq vs.toArray }) (up _ _ a1) (up _ _ (a2 _ hTO)) ?_ (by rw [← a5]; exact Heap.get?_push_size _ rfl) (by rw [Heap.size_push, a5]) (fun c o c1 c2 c3 e => up _ _ (a4 c o c1 c2 c3 e))
    · rw [← a5] at g
      exact g
    · intro k it l hi hl
      have q := a3 k it l hi hl
      have hk2 : k < its.length := (List.getElem?_eq_some_iff.mp hi).1
      simp only [hk2, if_true] at q
      exact q.at fun o e => up _ _ e
end
end ZS
set_option Elab.async false
set_option linter.all false
set_option maxRecDepth 100000
set_option maxHeartbeats 4000000
namespace ZS
open PySem
set_option autoImplicit false
section
variable {prog : Program} {w : World} {A : Around} {E : Value → Shared → Prop} {s : Shared} {z TI TO : Addr} {its ls : List Addr}
/-- the first list is at its end -/
theorem zs_next_end {i : Nat} {f0 : Value} {f1 : Bool} {it l : Addr} {rest : List Addr} {xs : Array Value} {Q : Fin → Shared → Prop} (hh : A.handled = none) (D : Apart z TI TO (it :: rest) ls)
    (hz : ZObj s.heap z f0 f1 TI TO) (hf : f0 = .none ∨ ∃ T : Nat, f0 = rawInt T) (hTI : IsT s.heap TI ((it :: rest).map Value.ref)) (hit : s.heap.IsListIter it l i) (hl : s.heap.IsList l xs) (hlz : l ≠ z) (hx : xs[i]? = none)
    (hE : ∀ h' e, Els z TO (it :: rest) s.heap h' → (∃ o, h'.get? e = some o ∧ o.cls = .type "StopIteration") → E (.ref e) { s with heap := h' }) :
    wpAny (model prog w) A (Builtin.«zip.__next__» ⟨[.ref z], []⟩) Q E s := by
  have hiz : it ≠ z := D.zi List.mem_cons_self
  show wpAny _ _ (field (.ref z) 2 >>= _) _ _ _
  refine wpAny_bind (wpAny_field hz rfl (x := .bool false) rfl ?_)
  show wpAny _ _ (field (.ref z) 3 >>= _) _ _ _
  refine wpAny_bind (wpAny_field hz rfl (x := .ref TI) rfl ?_)
  refine wpAny_bind (wpAny_seqItems hTI rfl ?_)
  have hne : ((it :: rest).map Value.ref).toArray.isEmpty = false := rfl
  simp only [hne, Bool.false_eq_true, if_false]
  show wpAny _ _ (Builtin.SmallTypes.ownedTupleIsFree (.ref z) >>= _) _ _ _
  refine wpAny_bind (zs_free hz hf ?_ fun h₁ hz₁ hs₁ => ?_)
  · simp only [if_true]
    refine wpAny_bind (wpAny_rule ?_)
    refine wpAny_bind (wpAny_field hz rfl (x := .ref TO) rfl ?_)
    refine wpAny_bind (wpAny_setField_rec hz (by simp) fun h₁ hz₁ hs₁ => ?_)
    replace hz₁ : ZObj h₁ z .ellipsis f1 TI TO := hz₁
    refine wpAny_bind ?_
    simp only [List.map_cons, List.zipIdx_cons, List.forIn_cons]
    refine wpAny_bind (wpAny_bind (wpAny_onRaise ?_))
    show wpAny _ _ (Builtin.SmallTypes.nextOf (.ref it) >>= _) _ _ _
    refine wpAny_bind (wpAny_nextOf_list_end hh (hit.extBut hs₁.extBut hiz) (hl.extBut hs₁.extBut hlz) hx fun h₂ e hs₂ he => ?_)
    obtain ⟨oe, hoe, hce⟩ := he
    have hz₂ : ZObj h₂ z .ellipsis f1 TI TO := hs₂ _ _ hiz.symm hz₁
    have hez : e ≠ z := fun x => by
      subst x
      rw [hz₂] at hoe
      cases hoe
      simp at hce
    refine wpAny_setField_rec hz₂ (by simp) fun h₃ _ hs₃ => hE h₃ e (fun c o c1 c2 c3 x => hs₃.extBut _ _ c1 (hs₂ _ _ (fun q => c3 (by rw [q]; exact List.mem_cons_self)) (hs₁.extBut _ _ c1 x))) ⟨oe, hs₃.extBut _ _ hez hoe, hce⟩
  · simp only [Bool.false_eq_true, if_false]
    refine wpAny_bind ?_
    rw [← Array.forIn_toList]
    simp only [List.map_cons, List.forIn_cons]
    refine wpAny_bind (wpAny_bind (wpAny_holding ?_))
    show wpAny _ _ (Builtin.SmallTypes.nextOf (.ref it) >>= _) _ _ _
    refine wpAny_bind (wpAny_nextOf_list_end hh (hit.extBut hs₁.extBut hiz) (hl.extBut hs₁.extBut hlz) hx fun h₂ e hs₂ he => ?_)
    exact hE h₂ e (fun c o c1 c2 c3 x => hs₂ _ _ (fun q => c3 (by rw [q]; exact List.mem_cons_self)) (hs₁.extBut _ _ c1 x)) he

/-- the state of a zip over lists, behind i turns -/
structure ZSt (h : Heap) (z TI TO : Addr) (its ls : List Addr) (i : Nat) : Prop where
  z : ∃ (f0 : Value) (f1 : Bool), (f0 = .none ∨ ∃ T : Nat, f0 = rawInt T) ∧ ZObj h z f0 f1 TI TO
  ti : IsT h TI (its.map Value.ref)
  to : ∃ old : List Value, old.length = its.length ∧ IsT h TO old
  its : ItsAt h its ls (fun _ => i)
theorem pyNext_item {i : Nat} {vs : List Value} {Q : Option Value → Shared → Prop} (D : Apart z TI TO its ls) (S : ZSt s.heap z TI TO its ls i) (hvs : vs.length = its.length) (hn : 0 < its.length) (hn2 : its.length ≤ 1000)
    (hls : ∀ (k : Nat) (l : Addr) (v : Value), ls[k]? = some l → vs[k]? = some v → ∃ xs : Array Value, s.heap.IsList l xs ∧ xs[i]? = some v)
    (hQ : ∀ h', ZSt h' z TI TO its ls (i + 1) → IsT h' s.heap.objs.size vs → h'.objs.size = s.heap.objs.size + 1 → Els z TO its s.heap h' → Q (some (.ref s.heap.objs.size)) { s with heap := h' }) :
    wpAny (model prog w) A (pyNext (.ref z)) Q E s := by
  obtain ⟨f0, f1, hf, hz⟩ := S.z
  obtain ⟨old, hold, hTO⟩ := S.to
  have hT : s.TypeIs (.ref z) "zip" := ⟨_, hz, rfl⟩
  have goA : ∀ Q' : Option Value → Shared → Prop, Q' = Q → (∀ (A' : Around) (E' : Value → Shared → Prop) (Q' : Bool → Shared → Prop), Q' true s → wpAny (model prog w) A' (Builtin.SmallTypes.ownedTupleIsFree (.ref z)) Q' E' s) → wpAny (model prog w) A (pyNext (.ref z)) Q E s := by
    intro _ _ hfree
    unfold pyNext
    exact wpAny_bind (wpAny_attempt (wpAny_callSpecial?_slot (name := Str.ofString "__next__") hT F.slot_zip_next
      (wpAny_call_entry F.slot_zip_next hT F.entry_zip_next
        (zs_next_A D hz S.ti hTO S.its hold hvs hn hn2 hls (fun Q' q => hfree _ _ Q' q) fun h' ⟨T, a1⟩ a2 a3 a4 a5 a6 => wpAny_pure (hQ h' ⟨⟨_, _, .inr ⟨T, rfl⟩, a1⟩, a6 _ _ D.TIz D.TITO (fun q => D.TIi q rfl) S.ti, ⟨vs, hvs, a2⟩, a3⟩ a4 a5 a6)) (F.args_zip_next_1 _))))
  rcases hf with rfl | ⟨T, rfl⟩
  · refine goA Q rfl fun A' E' Q' q => ?_
    unfold Builtin.SmallTypes.ownedTupleIsFree
    exact wpAny_bind (wpAny_field hz rfl (x := .none) rfl (wpAny_pure q))
  · cases hg : s.heap.get? ((T : Int).toNat) with
    | none =>
      refine goA Q rfl fun A' E' Q' q => ?_
      unfold Builtin.SmallTypes.ownedTupleIsFree
      refine wpAny_bind (wpAny_field hz rfl (x := rawInt T) rfl ?_)
      show wpAny _ _ (loadIfAlive ((T : Int).toNat) >>= _) _ _ _
      refine wpAny_bind (zs_alive ?_)
      rw [hg]
      exact wpAny_pure q
    | some o =>
      unfold pyNext
      refine wpAny_bind (wpAny_attempt (wpAny_callSpecial?_slot (name := Str.ofString "__next__") hT F.slot_zip_next
        (wpAny_call_entry F.slot_zip_next hT F.entry_zip_next
          (zs_next_B D hz S.ti hTO S.its hvs hn hn2 hls (fun Q' q => ?_) fun h' a1 a2 a3 a4 a5 a6 => wpAny_pure (hQ h' ⟨⟨_, _, .inr ⟨T, rfl⟩, a1⟩, a6 _ _ D.TIz D.TITO (fun q => D.TIi q rfl) S.ti, ⟨old, hold, a2⟩, a3⟩ a4 a5 a6)) (F.args_zip_next_1 _))))
      unfold Builtin.SmallTypes.ownedTupleIsFree
      refine wpAny_bind (wpAny_field hz rfl (x := rawInt T) rfl ?_)
      show wpAny _ _ (loadIfAlive ((T : Int).toNat) >>= _) _ _ _
      refine wpAny_bind (zs_alive ?_)
      rw [hg]
      simp only [Option.isNone_some, Bool.false_eq_true, if_false]
      refine wpAny_bind (wpAny_field hz rfl (x := .bool f1) rfl ?_)
      cases f1 with
      | true =>
        rw [if_neg (show ¬ ((Value.bool true != Value.bool true) = true) from Bool.false_ne_true)]
        exact wpAny_pure (q s.heap hz (Heap.SameBut.refl _ _))
      | false =>
        rw [if_pos (show (Value.bool false != Value.bool true) = true from rfl)]
        exact wpAny_bind (wpAny_setField_rec hz (by simp) fun h₁ hz₁ hs₁ => wpAny_pure (q h₁ hz₁ hs₁))
theorem pyNext_end {i : Nat} {it l : Addr} {rest lr : List Addr} {xs : Array Value} {Q : Option Value → Shared → Prop} (hh : A.handled = none) (D : Apart z TI TO (it :: rest) (l :: lr)) (S : ZSt s.heap z TI TO (it :: rest) (l :: lr) i) (hl : s.heap.IsList l xs) (hx : xs[i]? = none)
    (hQ : ∀ h', Els z TO (it :: rest) s.heap h' → Q none { s with heap := h' }) : wpAny (model prog w) A (pyNext (.ref z)) Q E s := by
  obtain ⟨f0, f1, hf, hz⟩ := S.z
  have hT : s.TypeIs (.ref z) "zip" := ⟨_, hz, rfl⟩
  unfold pyNext
  refine wpAny_bind (wpAny_attempt (wpAny_callSpecial?_slot (name := Str.ofString "__next__") hT F.slot_zip_next
    (wpAny_call_entry F.slot_zip_next hT F.entry_zip_next (zs_next_end hh D hz hf S.ti (S.its 0 it l rfl rfl) hl (D.lsx l List.mem_cons_self).1 hx fun h' e hk he => ?_) (F.args_zip_next_1 _))))
  obtain ⟨o, ho, hc⟩ := he
  refine wpAny_bind (wpAny_isInstance (T := "StopIteration") (b := true) ⟨o, ho, hc⟩ isSubtype_stop ?_)
  exact wpAny_pure (hQ _ hk)
theorem pyIter_z {f0 : Value} {f1 : Bool} {Q : Value → Shared → Prop} (hz : ZObj s.heap z f0 f1 TI TO) (h : Q (.ref z) s) : wpAny (model prog w) A (pyIter (.ref z)) Q E s := by
  have hT : s.TypeIs (.ref z) "zip" := ⟨_, hz, rfl⟩
  refine wpAny_pyIter_slot hT F.slot_zip_iter (wpAny_call_entry F.slot_zip_iter hT F.entry_zip_iter ?_ (F.args_zip_iter_1 _))
  show wpAny _ _ (ret (.ref z)) _ _ s
  exact wpAny_pure ⟨_, rfl, "zip", _, hT, F.slot_zip_next.lookup, h⟩

/-! ### zip(*xss): making it -/
theorem ct_zip : ∀ args : List Value, 0 < args.length → args.length ≤ 8 → checkTypeCall "zip" ⟨args, []⟩ = pure ()
  | [_], _, _ => by kernel_rfl
  | [_, _], _, _ => by kernel_rfl
  | [_, _, _], _, _ => by kernel_rfl
  | [_, _, _, _], _, _ => by kernel_rfl
  | [_, _, _, _, _], _, _ => by kernel_rfl
  | [_, _, _, _, _, _], _, _ => by kernel_rfl
  | [_, _, _, _, _, _, _], _, _ => by kernel_rfl
  | [_, _, _, _, _, _, _, _], _, _ => by kernel_rfl
  | [], h, _ => by simp at h
  | _ :: _ :: _ :: _ :: _ :: _ :: _ :: _ :: _ :: _, _, h => by
    simp only [List.length_cons] at h
    omega
theorem cn_zip : ∀ args : List Value, 0 < args.length → args.length ≤ 8 → checkBuiltinCall "zip.__new__" ⟨.type "zip" :: args, []⟩ = pure ()
  | [_], _, _ => by kernel_rfl
  | [_, _], _, _ => by kernel_rfl
  | [_, _, _], _, _ => by kernel_rfl
  | [_, _, _, _], _, _ => by kernel_rfl
  | [_, _, _, _, _], _, _ => by kernel_rfl
  | [_, _, _, _, _, _], _, _ => by kernel_rfl
  | [_, _, _, _, _, _, _], _, _ => by kernel_rfl
  | [_, _, _, _, _, _, _, _], _, _ => by kernel_rfl
  | [], h, _ => by simp at h
  | _ :: _ :: _ :: _ :: _ :: _ :: _ :: _ :: _ :: _, _, h => by
    simp only [List.length_cons] at h
    omega
theorem ao_zip (obj : Value) : ∀ args : List Value, 0 < args.length → args.length ≤ 8 → argsOk "object.__init__" ⟨obj :: args, []⟩
  | [_], _, _ => by
    unfold argsOk; rw [signature?_of (id := "object.__init__") (n := ['_', '_', 't', 'i', 'n', 'i', '_', '_']) (o := ['t', 'c', 'e', 'j', 'b', 'o']) (by kernel_rfl) F.owner_object]; kernel_rfl
  | [_, _], _, _ => by
    unfold argsOk; rw [signature?_of (id := "object.__init__") (n := ['_', '_', 't', 'i', 'n', 'i', '_', '_']) (o := ['t', 'c', 'e', 'j', 'b', 'o']) (by kernel_rfl) F.owner_object]; kernel_rfl
  | [_, _, _], _, _ => by
    unfold argsOk; rw [signature?_of (id := "object.__init__") (n := ['_', '_', 't', 'i', 'n', 'i', '_', '_']) (o := ['t', 'c', 'e', 'j', 'b', 'o']) (by kernel_rfl) F.owner_object]; kernel_rfl
  | [_, _, _, _], _, _ => by
    unfold argsOk; rw [signature?_of (id := "object.__init__") (n := ['_', '_', 't', 'i', 'n', 'i', '_', '_']) (o := ['t', 'c', 'e', 'j', 'b', 'o']) (by kernel_rfl) F.owner_object]; kernel_rfl
  | [_, _, _, _, _], _, _ => by
    unfold argsOk; rw [signature?_of (id := "object.__init__") (n := ['_', '_', 't', 'i', 'n', 'i', '_', '_']) (o := ['t', 'c', 'e', 'j', 'b', 'o']) (by kernel_rfl) F.owner_object]; kernel_rfl
  | [_, _, _, _, _, _], _, _ => by
    unfold argsOk; rw [signature?_of (id := "object.__init__") (n := ['_', '_', 't', 'i', 'n', 'i', '_', '_']) (o := ['t', 'c', 'e', 'j', 'b', 'o']) (by kernel_rfl) F.owner_object]; kernel_rfl
  | [_, _, _, _, _, _, _], _, _ => by
    unfold argsOk; rw [signature?_of (id := "object.__init__") (n := ['_', '_', 't', 'i', 'n', 'i', '_', '_']) (o := ['t', 'c', 'e', 'j', 'b', 'o']) (by kernel_rfl) F.owner_object]; kernel_rfl
  | [_, _, _, _, _, _, _, _], _, _ => by
    unfold argsOk; rw [signature?_of (id := "object.__init__") (n := ['_', '_', 't', 'i', 'n', 'i', '_', '_']) (o := ['t', 'c', 'e', 'j', 'b', 'o']) (by kernel_rfl) F.owner_object]; kernel_rfl
  | [], h, _ => by simp at h
  | _ :: _ :: _ :: _ :: _ :: _ :: _ :: _ :: _ :: _, _, h => by
    simp only [List.length_cons] at h
    omega
/-- the iterators laid one behind the other -/
def pushIts (h : Heap) : List Addr → Heap
  | [] => h
  | l :: r => pushIts (h.push { cls := .type "list_iterator", data := .fields #[.ref l, .int 0 0] }) r
theorem pushIts_size : ∀ (ls : List Addr) (h : Heap), (pushIts h ls).objs.size = h.objs.size + ls.length
  | [], h => rfl
  | l :: r, h => by
    show (pushIts _ r).objs.size = _
    rw [pushIts_size r, Heap.size_push, List.length_cons]
    omega
theorem pushIts_keep : ∀ (ls : List Addr) (h : Heap) (c : Addr) (o : Obj), h.get? c = some o → (pushIts h ls).get? c = some o
  | [], h, _, _, e => e
  | l :: r, h, c, o, e => pushIts_keep r _ c o (Heap.get?_push_of_some _ e)
theorem pushIts_at : ∀ (ls : List Addr) (h : Heap) (k : Nat) (l : Addr), ls[k]? = some l → (pushIts h ls).get? (h.objs.size + k) = some { cls := .type "list_iterator", data := .fields #[.ref l, .int 0 0] }
  | [], _, _, _, e => by simp at e
  | a :: r, h, 0, l, e => by
    have e' : a = l := by simpa using e
    subst e'
    exact pushIts_keep r _ _ _ (Heap.get?_push_size _ rfl)
  | a :: r, h, k + 1, l, e => by
    have g := pushIts_at r (h.push { cls := .type "list_iterator", data := .fields #[.ref a, .int 0 0] }) k l (by simpa using e)
    rw [Heap.size_push] at g
    show (pushIts _ r).get? (h.objs.size + (k + 1)) = _
    rw [show h.objs.size + (k + 1) = h.objs.size + 1 + k by omega]
    exact g
theorem pushIts_snoc : ∀ (ls : List Addr) (h : Heap) (l : Addr), pushIts h (ls ++ [l]) = (pushIts h ls).push { cls := .type "list_iterator", data := .fields #[.ref l, .int 0 0] }
  | [], h, l => rfl
  | a :: r, h, l => pushIts_snoc r _ l
abbrev itsOf (h : Heap) (ls : List Addr) : List Addr := List.range' h.objs.size ls.length
theorem meets_zip_new (ls : List Addr) (hn : ls.length ≤ 8) :
    Meets (Builtin.«zip.__new__» ⟨.type "zip" :: ls.map Value.ref, []⟩) (fun _ R s => (∀ l ∈ ls, ∃ xs, s.heap.IsList l xs) ∧
      R (.ok (.ret (.ref (s.heap.objs.size + ls.length + 2)))) { s with heap := (((pushIts s.heap ls).push { cls := .type "tuple", data := .seq ((itsOf s.heap ls).map Value.ref).toArray }).push { cls := .type "tuple", data := .seq ((itsOf s.heap ls).map fun _ => Value.none).toArray }).push { cls := .type "zip", data := .fields #[.none, .bool false, .bool false, .ref (s.heap.objs.size + ls.length), .ref (s.heap.objs.size + ls.length + 1)] } }) :=
  .of_wp fun prog w A R s h => by
    obtain ⟨hp, g, d, tk, os⟩ := s
    obtain ⟨hl, h⟩ := h
    have hsub := sub_zip
    wp_walk using wpAny_forIn_list _ (fun (rest : List Value) (b : Array Value) s' => ∃ (dn lr : List Addr), ls = dn ++ lr ∧ rest = lr.map Value.ref ∧ b = ((itsOf hp dn).map Value.ref).toArray ∧ s' = ⟨pushIts hp dn, g, d, tk, os⟩) _
    case turn =>
      rintro y rest b s' ⟨dn, lr, e1, e2, e3, e4⟩
      cases lr with
      | nil => cases e2
      | cons l lr =>
        simp only [List.map_cons, List.cons.injEq] at e2
        obtain ⟨rfl, rfl⟩ := e2
        subst e3 e4
        obtain ⟨xs, hxs⟩ := hl l (by rw [e1]; simp)
        have hxs' : (pushIts hp dn).IsList l xs := hxs.at fun o e => pushIts_keep _ _ _ _ e
        refine wpAny_bind (wpAny_holding (wpAny_pyIter_list hxs' ?_))
        refine wpAny_pure ?_
        refine ⟨dn ++ [l], lr, by rw [e1]; simp, rfl, ?_, ?_⟩
        · show ((List.map Value.ref (itsOf hp dn)).toArray.push (Value.ref (pushIts hp dn).objs.size)) = _
          rw [pushIts_size]
          unfold itsOf
          rw [List.length_append, List.length_singleton, List.range'_concat]
          simp
        · rw [pushIts_snoc]
    case fin =>
      rintro b s' ⟨dn, lr, e1, e2, e3, e4⟩
      cases lr with
      | cons l lr => cases e2
      | nil =>
        rw [List.append_nil] at e1
        subst e1 e3 e4
        have hsz : ls.length ≤ sizeLine := Nat.le_trans hn (by decide)
        refine wpAny_pure ?_
        refine wpAny_bind (wpAny_newTuple ?_ (by
          simp
          exact hsz))
        refine wpAny_bind (wpAny_newTuple ?_ (by
          simp
          exact hsz))
        have z1 := pushIts_size ls hp
        refine wpAny_bind ?_
        unfold Builtin.SmallTypes.newRecord
        refine wpAny_newObj_type ?_ (by
          show (5 : Nat) ≤ sizeLine + 2
          decide)
        refine wpAny_pure ⟨_, rfl, ?_⟩
        have e5 : ∀ h : Heap, ∀ o : Obj, (h.push o).objs.size = h.objs.size + 1 := fun h o => Heap.size_push ..
        simp only [e5, z1]
        simpa [Function.comp_def, Builtin.SmallTypes.ownedTupleFields] using h
    case h =>
      exact ⟨[], ls, rfl, rfl, rfl, rfl⟩
end
end ZS
set_option Elab.async false
set_option linter.all false
set_option maxRecDepth 100000
set_option maxHeartbeats 4000000
/-! zip(*xss) as a rule: for and comprehensions over it, list(zip(*xss)). -/
namespace ZS
open PySem PySem.Spec PyProof.Rows L2
set_option autoImplicit false
abbrev St := L2.St
theorem nodup_range' (n a : Nat) : (List.range' a n).Nodup := List.nodup_range'
theorem apart_new (h : Heap) (ls : List Addr) (hl : ∀ l ∈ ls, l < h.objs.size) : Apart (h.objs.size + ls.length + 2) (h.objs.size + ls.length) (h.objs.size + ls.length + 1) (itsOf h ls) ls := by
  have hm : ∀ x : Nat, x ∈ itsOf h ls → h.objs.size ≤ x ∧ x < h.objs.size + ls.length := fun x hx => by
    have := List.mem_range'_1.mp hx
    omega
  have key : ∀ (a b : Nat), a ≠ b → (a : Addr) ≠ b := fun a b h => h
  refine ⟨?_, fun l h' => ?_, by simp⟩
  · refine List.nodup_cons.mpr ⟨fun q => ?_, List.nodup_cons.mpr ⟨fun q => ?_, List.nodup_cons.mpr ⟨fun q => ?_, List.nodup_range'⟩⟩⟩
    · rcases List.mem_cons.mp q with q | q
      · exact absurd q (by show ¬ (h.objs.size + ls.length + 2 : Nat) = h.objs.size + ls.length; omega)
      · rcases List.mem_cons.mp q with q | q
        · exact absurd q (by show ¬ (h.objs.size + ls.length + 2 : Nat) = h.objs.size + ls.length + 1; omega)
        · have := hm _ q
          omega
    · rcases List.mem_cons.mp q with q | q
      · exact absurd q (by show ¬ (h.objs.size + ls.length : Nat) = h.objs.size + ls.length + 1; omega)
      · have := hm _ q
        omega
    · have := hm _ q
      omega
  · have hl' := hl l h'
    refine ⟨fun q => ?_, fun q => ?_, fun q => ?_⟩
    · exact absurd (Nat.lt_of_lt_of_le hl' (by rw [q]; exact Nat.le_trans (Nat.le_add_right _ _) (Nat.le_add_right _ _))) (Nat.lt_irrefl _)
    · exact absurd (Nat.lt_of_lt_of_le hl' (by rw [q]; exact Nat.le_trans (Nat.le_add_right _ _) (Nat.le_add_right _ _))) (Nat.lt_irrefl _)
    · exact absurd (Nat.lt_of_lt_of_le hl' (hm l q).1) (Nat.lt_irrefl _)
section
variable {prog : Program} {w : World} {A : Around} {E : Value → Shared → Prop} {s : Shared}
theorem call_zip {ls : List Addr} {Q : Value → Shared → Prop} (h0 : 0 < ls.length) (h8 : ls.length ≤ 8) (hl : ∀ l ∈ ls, ∃ xs, s.heap.IsList l xs)
    (h : ∀ h', ZSt h' (s.heap.objs.size + ls.length + 2) (s.heap.objs.size + ls.length) (s.heap.objs.size + ls.length + 1) (itsOf s.heap ls) ls 0 → h'.objs.size = s.heap.objs.size + ls.length + 3 →
      (∀ c o, s.heap.get? c = some o → h'.get? c = some o) → Q (.ref (s.heap.objs.size + ls.length + 2)) { s with heap := h' }) :
    wpAny (model prog w) A (call (.type "zip") (ls.map Value.ref)) Q E s := by
  refine callType_new F.called_zip (by decide) (ct_zip _ (by simpa using h0) (by simpa using h8)) (cn_zip _ (by simpa using h0) (by simpa using h8)) (fun obj => ao_zip obj _ (by simpa using h0) (by simpa using h8)) F.entry_zip_new
    (meets_zip_new ls h8) ⟨hl, ?_⟩
  have z1 := pushIts_size ls s.heap
  have z2 : ((pushIts s.heap ls).push { cls := .type "tuple", data := .seq ((itsOf s.heap ls).map Value.ref).toArray }).objs.size = s.heap.objs.size + ls.length + 1 := by rw [Heap.size_push, z1]
  have z3 : (((pushIts s.heap ls).push { cls := .type "tuple", data := .seq ((itsOf s.heap ls).map Value.ref).toArray }).push { cls := .type "tuple", data := .seq ((itsOf s.heap ls).map fun _ => Value.none).toArray }).objs.size = s.heap.objs.size + ls.length + 2 := by rw [Heap.size_push, z2]
  refine ⟨⟨{ cls := .type "zip", data := .fields #[.none, .bool false, .bool false, .ref (s.heap.objs.size + ls.length), .ref (s.heap.objs.size + ls.length + 1)] }, ?_, rfl⟩, h _ ⟨⟨.none, false, .inl rfl, ?_⟩, ?_, ⟨(itsOf s.heap ls).map fun _ => Value.none, by simp, ?_⟩, ?_⟩ ?_ ?_⟩
  · have g := Heap.get?_push_size (((pushIts s.heap ls).push { cls := .type "tuple", data := .seq ((itsOf s.heap ls).map Value.ref).toArray }).push { cls := .type "tuple", data := .seq ((itsOf s.heap ls).map fun _ => Value.none).toArray }) (o := { cls := .type "zip", data := .fields #[.none, .bool false, .bool false, .ref (s.heap.objs.size + ls.length), .ref (s.heap.objs.size + ls.length + 1)] }) rfl
    rw [z3] at g
    exact g
  · have g := Heap.get?_push_size (((pushIts s.heap ls).push { cls := .type "tuple", data := .seq ((itsOf s.heap ls).map Value.ref).toArray }).push { cls := .type "tuple", data := .seq ((itsOf s.heap ls).map fun _ => Value.none).toArray }) (o := { cls := .type "zip", data := .fields #[.none, .bool false, .bool false, .ref (s.heap.objs.size + ls.length), .ref (s.heap.objs.size + ls.length + 1)] }) rfl
    rw [z3] at g
    exact g
  · have g := Heap.get?_push_size (pushIts s.heap ls) (o := { cls := .type "tuple", data := .seq ((itsOf s.heap ls).map Value.ref).toArray }) rfl
    rw [z1] at g
    exact Heap.get?_push_of_some _ (Heap.get?_push_of_some _ g)
  · have g := Heap.get?_push_size ((pushIts s.heap ls).push { cls := .type "tuple", data := .seq ((itsOf s.heap ls).map Value.ref).toArray }) (o := { cls := .type "tuple", data := .seq ((itsOf s.heap ls).map fun _ => Value.none).toArray }) rfl
    rw [z2] at g
    exact Heap.get?_push_of_some _ g
  · intro k it l hi hll
    have e : it = s.heap.objs.size + k := by
      rw [List.getElem?_range' (by
        have := (List.getElem?_eq_some_iff.mp hi).1
        simpa using this)] at hi
      have e2 : s.heap.objs.size + 1 * k = it := Option.some.inj hi
      rw [← e2, Nat.one_mul]
    subst e
    exact ⟨_, Heap.get?_push_of_some _ (Heap.get?_push_of_some _ (Heap.get?_push_of_some _ (pushIts_at ls s.heap k l hll))), rfl, rfl⟩
  · rw [Heap.size_push, z3]
  · exact fun c o e => Heap.get?_push_of_some _ (Heap.get?_push_of_some _ (Heap.get?_push_of_some _ (pushIts_keep ls s.heap c o e)))
end

/-! ### the walk over it -/
/-- the lists at ls, side by side: a new tuple a turn; it ends with the first of them -/
def Its (K : PySem.W.Frag) (ls : List Addr) : It :=
  ⟨fun i H => ∃ vs : List V, vs.length = ls.length ∧ ∀ (k : Nat) (l : Addr) (v : V), ls[k]? = some l → vs[k]? = some v → ∃ xs, SqL K H l xs ∧ xs[i]? = some v,
   fun i H v H' => ∃ (T : Addr) (vs : List V), v = .ref T ∧ H T = none ∧ H' = upd H T (.tup vs) ∧ vs.length = ls.length ∧ ∀ (k : Nat) (l : Addr) (v : V), ls[k]? = some l → vs[k]? = some v → ∀ xs, SqL K H l xs → xs[i]? = some v,
   fun i H => ∃ l xs, ls[0]? = some l ∧ SqL K H l xs ∧ xs.length ≤ i⟩
def fpZ (z TI TO : Addr) (its : List Addr) : List Addr := z :: TI :: TO :: its
theorem pick {α β : Type} {R : α → β → Prop} : ∀ (n : Nat) (l : List α), l.length = n → (∀ (k : Nat) (a : α), l[k]? = some a → ∃ b, R a b) → ∃ bs : List β, bs.length = l.length ∧ ∀ (k : Nat) (a : α) (b : β), l[k]? = some a → bs[k]? = some b → R a b
  | _, [], _, _ => ⟨[], rfl, fun k a b e => by simp at e⟩
  | _, a :: r, _, h => by
    obtain ⟨b, hb⟩ := h 0 a rfl
    obtain ⟨bs, h1, h2⟩ := pick _ r rfl fun k a' e => h (k + 1) a' e
    refine ⟨b :: bs, by simp [h1], fun k a' b' e1 e2 => ?_⟩
    cases k with
    | zero =>
      have e3 : a = a' := by simpa using e1
      have e4 : b = b' := by simpa using e2
      subst e3 e4
      exact hb
    | succ k => exact h2 k a' b' (by simpa using e1) (by simpa using e2)
/-- the values of a turn -/
theorem turn_vals {X : Cx} {pins : List (Addr × Obj)} {σ : St} {H : Hp} {s : Shared} {i : Nat} (I : Inv X pins σ H s) : ∀ (vs : List V) (ls : List Addr), vs.length = ls.length →
    (∀ (k : Nat) (l : Addr) (v : V), ls[k]? = some l → vs[k]? = some v → ∃ xs, SqL X.K H l xs ∧ xs[i]? = some v) →
    ∃ us : List Value, Vals vs us ∧ ∀ (k : Nat) (l : Addr) (u : Value), ls[k]? = some l → us[k]? = some u → ∃ ys : Array Value, s.heap.IsList l ys ∧ ys[i]? = some u
  | [], [], _, _ => ⟨[], .nil, fun k l u e => by simp at e⟩
  | v :: vs, l :: ls, hl, h => by
    obtain ⟨us, h1, h2⟩ := turn_vals I vs ls (by simpa using hl) fun k l v e1 e2 => h (k + 1) l v e1 e2
    obtain ⟨xs, hq, hx⟩ := h 0 l v rfl rfl
    obtain ⟨its, rv, p, hz⟩ := I.list hq
    obtain ⟨u, hu, ru⟩ := rv.get hx
    refine ⟨u :: us, .cons ru h1, fun k l' u' e1 e2 => ?_⟩
    cases k with
    | zero =>
      have e3 : l = l' := by simpa using e1
      have e4 : u = u' := by simpa using e2
      subst e3 e4
      exact ⟨its.toArray, p.isList, by simpa using hu⟩
    | succ k => exact h2 k l' u' (by simpa using e1) (by simpa using e2)
  | [], _ :: _, hl, _ => by simp at hl
  | _ :: _, [], hl, _ => by simp at hl
theorem go_name {M : Model} {A : Around} {E : Value → Shared → Prop} {s : Shared} {x : Str} {p : Pos} {it u : Value} {Q : Unit → Shared → Prop} (hQ : Q () s) : wpAny M A (letOwnedTupleGo (.Name x p) it u) Q E s := wpAny_pure hQ
theorem turn_z {P : Program} {w : World} {K : PySem.W.Frag} {x : Str} {p : Pos} {z TI TO : Addr} {its ls : List Addr} (D : Apart z TI TO its ls) (h0 : 0 < its.length) (h8 : its.length ≤ 8) :
    Turn P w K (.Name x p) (Its K ls) (fpZ z TI TO its) z (fun i h => ZSt h z TI TO its ls i) where
  mem := by simp [fpZ]
  obj := fun i h st c hc => by
    obtain ⟨f0, f1, hf, hz⟩ := st.z
    obtain ⟨old, ho, hTO⟩ := st.to
    rcases List.mem_cons.mp hc with q | hc
    · rw [q]
      exact ⟨_, hz, fun v q => nomatch q⟩
    · rcases List.mem_cons.mp hc with q | hc
      · rw [q]
        exact ⟨_, st.ti, fun v q => nomatch q⟩
      · rcases List.mem_cons.mp hc with q | hc
        · rw [q]
          exact ⟨_, hTO, fun v q => nomatch q⟩
        · obtain ⟨k, hk⟩ := List.mem_iff_getElem?.mp hc
          have hkl : k < ls.length := by
            rw [← D.len]
            exact (List.getElem?_eq_some_iff.mp hk).1
          obtain ⟨o, e, _, d⟩ := st.its k c ls[k] hk (List.getElem?_eq_getElem hkl)
          exact ⟨o, e, fun v q => by
            rw [d] at q
            cases q⟩
  keep := fun i h h' st k => by
    obtain ⟨f0, f1, hf, hz⟩ := st.z
    obtain ⟨old, ho, hTO⟩ := st.to
    exact ⟨⟨f0, f1, hf, k z (by simp [fpZ]) _ hz⟩, k TI (by simp [fpZ]) _ st.ti, ⟨old, ho, k TO (by simp [fpZ]) _ hTO⟩, fun j it l hj hl => (st.its j it l hj hl).at fun o e => k it (by
      have := List.mem_of_getElem? hj
      simp [fpZ, this]) o e⟩
  item := by
    intro X hP hw hK hc i pins s σ H E I hf st hg
    subst hP hw hK
    obtain ⟨vs, hvl, hvs⟩ := hg
    obtain ⟨us, ru, hus⟩ := turn_vals I vs ls hvl hvs
    have hul : us.length = its.length := by rw [← ru.length, hvl, D.len]
    refine pyNext_item D st hul h0 (by omega) hus fun h' S' hT hsz el => ?_
    refine ⟨_, rfl, go_name ?_⟩
    have new : ObjOk X.prog X.w (upd H s.heap.objs.size (.tup vs)) h' s.heap.objs.size (.tup vs) :=
      ⟨by
        rw [hvl, ← D.len]
        exact Nat.le_trans h8 (by decide), us, ru, ⟨_, hT, rfl, _, rfl⟩⟩
    have I1 : Inv X pins σ (upd H s.heap.objs.size (.tup vs)) { s with heap := h' } :=
      I.turnedNew (t' := s.toks) (ch := fpZ z TI TO its) (fun c o hb q => el c o (fun q' => hb (by simp [fpZ, q'])) (fun q' => hb (by simp [fpZ, q'])) (fun q' => hb (by simp [fpZ, q'])) q) hf (Nat.le_refl _) new
    refine ⟨.ref s.heap.objs.size, _, I1, rfl, ⟨_, vs, rfl, I.hok.fresh (Nat.le_refl _), rfl, hvl, fun k l v e1 e2 xs hx => ?_⟩, S', fun c hcm => ?_⟩
    · obtain ⟨ys, hy, hyi⟩ := hvs k l v e1 e2
      rw [I.list_inj hx hy]
      exact hyi
    · have hlt : c < s.heap.objs.size := by
        obtain ⟨f0, f1, _, hz⟩ := st.z
        obtain ⟨old, ho, hTO⟩ := st.to
        rcases List.mem_cons.mp hcm with q | q
        · rw [q]
          exact Heap.lt_size hz
        · rcases List.mem_cons.mp q with q | q
          · rw [q]
            exact Heap.lt_size st.ti
          · rcases List.mem_cons.mp q with q | q
            · rw [q]
              exact Heap.lt_size hTO
            · obtain ⟨k, hk⟩ := List.mem_iff_getElem?.mp q
              have hkl : k < ls.length := by
                rw [← D.len]
                exact (List.getElem?_eq_some_iff.mp hk).1
              obtain ⟨o, e, _, d⟩ := st.its k c ls[k] hk (List.getElem?_eq_getElem hkl)
              exact Heap.lt_size e
      rw [upd_ne (Nat.ne_of_lt hlt)]
      exact (hf c hcm).1
  done := by
    intro X hP hw hK hc i pins s σ H E I hf st hg
    subst hP hw hK
    obtain ⟨l, xs, hl, hq, hx⟩ := hg
    cases ls with
    | nil => simp at hl
    | cons l' lr =>
      have e : l' = l := by simpa using hl
      subst e
      cases its with
      | nil => simp at h0
      | cons it rest =>
        obtain ⟨ys, rv, p, hz⟩ := I.list hq
        have hlen := rv.length
        exact pyNext_end (I.ok.hd hc) D st p.isList (by simp; omega) fun h' el => ⟨rfl, I.turnedL (t' := s.toks) (ch := fpZ z TI TO (it :: rest)) (fun c o hb q => el c o (fun q' => hb (by simp [fpZ, q'])) (fun q' => hb (by simp [fpZ, q'])) (fun q' => hb (by
          simp only [List.mem_cons] at q'
          simp only [fpZ, List.mem_cons]
          rcases q' with q' | q'
          · exact .inr (.inr (.inr (.inl q')))
          · exact .inr (.inr (.inr (.inr q'))))) q) hf⟩
  self := fun A i s Q E st h => by
    obtain ⟨f0, f1, hf, hz⟩ := st.z
    exact pyIter_z hz h

/-! ### the rule -/
theorem refs_of : ∀ {ls : List Addr} {us : List Value}, Vals (ls.map V.ref) us → us = ls.map Value.ref
  | [], _, .nil => rfl
  | l :: r, _, .cons h t => by
    cases h
    rw [refs_of t]
    rfl
/-- e comes to a list of lists, of 1 to 8 of them -/
def tRows (K : PySem.W.Frag) (te : TE) (R : List Addr → Hp → Prop) : St → Hp → Prop := fun σ H => te σ H fun x H1 => ∃ (p : Addr) (ls : List Addr), x = .ref p ∧ (SqT K H1 p (ls.map V.ref) ∨ SqL K H1 p (ls.map V.ref)) ∧ 0 < ls.length ∧ ls.length ≤ 8 ∧ (∀ l ∈ ls, ∃ xs, SqL K H1 l xs) ∧ R ls H1
def iZipS (K : PySem.W.Frag) (te : TE) : TI := fun σ H R => tRows K te (fun ls H1 => R (Its K ls) H1) σ H
theorem callWith_typeStar {M : Model} {A : Around} {E : Value → Shared → Prop} {s : Shared} {env : Env} {pos p : Pos} {T : String} {Q : Value → Shared → Prop} {e : Expr}
    (h : wpAny M A (eval e env) (fun v s₁ => PySem.W.StarOf M A E v (fun vs s₂ => wpAny M A (call (.type T) vs) Q E s₂) s₁) E s)
    (he : starEach [.Starred e p] env = [(true, eval e env)] := by rfl) :
    wpAny M A (callWith pos (.type T) [] (backTo pos (starEach [.Starred e p] env)) []) Q E s := by
  rw [he]
  unfold callWith
  refine wpAny_bind (wpAny_holding (wpAny_mono (PySem.W.ks_lone (Q := fun a s₁ => wpAny M A (call (.type T) a.pos a.kw) Q E s₁) h) (fun a s₁ h₁ => wpAny_bind (wpAny_standAt ?_)) fun _ _ x => x))
  refine wpAny_bind (wpAny_pure ?_)
  exact wpAny_bind (wpAny_operateT (wpAny_mono h₁ (fun r s₂ hr => wpAny_bind (wpAny_holding (wpAny_point (wpAny_pure hr)))) fun _ _ x => x))
end ZS
set_option Elab.async false
set_option linter.all false
set_option maxRecDepth 100000
set_option maxHeartbeats 4000000
/-! type(x) of plain data, == and != of types. -/
namespace TY
open PySem
set_option autoImplicit false
theorem slot_type_ne : Slot "type" (cmpInfo .NotEq).2.1 "object.__ne__" :=
  .of (owner := "object") (n := "__ne__") (by rw [typeLookup_type, builtinLookup_eq_fast]; kernel_rfl) (by decide +kernel) (by decide +kernel) (by decide +kernel)
    (by first | exact .inl (by decide +kernel) | exact .inr (by decide +kernel)) (by rw [isSubtype_type]; kernel_rfl)
theorem slot_type_ne_refl : Slot "type" (cmpInfo .NotEq).2.2 "object.__ne__" :=
  .of (owner := "object") (n := "__ne__") (by rw [typeLookup_type, builtinLookup_eq_fast]; kernel_rfl) (by decide +kernel) (by decide +kernel) (by decide +kernel)
    (by first | exact .inl (by decide +kernel) | exact .inr (by decide +kernel)) (by rw [isSubtype_type]; kernel_rfl)
theorem slot_type_eqn : Slot "type" (Str.ofString "__eq__") "object.__eq__" := TypeEq.slot_type_eq
section
variable {M : Model} {A : Around} {E : Value → Shared → Prop} {s : Shared}
theorem rc_ne_same_decline {a b : Value} {T id : String} {k : Bool} {Q : Value → Shared → Prop} (ha : ∀ s' : Shared, s'.TypeIs a T) (hb : ∀ s' : Shared, s'.TypeIs b T)
    (h1 : Slot T (cmpInfo .NotEq).2.1 id) (h2 : Slot T (cmpInfo .NotEq).2.2 id) (hv : [a, b].any Value.onHeap = false) (hk : isSame a b = pure k)
    (hc : wpAny M A (call (.builtin id) [a, b]) (fun v s₁ => v = .notImplemented ∧ wpAny M A (call (.builtin id) [b, a]) (fun v s₂ => v = .notImplemented ∧ Q (.bool (!k)) s₂) E s₁) E s) :
    wpAny M A (richCompare .NotEq a b) Q E s := by
  rcases hi : cmpInfo CmpOp.NotEq with ⟨sym, f, r⟩
  rw [hi] at h1 h2
  simp only [richCompare, hi, (ha s).oneThing_none]
  try with_reducible refine wpAny_holding ?_
  refine wpAny_bind (wpAny_cRoomFor_or (.inl hv) ?_)
  refine wpAny_bind (wpAny_typeOf (ha s) (wpAny_bind (wpAny_typeOf (hb s) ?_)))
  simp only [bne_self_eq_false, Bool.false_eq_true, if_false, pure_bind, Bool.not_false, if_true]
  refine wpAny_bind (m := tryCompare a _ b) (wpAny_tryCompare_declines (ha s) h1 (wpAny_mono hc (fun v s₁ h₁ => ⟨h₁.1, ?_⟩) fun _ _ x => x))
  refine wpAny_bind (m := tryCompare b _ a) (wpAny_tryCompare_declines (hb s₁) h2 (wpAny_mono h₁.2 (fun v s₂ h₂ => ⟨h₂.1, ?_⟩) fun _ _ x => x))
  refine wpAny_bind (wpAny_rule (wpAny_bind (wpAny_of_eq hk (wpAny_pure h₂.2))))
end
section
variable {prog : Program} {w : World} {A : Around} {E : Value → Shared → Prop} {s : Shared} {Q : Value → Shared → Prop}
theorem call_ne_same {X : String} (hX : ∀ s' : Shared, s'.TypeIs (.type X) "type") (h : Q (.bool false) s) : wpAny (model prog w) A (call (.builtin "object.__ne__") [.type X, .type X]) Q E s := by
  refine wpAny_call_entry slot_type_ne (hX s) F.entry_object_ne ?_ (F.args_object_ne_2 _ _)
  unfold Builtin.«object.__ne__»
  refine wpAny_bind (wpAny_pure ?_)
  refine wpAny_bind (wpAny_cRoomFor_or (.inl rfl) ?_)
  refine wpAny_bind (wpAny_callSpecialIfBound?_slot (hX s) slot_type_eqn (call_gives slot_type_eqn (hX s) F.entry_object_eq (F.args_object_eq_2 _ _) (TypeEq.object_eq_same rfl (by simp)) ?_))
  exact wpAny_bind (wpAny_truthy_bool (wpAny_pure ⟨_, rfl, h⟩))
theorem call_ne_other {X Y : String} (hX : ∀ s' : Shared, s'.TypeIs (.type X) "type") (hne : (Value.type X == Value.type Y) = false) (h : Q .notImplemented s) : wpAny (model prog w) A (call (.builtin "object.__ne__") [.type X, .type Y]) Q E s := by
  refine wpAny_call_entry slot_type_ne (hX s) F.entry_object_ne ?_ (F.args_object_ne_2 _ _)
  unfold Builtin.«object.__ne__»
  refine wpAny_bind (wpAny_pure ?_)
  refine wpAny_bind (wpAny_cRoomFor_or (.inl rfl) ?_)
  refine wpAny_bind (wpAny_callSpecialIfBound?_slot (hX s) slot_type_eqn (call_gives slot_type_eqn (hX s) F.entry_object_eq (F.args_object_eq_2 _ _) (TypeEq.object_eq_other rfl hne) ?_))
  exact wpAny_pure ⟨_, rfl, h⟩
theorem ne_type_same {X : String} (hX : ∀ s' : Shared, s'.TypeIs (.type X) "type") (h : Q (.bool false) s) : wpAny (model prog w) A (compareOp .NotEq (.type X) (.type X)) Q E s := by
  show wpAny _ A (richCompare .NotEq _ _) Q E s
  exact wpAny_richCompare_same (T := "type") (hX s) (hX s) slot_type_ne (call_ne_same hX ⟨(by intro e; cases e), h⟩)
theorem ne_type_other {X Y : String} (hX : ∀ s' : Shared, s'.TypeIs (.type X) "type") (hY : ∀ s' : Shared, s'.TypeIs (.type Y) "type") (hne : (Value.type X == Value.type Y) = false) (h : Q (.bool true) s) : wpAny (model prog w) A (compareOp .NotEq (.type X) (.type Y)) Q E s := by
  have hne' : (Value.type Y == Value.type X) = false := by
    rw [Bool.eq_false_iff] at hne ⊢
    intro e
    exact hne (by rw [beq_iff_eq] at e ⊢; exact e.symm)
  show wpAny _ A (richCompare .NotEq _ _) Q E s
  exact rc_ne_same_decline (T := "type") (k := false) hX hY slot_type_ne slot_type_ne_refl rfl (by rw [isSame_plain rfl, hne])
    (call_ne_other hX hne ⟨rfl, call_ne_other hY hne' ⟨rfl, h⟩⟩)
end
end TY
set_option Elab.async false
set_option linter.all false
set_option maxRecDepth 100000
set_option maxHeartbeats 4000000
/-! Data: types, isinstance, zip(*xss). -/
namespace DL
open PySem PySem.Spec PyProof.Rows L2 Evl
set_option autoImplicit false
variable [Kn]
abbrev TN : List String := ["NoneType", "bool", "int", "str", "list", "tuple", "dict"]
def tyName : PyData → String
  | .none => "NoneType"
  | .bool _ => "bool"
  | .int _ => "int"
  | .str _ => "str"
  | .list _ => "list"
  | .tuple _ => "tuple"
  | .dict _ => "dict"
theorem tyName_in (d : PyData) : tyName d ∈ TN := by
  cases d <;> simp [tyName, TN]
theorem meta_in {T : String} (h : T ∈ TN) : ∀ s' : Shared, s'.TypeIs (.type T) "type" := by
  simp only [TN, List.mem_cons, List.not_mem_nil, or_false] at h
  rcases h with rfl | rfl | rfl | rfl | rfl | rfl | rfl
  · exact PySem.TypeEq.meta_NoneType
  · exact PySem.TypeEq.meta_bool
  · exact PySem.TypeEq.meta_int
  · exact PySem.TypeEq.meta_str
  · exact PySem.TypeEq.meta_list
  · exact PySem.TypeEq.meta_tuple
  · exact PySem.TypeEq.meta_dict
/-- the type of a value of plain data -/
inductive TyD (H : Hp) : V → String → Prop
  | non : TyD H .non "NoneType"
  | bl (b : Bool) : TyD H (.bl b) "bool"
  | int (i : Int) : TyD H (.int i) "int"
  | str (x : Str) : TyD H (.str x) "str"
  | lst {a : Addr} {xs : List V} (e : SqL KK H a xs) : TyD H (.ref a) "list"
  | tup {a : Addr} {xs : List V} (e : Rd H a (.tup xs)) : TyD H (.ref a) "tuple"
  | dct {a : Addr} {kvs : List (Key × V)} (e : H a = some (.dK kvs)) : TyD H (.ref a) "dict"
section
variable {X : Cx}
theorem TyD.is {pins : List (Addr × Obj)} {σ : St} {H : Hp} {s : Shared} {x : V} {u : Value} {T : String} (t : TyD H x T) (hK : X.K = KK) (I : Inv X pins σ H s) (r : RelV x u) :
    s.TypeIs u T ∧ (Value.type T == Value.type "builtin_function_or_method") = false := by
  cases t with
  | non =>
    cases r
    exact ⟨rfl, by decide +kernel⟩
  | bl b =>
    cases r
    exact ⟨rfl, by decide +kernel⟩
  | int i =>
    obtain ⟨k, rfl⟩ := r
    exact ⟨typeIs_int s i k, by decide +kernel⟩
  | str z =>
    obtain ⟨k, rfl⟩ := r
    exact ⟨typeIs_str s z k, by decide +kernel⟩
  | lst e =>
    cases r
    rw [← hK] at e
    obtain ⟨its, rv, p, _⟩ := I.list e
    exact ⟨p.isList.typeIs, by decide +kernel⟩
  | tup e =>
    cases r
    obtain ⟨its, rv, p, _⟩ := I.tuple (.inl e)
    exact ⟨p.typeIs, by decide +kernel⟩
  | dct e =>
    cases r
    obtain ⟨_, _, vs, _, o, es, ep, h1, h2, _⟩ := (show ObjOk X.prog X.w H s.heap _ (.dK _) from I.hok _ _ e)
    exact ⟨⟨o, h1, h2.1⟩, by decide +kernel⟩
def rTyD : List V → Hp → VK → Prop := fun xs H Q => ∃ (x : V) (T : String), xs = [x] ∧ TyD H x T ∧ Q (.ty T) H
theorem call_typeD (hK : X.K = KK := by rfl) : CallR X (.type "type") rTyD := by
  intro pins s σ H xs us Q I r h
  obtain ⟨x, T, rfl, t, q⟩ := h
  obtain ⟨u, rfl, rx⟩ := vals1 r
  obtain ⟨h1, h2⟩ := t.is hK I rx
  exact call_type_of h1 h2 ⟨.ty T, H, I, rfl, q⟩
def rEqTy : R2 := fun x y H Q => ∃ a b, x = .ty a ∧ y = .ty b ∧ a ∈ TN ∧ b ∈ TN ∧ Q (.bl (decide (a = b))) H
def rNeTy : R2 := fun x y H Q => ∃ a b, x = .ty a ∧ y = .ty b ∧ a ∈ TN ∧ b ∈ TN ∧ Q (.bl (!decide (a = b))) H
theorem op_eqTy : OpR X (compareOp .Eq) rEqTy := by
  intro pins s σ H x y v u Q I rx ry h
  obtain ⟨a, b, rfl, rfl, ha, hb, q⟩ := h
  cases rx
  cases ry
  by_cases e : a = b
  · subst e
    rw [decide_eq_true rfl] at q
    exact PySem.TypeEq.eq_type_same (meta_in ha) ⟨.bl true, H, I, rfl, q⟩
  · rw [decide_eq_false e] at q
    exact PySem.TypeEq.eq_type_other (meta_in ha) (meta_in hb) (by simp [e]) ⟨.bl false, H, I, rfl, q⟩
theorem op_neTy : OpR X (compareOp .NotEq) rNeTy := by
  intro pins s σ H x y v u Q I rx ry h
  obtain ⟨a, b, rfl, rfl, ha, hb, q⟩ := h
  cases rx
  cases ry
  by_cases e : a = b
  · subst e
    rw [decide_eq_true rfl] at q
    exact TY.ne_type_same (meta_in ha) ⟨.bl false, H, I, rfl, q⟩
  · rw [decide_eq_false e] at q
    exact TY.ne_type_other (meta_in ha) (meta_in hb) (by simp [e]) ⟨.bl true, H, I, rfl, q⟩
end
theorem Rp.ty {N : Hp} {v : V} {d : PyData} (r : Rp N v d) : TyD N v (tyName d) := by
  cases r with
  | non => exact .non
  | bl b => exact .bl b
  | int i => exact .int i
  | str x => exact .str x
  | lst h _ => exact .lst h
  | tup h _ => exact .tup h
  | dct h _ => exact .dct h
theorem TyD.mono {N H : Hp} (e : Ex N H) {v : V} {T : String} (t : TyD N v T) : TyD H v T := by
  cases t with
  | non => exact .non
  | bl b => exact .bl b
  | int i => exact .int i
  | str x => exact .str x
  | lst h => exact .lst (ex_l e h)
  | tup h => exact .tup (ex_rd e h)
  | dct h => exact .dct (e _ _ h)
theorem TyD.tyX {H : Hp} {v : V} {T : String} (t : TyD H v T) : TyX KK H v (.type T) := by
  cases t with
  | non => exact .base .non
  | bl b => exact .base (.bl b)
  | int i => exact .base (.int i)
  | str x => exact .base (.str x)
  | lst h =>
    rcases h with (h | ⟨o, h⟩) | ⟨o, its, n, h, c, _⟩
    · exact .base (.lst h)
    · exact .base (.frz h)
    · exact .kList h c
  | tup h =>
    rcases h with h | ⟨o, h⟩
    · exact .base (.tup h)
    · exact .fTuple h
  | dct h => exact .base (.dK h)
section
variable {ds : De} {te ta : TE} {d : PyData} {T : String}
/-- type(x) == T, type(x) != T -/
theorem ev_tyEq (h : EvE te ds d) (hT : T ∈ TN) : EvE (tOp rEqTy (tCB rTyD (tCons te tNil)) (tC (.ty T))) ds (.bool (decide (tyName d = T))) := fun σ N hs H eN Q q =>
  h σ N hs H eN _ fun v H1 N1 e1 n1 k1 g1 r1 => ⟨v, tyName d, rfl, r1.ty.mono k1, tyName d, T, rfl, rfl, tyName_in d, hT, q _ H1 N1 e1 n1 k1 g1 (.bl _)⟩
theorem ev_tyNe (h : EvE te ds d) (hT : T ∈ TN) : EvE (tOp rNeTy (tCB rTyD (tCons te tNil)) (tC (.ty T))) ds (.bool (!decide (tyName d = T))) := fun σ N hs H eN Q q =>
  h σ N hs H eN _ fun v H1 N1 e1 n1 k1 g1 r1 => ⟨v, tyName d, rfl, r1.ty.mono k1, tyName d, T, rfl, rfl, tyName_in d, hT, q _ H1 N1 e1 n1 k1 g1 (.bl _)⟩
/-- isinstance(x, T) -/
def isT (T : String) (d : PyData) : Bool := decide (tyName d = T) || (decide (T = "int") && decide (tyName d = "bool"))
theorem kit_all : ∀ a ∈ TN, ∀ T ∈ TN, PySem.W.kitOne KK (.type a) (.type T) = some (decide (a = T) || (decide (T = "int") && decide (a = "bool"))) := by
  intro a ha T hT
  simp only [TN, List.mem_cons, List.not_mem_nil, or_false] at ha hT
  rcases ha with rfl | rfl | rfl | rfl | rfl | rfl | rfl <;> rcases hT with rfl | rfl | rfl | rfl | rfl | rfl | rfl <;> exact kit_ty (by decide +kernel)
theorem ev_isi (h : EvE te ds d) (hT : T ∈ TN) : EvE (tCB (rIsi KK) (tCons te (tCons (tC (.ty T)) tNil))) ds (.bool (isT T d)) := fun σ N hs H eN Q q =>
  h σ N hs H eN _ fun v H1 N1 e1 n1 k1 g1 r1 => ⟨v, .ty T, .type (tyName d), .type T, isT T d, rfl, .ty T, (r1.ty.mono k1).tyX, kit_all _ (tyName_in d) _ hT, q _ H1 N1 e1 n1 k1 g1 (.bl _)⟩
end

/-! ### zip(*xss) -/
section
variable {X : Cx}
theorem pi_zipS {e : Expr} {te : TE} {x : Str} {p p2 pos tp : Pos} (hg : Gl X "zip") (hm : X.mg "zip" = none) (he : PE X e te) (hst : starEach [.Starred e p2] X.env = [(true, eval e X.env)] := by rfl) :
    PI X (.Name x tp) (.Call (.Name "zip" p) [.Starred e p2] [] pos) (ZS.iZipS X.K te) := by
  refine ⟨fun pins s σ H R I h => ?_⟩
  refine Call_ (ld_blt I hg hm PyProof.Rows.boot_zip (ZS.callWith_typeStar (thn (he.run pins s σ H _ I h) fun v s1 ⟨y, H1, I1, ry, a, ls, ey, hx, h0, h8, hl, q⟩ => ?_) hst))
  subst ey
  obtain rfl : v = Value.ref a := ry
  refine StX.star_any I1 hx fun us s2 I2 rv => ?_
  have eu := ZS.refs_of rv
  subst eu
  have hls : ∀ l ∈ ls, l < s2.heap.objs.size := fun l hm => by
    obtain ⟨xs, hq⟩ := hl l hm
    obtain ⟨its, _, p, _⟩ := I2.list hq
    exact p.lt
  refine ZS.call_zip h0 h8 (fun l hm => ?_) fun h' S hsz hk => ?_
  · obtain ⟨xs, hq⟩ := hl l hm
    obtain ⟨its, _, p, _⟩ := I2.list hq
    exact ⟨_, p.isList⟩
  obtain ⟨f0, f1, _, hz⟩ := id S.z
  refine ZS.pyIter_z hz ?_
  have I3 : Inv X pins σ H1 { s2 with heap := h' } := I2.kept (t' := s2.toks) hk
  have hi0 : 0 < (ZS.itsOf s2.heap ls).length := by simpa using h0
  have hi8 : (ZS.itsOf s2.heap ls).length ≤ 8 := by simpa using h8
  refine ⟨_, _, _, _, H1, rfl, I3, ZS.turn_z (ZS.apart_new s2.heap ls hls) hi0 hi8, S, fun b hb => ?_, q⟩
  have hle : s2.heap.objs.size ≤ b := by
    rcases List.mem_cons.mp hb with z | hb
    · rw [z]
      exact Nat.le_trans (Nat.le_add_right _ _) (Nat.le_add_right _ _)
    · rcases List.mem_cons.mp hb with z | hb
      · rw [z]
        exact Nat.le_add_right _ _
      · rcases List.mem_cons.mp hb with z | hb
        · rw [z]
          exact Nat.le_trans (Nat.le_add_right _ _) (Nat.le_add_right _ _)
        · exact (List.mem_range'_1.mp hb).1
  exact I2.fpOk hle (I2.hok.fresh hle)
end
section
variable {N H H1 N1 : Hp} {D : Addr} {es : List PyData} {H' : Hp}
theorem Cq.more {N2 : Hp} (p : Cq N H H1 N1 D es H') (k : Ex N2 H') (hD : N2 D = none) (g : Reg N H N2) (n : Ex N1 N2) : Cq N H H1 N2 D es H' := by
  obtain ⟨acc, Nk, a, b, c, d, f, g0, r⟩ := p.ex
  refine ⟨acc, HU Nk N2, a, b, hu_r d k, hu_in d k, ?_, fun x hx => (hu_reg hx).elim (g0 x) (g x), r.mono (hu_l _ _)⟩
  unfold HU
  rw [f]
  exact hD
theorem Cq.less {N2 : Hp} (p : Cq N H H1 N2 D es H') (n : Ex N1 N2) : Cq N H H1 N1 D es H' := by
  obtain ⟨acc, Nk, a, b, c, d, f, g0, r⟩ := p.ex
  exact ⟨acc, Nk, a, b, n.trans c, d, f, g0, r⟩
end
theorem rp_lists {N : Hp} : ∀ {vs : List V} {rows : List (List PyData)}, RpAll N vs (rows.map PyData.list) → ∃ (ls : List Addr) (xss : List (List V)), vs = ls.map V.ref ∧ ls.length = rows.length ∧ xss.length = rows.length ∧
    (∀ (k : Nat) (l : Addr) (xs : List V) (r : List PyData), ls[k]? = some l → xss[k]? = some xs → rows[k]? = some r → SqL KK N l xs ∧ RpAll N xs r)
  | _, [], .nil => ⟨[], [], rfl, rfl, rfl, fun k l xs r e => by simp at e⟩
  | _, r :: rows, .cons h t => by
    cases h with
    | @lst a xs _ hr hall =>
      obtain ⟨ls, xss, e1, e2, e3, h⟩ := rp_lists t
      refine ⟨a :: ls, xs :: xss, by rw [e1]; rfl, by simp [e2], by simp [e3], fun k l xs' r' h1 h2 h3 => ?_⟩
      cases k with
      | zero =>
        have q1 : a = l := by simpa using h1
        have q2 : xs = xs' := by simpa using h2
        have q3 : r = r' := by simpa using h3
        subst q1 q2 q3
        exact ⟨hr, hall⟩
      | succ k => exact h k l xs' r' (by simpa using h1) (by simpa using h2) (by simpa using h3)
theorem rp_col {N : Hp} : ∀ (vs : List V) (c : List PyData), vs.length = c.length → (∀ (k : Nat) (v : V) (d : PyData), vs[k]? = some v → c[k]? = some d → Rp N v d) → RpAll N vs c
  | [], [], _, _ => .nil
  | v :: vs, d :: c, hl, h => .cons (h 0 v d rfl rfl) (rp_col vs c (by simpa using hl) fun k v' d' e1 e2 => h (k + 1) v' d' (by simpa using e1) (by simpa using e2))
  | [], _ :: _, hl, _ => by simp at hl
  | _ :: _, [], hl, _ => by simp at hl
section
variable {ds : De} {tl te : TE} {j : Nat}
/-- [f column for column in zip(*rows)] -/
theorem ev_lcZ {rows : List (List PyData)} {m : Nat} {cols : Nat → List PyData} {f : Nat → PyData} (h : EvE tl ds (.list (rows.map PyData.list))) (h0 : 0 < rows.length) (h8 : rows.length ≤ 8) (hm : ∀ r ∈ rows, r.length = m) (hz : m < 100000)
    (hc : ∀ i, i < m → (cols i).length = rows.length ∧ ∀ (k : Nat) (r : List PyData), rows[k]? = some r → (cols i)[k]? = r[i]?)
    (he : ∀ i, i < m → EvE te ((wipeD ds [j]).set j (some (.tuple (cols i)))) (f i)) :
    EvE (tLc (ZS.iZipS KK tl) (gName j) tYes te [j]) ds (.list ((List.range m).map f)) := fun σ N hs H eN Q q =>
  h σ N hs H eN _ fun v H1 N1 e1 n1 k1 g1 r1 => by
    cases r1 with
    | @lst a vs _ hr hall =>
      obtain ⟨ls, xss, ev, el1, el2, hrow⟩ := rp_lists hall
      subst ev
      have hrd : ∀ (k : Nat) (l : Addr), ls[k]? = some l → ∃ xs r, rows[k]? = some r ∧ SqL KK N1 l xs ∧ RpAll N1 xs r := fun k l hk => by
        have hk2 : k < rows.length := by
          rw [← el1]
          exact (List.getElem?_eq_some_iff.mp hk).1
        have hx : xss[k]? = some (xss[k]'(by omega)) := List.getElem?_eq_getElem _
        have hy : rows[k]? = some rows[k] := List.getElem?_eq_getElem hk2
        obtain ⟨p1, p2⟩ := hrow k l _ _ hk hx hy
        exact ⟨_, _, hy, p1, p2⟩
      refine ⟨a, ls, rfl, .inr (ex_l k1 hr), by omega, by omega, fun l hl => ?_, fun D hD => ?_⟩
      · obtain ⟨k, hk⟩ := List.mem_iff_getElem?.mp hl
        obtain ⟨xs, r, _, p1, _⟩ := hrd k l hk
        exact ⟨xs, ex_l k1 p1⟩
      refine ⟨fun i mm H' => mm = m - i ∧ i ≤ m ∧ Cq N H H1 N1 D ((List.range i).map f) H', ⟨m, by simp, Nat.zero_le _, Cq.start e1 k1 g1 hD⟩, ?_⟩
      rintro i mm H' ⟨rfl, hi, c⟩
      have sq : ∀ (k : Nat) (l : Addr), ls[k]? = some l → ∃ xs r, rows[k]? = some r ∧ SqL KK H' l xs ∧ RpAll N1 xs r := fun k l hk => by
        obtain ⟨xs, r, p0, p1, p2⟩ := hrd k l hk
        exact ⟨xs, r, p0, ex_l c.known p1, p2⟩
      by_cases hlt : i < m
      · refine .inr ⟨?_, fun H'' => Cq N H H1 N1 D ((List.range (i + 1)).map f) H'', fun H'' c' => ⟨m - (i + 1), by omega, rfl, hlt, c'⟩, fun x H'' y => ?_⟩
        · have hp : ∀ (k : Nat) (l : Addr), ls[k]? = some l → ∃ v : V, ∃ xs, SqL KK H' l xs ∧ xs[i]? = some v := fun k l hk => by
            obtain ⟨xs, r, p0, p1, p2⟩ := sq k l hk
            have hx : i < xs.length := by
              rw [p2.length, hm r (List.mem_of_getElem? p0)]
              exact hlt
            exact ⟨xs[i], xs, p1, List.getElem?_eq_getElem hx⟩
          obtain ⟨vs, hv1, hv2⟩ := ZS.pick (R := fun l v => ∃ xs, SqL KK H' l xs ∧ xs[i]? = some v) _ ls rfl hp
          exact ⟨vs, hv1, fun k l v a b => hv2 k l v a b⟩
        · obtain ⟨T, vs, rfl, hT, rfl, hvl, hv⟩ := y
          obtain ⟨hcl, hck⟩ := hc i hlt
          have rcol : RpAll N1 vs (cols i) := rp_col vs (cols i) (by rw [hvl, hcl, el1]) fun k v d e2 e3 => by
            have hk2 : k < ls.length := by
              rw [← hvl]
              exact (List.getElem?_eq_some_iff.mp e2).1
            obtain ⟨xs, r, p0, p1, p2⟩ := sq k ls[k] (List.getElem?_eq_getElem hk2)
            have e4 := hv k ls[k] v (List.getElem?_eq_getElem hk2) e2 xs p1
            rw [hck k r p0] at e3
            obtain ⟨v', e5, rv⟩ := p2.get e3
            rw [e4] at e5
            cases e5
            exact rv
          have hT1 : H1 T = none := ex_none c.old hT
          have hN1 : N1 T = none := ex_none k1 hT1
          have c2 : Cq N H H1 (upd N1 T (.tup vs)) D ((List.range i).map f) (upd H' T (.tup vs)) := by
            refine (c.on (Ex.new hT)).more (N2 := upd N1 T (.tup vs)) (fun b o hb => ?_) ?_ (fun b hb => ?_) (Ex.new hN1)
            · by_cases z : b = T
              · subst z
                rw [upd_same] at hb ⊢
                exact hb
              · rw [upd_ne z] at hb ⊢
                exact c.known b o hb
            · obtain ⟨acc, Nk, _, b2, _⟩ := c.ex
              have z : D ≠ T := ne_of_none b2 hT
              rw [upd_ne z]
              exact ex_none k1 hD
            · by_cases z : b = T
              · subst z
                exact .inr (ex_none e1 hT1)
              · rw [upd_ne z] at hb
                exact g1 b hb
          refine ⟨wipe1 σ j _, cq_turn (b := true) (d := f i) (ds := (wipeD ds [j]).set j (some (.tuple (cols i)))) c2 e1 hD (by rw [List.length_map, List.length_range]; omega)
            (((hs.mono (n1.trans (Ex.new hN1))).wipe [j]).set (.tup (.inl upd_same) (rcol.mono (Ex.new hN1))) j) eb_yes (fun _ => he i hlt) (fun _ H3 c3 => ?_) (fun z => by cases z)⟩
          rw [List.range_succ, List.map_append]
          exact c3.less (Ex.new hN1)
      · have e : i = m := by omega
        subst e
        have hl0 : 0 < ls.length := by omega
        obtain ⟨xs, r, p0, p1, p2⟩ := sq 0 ls[0] (List.getElem?_eq_getElem hl0)
        refine .inl ⟨⟨ls[0], xs, List.getElem?_eq_getElem hl0, p1, by rw [p2.length, hm r (List.mem_of_getElem? p0)]; exact Nat.le_refl _⟩, c.fin e1 n1 hD q⟩
end
end DL
set_option Elab.async false
set_option linter.all false
set_option maxRecDepth 100000
set_option maxHeartbeats 4000000
/-! Data that is new: trees of new lists and tuples, each at its own address; list + list, slices; an item stored. -/
namespace DL
open PySem PySem.Spec PyProof.Rows L2 Evl
set_option autoImplicit false
variable [Kn]

/-! ### list + list, slices, of lists that are read -/
def rCatR (K : PySem.W.Frag) : R2 := fun x y H Q => ∃ l b xs zs, x = .ref l ∧ y = .ref b ∧ SqL K H l xs ∧ SqL K H b zs ∧ xs.length + zs.length ≤ sizeLine ∧ ∀ p, H p = none → Q (.ref p) (upd H p (.lst (xs ++ zs)))
theorem add_any {prog : Program} {w : World} {A : Around} {E : Value → Shared → Prop} {s : Shared} {l b : Addr} {vs ws : List Value} {Q : Value → Shared → Prop} (hl : s.heap.IsList l vs.toArray) (hb : s.heap.IsList b ws.toArray)
    (h : Q (.ref s.heap.objs.size) { s with heap := s.heap.push { cls := .type "list", data := .seq (vs ++ ws).toArray } }) (hsz : vs.length + ws.length ≤ sizeLine) :
    wpAny (model prog w) A (binaryOp .Add (.ref l) (.ref b)) Q E s := by
  obtain ⟨⟨cls, dd, data, sl⟩, ho, hc, n, hd⟩ := id hl
  obtain ⟨⟨cls2, dd2, data2, sl2⟩, ho2, hc2, n2, hd2⟩ := id hb
  simp only at hc hd hc2 hd2
  subst hc hd hc2 hd2
  have e : vs.toArray ++ ws.toArray = (vs ++ ws).toArray := by simp
  refine concat_meets ⟨_, ho, rfl⟩ ⟨_, ho2, rfl⟩ noFill_list_add seq_list_add PySem.F.slot_list_add PySem.F.entry_list_add (PySem.F.args_list_add_2 _ _) (list_addW l b vs.toArray ws.toArray n n2 dd dd2 sl sl2 (by simpa using hsz)) ⟨ho, ho2, ?_⟩
  rw [e]
  exact h
theorem k_cat {X : Cx} {K : PySem.W.Frag} (hK : X.K = K := by rfl) : OpR X (binaryOp .Add) (rCatR K) := by
  subst hK
  intro pins s σ H x y v u Q I rx ry h
  obtain ⟨l, b, xs, zs, rfl, rfl, hH, hB, hz, q⟩ := h
  cases rx
  cases ry
  obtain ⟨its, r, p, _⟩ := I.list hH
  obtain ⟨its2, r2, p2, _⟩ := I.list hB
  have hl := r.length
  have hl2 := r2.length
  refine add_any p.isList p2.isList ?_ (by omega)
  exact ⟨.ref _, _, I.lnew (t' := s.toks) (r.append r2) (by rw [List.length_append]; omega), rfl, q _ I.fresh⟩

/-! ### trees -/
mutual
inductive RpT (H : Hp) : V → PyData → List Addr → Prop
  | non : RpT H .non .none []
  | bl (b : Bool) : RpT H (.bl b) (.bool b) []
  | int (i : Int) : RpT H (.int i) (.int i) []
  | str (x : Str) : RpT H (.str x) (.str x) []
  | lst {a : Addr} {xs : List V} {ds : List PyData} {S : List Addr} : H a = some (.lst xs) → RpTs H xs ds S → RpT H (.ref a) (.list ds) (a :: S)
  | tup {a : Addr} {xs : List V} {ds : List PyData} {S : List Addr} : H a = some (.tup xs) → RpTs H xs ds S → RpT H (.ref a) (.tuple ds) (a :: S)
inductive RpTs (H : Hp) : List V → List PyData → List Addr → Prop
  | nil : RpTs H [] [] []
  | cons {v : V} {vs : List V} {d : PyData} {ds : List PyData} {S S' : List Addr} : RpT H v d S → RpTs H vs ds S' → RpTs H (v :: vs) (d :: ds) (S ++ S')
end
/-! two heaps that agree at S -/
mutual
theorem RpT.agree {H H' : Hp} : ∀ {v : V} {d : PyData} {S : List Addr}, RpT H v d S → (∀ a ∈ S, H' a = H a) → RpT H' v d S
  | _, _, _, .non, _ => .non
  | _, _, _, .bl b, _ => .bl b
  | _, _, _, .int i, _ => .int i
  | _, _, _, .str x, _ => .str x
  | _, _, _, .lst h r, e => .lst (by rw [e _ List.mem_cons_self]; exact h) (RpTs.agree r fun a ha => e a (List.mem_cons_of_mem _ ha))
  | _, _, _, .tup h r, e => .tup (by rw [e _ List.mem_cons_self]; exact h) (RpTs.agree r fun a ha => e a (List.mem_cons_of_mem _ ha))
theorem RpTs.agree {H H' : Hp} : ∀ {vs : List V} {ds : List PyData} {S : List Addr}, RpTs H vs ds S → (∀ a ∈ S, H' a = H a) → RpTs H' vs ds S
  | _, _, _, .nil, _ => .nil
  | _, _, _, .cons h r, e => .cons (RpT.agree h fun a ha => e a (List.mem_append_left _ ha)) (RpTs.agree r fun a ha => e a (List.mem_append_right _ ha))
end
mutual
theorem RpT.there {H : Hp} : ∀ {v : V} {d : PyData} {S : List Addr}, RpT H v d S → ∀ a ∈ S, H a ≠ none
  | _, _, _, .lst h r, a, ha => (List.mem_cons.mp ha).elim (fun e => by rw [e, h]; intro z; cases z) fun q => RpTs.there r a q
  | _, _, _, .tup h r, a, ha => (List.mem_cons.mp ha).elim (fun e => by rw [e, h]; intro z; cases z) fun q => RpTs.there r a q
theorem RpTs.there {H : Hp} : ∀ {vs : List V} {ds : List PyData} {S : List Addr}, RpTs H vs ds S → ∀ a ∈ S, H a ≠ none
  | _, _, _, .cons h r, a, ha => (List.mem_append.mp ha).elim (fun q => RpT.there h a q) fun q => RpTs.there r a q
end
theorem RpT.mono {H H' : Hp} {v : V} {d : PyData} {S : List Addr} (r : RpT H v d S) (e : Ex H H') : RpT H' v d S := r.agree fun a ha => by
  cases h : H a with
  | none => exact absurd h (r.there a ha)
  | some o => exact e a o h
theorem RpTs.mono {H H' : Hp} {vs : List V} {ds : List PyData} {S : List Addr} (r : RpTs H vs ds S) (e : Ex H H') : RpTs H' vs ds S := r.agree fun a ha => by
  cases h : H a with
  | none => exact absurd h (r.there a ha)
  | some o => exact e a o h
/-- the part of H at S -/
def only (H : Hp) (S : List Addr) : Hp := fun a => if a ∈ S then H a else none
theorem only_in {H : Hp} {S : List Addr} {a : Addr} (h : a ∈ S) : only H S a = H a := by
  unfold only
  rw [if_pos h]
theorem only_out {H : Hp} {S : List Addr} {a : Addr} (h : a ∉ S) : only H S a = none := by
  unfold only
  rw [if_neg h]
theorem only_ex (H : Hp) (S : List Addr) : Ex (only H S) H := fun a o e => by
  by_cases h : a ∈ S
  · rw [only_in h] at e
    exact e
  · rw [only_out h] at e
    cases e
mutual
theorem RpT.rp {H : Hp} : ∀ {v : V} {d : PyData} {S : List Addr}, RpT H v d S → Rp H v d
  | _, _, _, .non => .non
  | _, _, _, .bl b => .bl b
  | _, _, _, .int i => .int i
  | _, _, _, .str x => .str x
  | _, _, _, .lst h r => .lst (sq_of h) (RpTs.rp r)
  | _, _, _, .tup h r => .tup (.inl h) (RpTs.rp r)
theorem RpTs.rp {H : Hp} : ∀ {vs : List V} {ds : List PyData} {S : List Addr}, RpTs H vs ds S → RpAll H vs ds
  | _, _, _, .nil => .nil
  | _, _, _, .cons h r => .cons (RpT.rp h) (RpTs.rp r)
end
theorem RpT.rpOnly {H : Hp} {v : V} {d : PyData} {S : List Addr} (r : RpT H v d S) : Rp (only H S) v d := (r.agree (H' := only H S) fun a ha => only_in ha).rp
theorem RpTs.length {H : Hp} : ∀ {vs : List V} {ds : List PyData} {S : List Addr}, RpTs H vs ds S → vs.length = ds.length
  | _, _, _, .nil => rfl
  | _, _, _, .cons _ r => by
    show _ + 1 = _ + 1
    rw [RpTs.length r]
theorem RpTs.snoc {H : Hp} : ∀ {vs : List V} {ds : List PyData} {S S' : List Addr} {v : V} {d : PyData}, RpTs H vs ds S → RpT H v d S' → RpTs H (vs ++ [v]) (ds ++ [d]) (S ++ S')
  | _, _, _, S', _, _, .nil, h => by
    have q := RpTs.cons h .nil
    rw [List.append_nil] at q
    exact q
  | _, _, _, _, _, _, .cons g r, h => by
    rw [List.append_assoc]
    exact .cons g (RpTs.snoc r h)
theorem RpTs.ints {H : Hp} : ∀ ns : List Int, RpTs H (ns.map V.int) (ns.map PyData.int) []
  | [] => .nil
  | n :: r => .cons (S := []) (.int n) (RpTs.ints r)
theorem RpTs.ofInts {H : Hp} : ∀ {vs : List V} {ns : List Int} {S : List Addr}, RpTs H vs (ns.map PyData.int) S → vs = ns.map V.int ∧ S = []
  | _, [], _, .nil => ⟨rfl, rfl⟩
  | _, n :: r, _, .cons h t => by
    cases h
    obtain ⟨e1, e2⟩ := RpTs.ofInts t
    rw [e1, e2]
    exact ⟨rfl, rfl⟩
/-- what is known grows by a tree -/
theorem absorb {N H' : Hp} {v : V} {d : PyData} {S : List Addr} (n : Ex N H') (r : RpT H' v d S) : Ex N (HU N (only H' S)) ∧ Ex (HU N (only H' S)) H' ∧ Rp (HU N (only H' S)) v d :=
  ⟨hu_l _ _, hu_in n (only_ex _ _), r.rpOnly.mono (hu_r n (only_ex _ _))⟩

/-! ### te comes to a new tree -/
def EvN (te : TE) (ds : De) (d : PyData) : Prop := ∀ σ N, Holds N σ ds → ∀ H, Ex N H → ∀ Q : VK, (∀ v H' S, Ex H H' → RpT H' v d S → S.Nodup → (∀ a ∈ S, H a = none) → Q v H') → te σ H Q
def EvNs (ta : TA) (ds : De) (es : List PyData) : Prop := ∀ σ N, Holds N σ ds → ∀ H, Ex N H → ∀ Q : List V → Hp → Prop, (∀ vs H' S, Ex H H' → RpTs H' vs es S → S.Nodup → (∀ a ∈ S, H a = none) → Q vs H') → ta σ H Q
section
variable {ds : De} {te : TE} {ta : TA} {d : PyData} {es : List PyData} {j : Nat}
theorem ev_n (h : EvN te ds d) : EvE te ds d := fun σ N hs H eN Q q => h σ N hs H eN _ fun v H' S e r _ hn => by
  obtain ⟨a1, a2, a3⟩ := absorb (eN.trans e) r
  exact q v H' _ e a1 a2 (fun a ha => (hu_reg ha).elim .inl fun z => .inr (hn a (by
    by_cases w : a ∈ S
    · exact w
    · rw [only_out w] at z
      exact absurd rfl z))) a3
/-- plain: no address -/
def flatD : PyData → Bool
  | .none => true
  | .bool _ => true
  | .int _ => true
  | .str _ => true
  | _ => false
theorem Rp.tree {N H : Hp} {v : V} (r : Rp N v d) (h : flatD d = true) : RpT H v d [] := by
  cases r with
  | non => exact .non
  | bl b => exact .bl b
  | int i => exact .int i
  | str x => exact .str x
  | lst _ _ => cases h
  | tup _ _ => cases h
  | dct _ _ => cases h
theorem en_flat (h : EvE te ds d) (hf : flatD d = true) : EvN te ds d := fun σ N hs H eN Q q => h σ N hs H eN _ fun v H' N' e _ _ _ r => q v H' [] e (r.tree hf) List.nodup_nil (fun _ z => nomatch z)
theorem ens_nil : EvNs tNil ds [] := fun σ N hs H eN Q q => q [] H [] (Ex.refl H) .nil List.nodup_nil (fun _ z => nomatch z)
theorem ens_cons (h : EvN te ds d) (hr : EvNs ta ds es) : EvNs (tCons te ta) ds (d :: es) := fun σ N hs H eN Q q =>
  h σ N hs H eN _ fun v H1 S e1 r1 nd1 f1 => hr σ N hs H1 (eN.trans e1) _ fun vs H2 S' e2 r2 nd2 f2 =>
    q (v :: vs) H2 (S ++ S') (e1.trans e2) (.cons (r1.mono e2) r2) (List.nodup_append.mpr ⟨nd1, nd2, fun a ha b hb z => by
      subst z
      exact r1.there a ha (f2 a hb)⟩) fun a ha => (List.mem_append.mp ha).elim (f1 a) fun z => ex_none e1 (f2 a z)
theorem en_lst (h : EvNs ta ds es) (hl : es.length ≤ 100000) : EvN (tLst ta) ds (.list es) := fun σ N hs H eN Q q =>
  h σ N hs H eN _ fun vs H1 S e1 r1 nd f => ⟨sz_100 (by rw [r1.length]; exact hl), fun p hp => q (.ref p) _ (p :: S) (e1.trans (Ex.new hp)) (.lst upd_same (r1.mono (Ex.new hp)))
    (List.nodup_cons.mpr ⟨fun z => r1.there p z hp, nd⟩) fun a ha => (List.mem_cons.mp ha).elim (fun z => by rw [z]; exact ex_none e1 hp) (f a)⟩
theorem en_tup (h : EvNs ta ds es) (hl : es.length ≤ 100000) : EvN (tTup ta) ds (.tuple es) := fun σ N hs H eN Q q =>
  h σ N hs H eN _ fun vs H1 S e1 r1 nd f => ⟨sz_100 (by rw [r1.length]; exact hl), fun p hp => q (.ref p) _ (p :: S) (e1.trans (Ex.new hp)) (.tup upd_same (r1.mono (Ex.new hp)))
    (List.nodup_cons.mpr ⟨fun z => r1.there p z hp, nd⟩) fun a ha => (List.mem_cons.mp ha).elim (fun z => by rw [z]; exact ex_none e1 hp) (f a)⟩
theorem RpAll.treeInts {N H : Hp} {vs : List V} {ns : List Int} (r : RpAll N vs (ns.map PyData.int)) : RpTs H vs (ns.map PyData.int) [] := by
  rw [r.ofInts]
  exact .ints ns
theorem RpAll.treeFlat {N H : Hp} : ∀ {vs : List V} {es : List PyData}, RpAll N vs es → es.all flatD = true → RpTs H vs es []
  | _, _, .nil, _ => .nil
  | _, _, .cons h r, f => by
    have f' := (Bool.and_eq_true _ _).mp (show (flatD _ && List.all _ flatD) = true from f)
    exact .cons (S := []) (h.tree f'.1) (RpAll.treeFlat r f'.2)
/-- list(xs), the items without addresses -/
theorem en_list_of {ts : List PyData} {tx : TE} (h : EvE tx ds (.list ts)) (hf : ts.all flatD = true) :
    EvN (tCB (fun xs H Q => ∃ (p : Addr) (ys : List V), xs = [.ref p] ∧ (SqL KK H p ys ∨ SqT KK H p ys) ∧ ∀ l, H l = none → Q (.ref l) (upd H l (.lst ys))) (tCons tx tNil)) ds (.list ts) := fun σ N hs H eN Q q =>
  h σ N hs H eN _ fun v H1 N1 e1 n1 k1 g1 r1 => by
    cases r1 with
    | lst hr hall =>
      exact ⟨_, _, rfl, .inl (ex_l k1 hr), fun p hp => q (.ref p) _ [p] (e1.trans (Ex.new hp)) (.lst upd_same (hall.treeFlat hf)) (by simp) fun a ha => by
        rw [List.mem_singleton.mp ha]
        exact ex_none e1 hp⟩
/-- xs + ys -/
theorem en_cat {ta tb : TE} {ts us : List PyData} (ha : EvE ta ds (.list ts)) (hb : EvE tb ds (.list us)) (hf : (ts ++ us).all flatD = true) (hl : ts.length + us.length ≤ 100000) : EvN (tOp (rCatR KK) ta tb) ds (.list (ts ++ us)) := fun σ N hs H eN Q q =>
  ha σ N hs H eN _ fun x H1 N1 e1 n1 k1 g1 r1 => hb σ N1 (hs.mono n1) H1 k1 _ fun y H2 N2 e2 n2 k2 g2 r2 => by
    cases r1 with
    | lst hr hall =>
      cases r2 with
      | lst hr2 hall2 =>
        refine ⟨_, _, _, _, rfl, rfl, ex_l (n2.trans k2) hr, ex_l k2 hr2, sz_100 (by rw [hall.length, hall2.length]; exact hl), fun p hp => ?_⟩
        exact q (.ref p) _ [p] ((e1.trans e2).trans (Ex.new hp)) (.lst upd_same (((hall.mono n2).append hall2).treeFlat hf)) (by simp) fun a ha => by
          rw [List.mem_singleton.mp ha]
          exact ex_none (e1.trans e2) hp
theorem ev_cat {ta tb : TE} {ts us : List PyData} (ha : EvE ta ds (.list ts)) (hb : EvE tb ds (.list us)) (hl : ts.length + us.length ≤ 100000) : EvE (tOp (rCatR KK) ta tb) ds (.list (ts ++ us)) :=
  ev_op ha hb fun x y N H eN rx ry Q q => by
    cases rx with
    | lst hr hall =>
      cases ry with
      | lst hr2 hall2 =>
        refine ⟨_, _, _, _, rfl, rfl, ex_l eN hr, ex_l eN hr2, sz_100 (by rw [hall.length, hall2.length]; exact hl), fun p hp => ?_⟩
        obtain ⟨a1, a2, a3, a4, a5⟩ := laid (o := .lst _) (Ex.refl H) (Ex.refl N) eN Reg.refl hp
        exact q (.ref p) _ _ a1 a2 a3 a4 (.lst (sq_of upd_same) ((hall.append hall2).mono a5))
/-- xs[a:b] -/
def cutD (xs : List PyData) (lo hi : Option Int) : List PyData := (xs.drop (HT.sIx xs.length 0 lo)).take (HT.sIx xs.length xs.length hi - HT.sIx xs.length 0 lo)
theorem RpAll.cut {N : Hp} {vs : List V} {es : List PyData} (r : RpAll N vs es) (lo hi : Option Int) : RpAll N (cutV vs lo hi) (cutD es lo hi) := by
  unfold cutV cutD
  rw [r.length]
  exact (r.drop _).take _
def EvO (to : TO) (ds : De) (o : Option Int) : Prop := ∀ σ N, Holds N σ ds → ∀ H, Ex N H → ∀ Q : Option Int → Hp → Prop, (∀ H', Ex H H' → Q o H') → to σ H Q
theorem eo_non : EvO tNoPart ds none := fun σ N hs H eN Q q => q H (Ex.refl H)
theorem eo_int {i : Int} (h : EvE te ds (.int i)) : EvO (tPart te) ds (some i) := fun σ N hs H eN Q q => h σ N hs H eN _ fun v H' N' e _ _ _ r => by
  cases r
  exact ⟨i, rfl, q H' e⟩
theorem ev_slice {tl th : TO} {ts : List PyData} {lo hi : Option Int} (h : EvE te ds (.list ts)) (h1 : EvO tl ds lo) (h2 : EvO th ds hi) : EvE (tSl (rSlL KK) te tl th) ds (.list (cutD ts lo hi)) := fun σ N hs H eN Q q =>
  h σ N hs H eN _ fun v H1 N1 e1 n1 k1 g1 r1 => h1 σ N hs H1 (eN.trans e1) _ fun H2 e2 => h2 σ N hs H2 ((eN.trans e1).trans e2) _ fun H3 e3 => by
    cases r1 with
    | lst hr hall =>
      refine ⟨_, _, rfl, ex_l ((k1.trans e2).trans e3) hr, fun p hp => ?_⟩
      obtain ⟨a1, a2, a3, a4, a5⟩ := laid (o := .lst _) ((e1.trans e2).trans e3) n1 ((k1.trans e2).trans e3) (fun a ha => (g1 a ha)) hp
      exact q (.ref p) _ _ a1 a2 a3 a4 (.lst (sq_of upd_same) ((hall.cut lo hi).mono a5))
/-- [f x for x in xs], each f x a new tree -/
theorem en_lcL {A : Type} {tl : TE} {xs : List A} {g : A → PyData} {f : A → PyData} (h : EvE tl ds (.list (xs.map g))) (hz : xs.length < 100000)
    (he : ∀ x ∈ xs, EvN te ((wipeD ds [j]).set j (some (g x))) (f x)) : EvN (tLc (iList KK tl) (gName j) tYes te [j]) ds (.list (xs.map f)) := fun σ N hs H eN Q q =>
  h σ N hs H eN _ fun v H1 N1 e1 n1 k1 g1 r1 => by
    cases r1 with
    | @lst a vs _ hr hall =>
      refine ⟨a, rfl, ⟨vs, ex_l k1 hr⟩, fun D hD => ?_⟩
      have hlen : vs.length = xs.length := by rw [hall.length, List.length_map]
      have hND : N1 D = none := ex_none k1 hD
      refine lc_list (xs := vs) (fun i H' => ∃ (acc : List V) (S : List Addr), Ex H1 H' ∧ H' D = some (.lst acc) ∧ RpTs H' acc ((xs.take i).map f) S ∧ (D :: S).Nodup ∧ ∀ a ∈ S, H1 a = none) ⟨[], [], Ex.new hD, upd_same, .nil, by simp, fun _ z => nomatch z⟩ (fun i H' _ c => ?_) (fun i v H' hi c => ?_) (fun H' c => ?_)
      · obtain ⟨acc, S, c1, _⟩ := c
        exact ex_l (k1.trans c1) hr
      · obtain ⟨acc, S, c1, c2, c3, c4, c5⟩ := c
        obtain ⟨d, ed, rv⟩ := hall.getV hi
        rw [List.getElem?_map] at ed
        cases ex : xs[i]? with
        | none =>
          rw [ex] at ed
          cases ed
        | some x =>
          rw [ex] at ed
          have ed' : g x = d := Option.some.inj ed
          subst ed'
          have hm : x ∈ xs := List.mem_of_getElem? ex
          refine ⟨wipe1 σ j v, ?_⟩
          simp only [tYes, if_true]
          refine he x hm _ N1 (((hs.mono n1).wipe [j]).set rv j) H' (k1.trans c1) _ fun y H4 S' e4 r4 nd4 f4 => ?_
          have hDS : D ∉ S' := fun z => by
            have := f4 D z
            rw [c2] at this
            cases this
          refine ⟨acc, e4 _ _ c2, by
            rw [c3.length, List.length_map, List.length_take]
            exact sz_lt (by omega), acc ++ [y], S ++ S', Ex.mut (c1.trans e4) hD, upd_same, ?_, ?_, ?_⟩
          · rw [take_snoc ex, List.map_append]
            have q1 := (c3.mono e4).snoc r4
            refine q1.agree fun b hb => upd_ne fun z => ?_
            subst z
            rcases List.mem_append.mp hb with hb | hb
            · exact (List.nodup_cons.mp c4).1 hb
            · exact hDS hb
          · obtain ⟨p1, p2⟩ := List.nodup_cons.mp c4
            refine List.nodup_cons.mpr ⟨fun z => (List.mem_append.mp z).elim p1 hDS, List.nodup_append.mpr ⟨p2, nd4, fun a ha b hb z => ?_⟩⟩
            subst z
            exact c3.there a ha (f4 a hb)
          · exact fun b hb => (List.mem_append.mp hb).elim (c5 b) fun z => ex_none c1 (f4 b z)
      · obtain ⟨acc, S, c1, c2, c3, c4, c5⟩ := c
        rw [show (xs.take vs.length).map f = xs.map f by rw [hlen, List.take_length]] at c3
        exact q (.ref D) H' (D :: S) (e1.trans c1) (.lst c2 c3) c4 fun b hb => (List.mem_cons.mp hb).elim (fun z => by rw [z]; exact ex_none e1 hD) fun z => ex_none e1 (c5 b z)
end
/-- a promise of a new tree -/
def spN (R : List PyData → PyData → Prop) : Sp := fun vs H Q _ => ∃ (N : Hp) (ds : List PyData) (d : PyData), Ex N H ∧ RpAll N vs ds ∧ R ds d ∧ ∀ v H' S, Ex H H' → RpT H' v d S → S.Nodup → (∀ a ∈ S, H a = none) → Q v H'
section
variable {R : List PyData → PyData → Prop} {E : XK} {ds : De} {ta : TA} {te : TE} {es : List PyData} {d : PyData}
theorem en_call (h : EvAs ta ds es) (hr : R es d) : EvN (tCall (spN R) [] E ta) ds d := fun σ N hs H eN Q q =>
  h σ N hs H eN _ fun vs H1 N1 e1 n1 k1 g1 r1 => ⟨N1, es, d, k1, by rw [List.append_nil]; exact r1, hr, fun v H2 S e2 r2 nd f => q v H2 S (e1.trans e2) r2 nd fun a ha => ex_none e1 (f a ha)⟩
/-- a block that ends with a new tree -/
def EvSn (E : XK) (t : TS) (ds : De) (d : PyData) : Prop := ∀ σ N, Holds N σ ds → ∀ (D : Ends) H, Ex N H → (∀ v H' S, Ex H H' → RpT H' v d S → S.Nodup → (∀ a ∈ S, H a = none) → D.rt v H') → t D σ H
theorem esn_ret (h : EvN te ds d) : EvSn E (tRet te) ds d := fun σ N hs D H eN a => h σ N hs H eN _ a
theorem esn_seq {t u : TS} {ds1 : De} (h1 : EvS E t ds (.nx ds1)) (h2 : EvSn E u ds1 d) : EvSn E (tSeq t u) ds d := fun σ N hs D H eN a =>
  h1 σ N hs { D with nx := u D } H eN fun σ' H' N' e n k g hs' => h2 σ' N' hs' D H' k fun v H2 S e2 r nd f => a v H2 S (e.trans e2) r nd fun b hb => ex_none e (f b hb)
theorem body_retN {t : TS} {names : List Str} {vs : List V} {H : Hp} {Q : VK} (h : spN R vs H Q E) (hb : ∀ es d, R es d → EvSn E t (startD names.length es) d) :
    t { nx := fun _ H' => Q .non H', rt := Q } (L2.start names vs) H := by
  obtain ⟨N, es, d, eN, r, hr, q⟩ := h
  exact hb es d hr (L2.start names vs) N (holds_start r) _ H eN q
theorem lenN_of {n : Nat} (h : ∀ es d, R es d → es.length = n) : ∀ vs H Q E, spN R vs H Q E → vs.length = n := fun vs H Q E ⟨N, es, d, eN, r, hr, q⟩ => by
  rw [r.length]
  exact h es d hr
end
/-- the row r of a new table, and the table with another count there -/
theorem mat_at {H : Hp} {p : Addr} {M : List (List Int)} {S : List Addr} (r : RpT H (.ref p) (.list (M.map fun row => .list (row.map PyData.int))) S) (nd : S.Nodup) : ∃ rs : List Addr, S = p :: rs ∧ H p = some (.lst (rs.map V.ref)) ∧ rs.length = M.length ∧
    ∀ (k : Nat) (q : Addr) (row : List Int), rs[k]? = some q → M[k]? = some row → H q = some (.lst (row.map V.int)) := by
  cases r with
  | lst h rr =>
    have key : ∀ (M : List (List Int)) (xs : List V) (S : List Addr), RpTs H xs (M.map fun row => .list (row.map PyData.int)) S → xs = S.map V.ref ∧ S.length = M.length ∧ ∀ (k : Nat) (q : Addr) (row : List Int), S[k]? = some q → M[k]? = some row → H q = some (.lst (row.map V.int)) := by
      intro M
      induction M with
      | nil =>
        intro xs S r
        cases r
        exact ⟨rfl, rfl, fun k q row e => by simp at e⟩
      | cons row M ih =>
        intro xs S r
        cases r with
        | cons h1 r2 =>
          cases h1 with
          | lst hh ri =>
            obtain ⟨e1, e2⟩ := ri.ofInts
            subst e1 e2
            obtain ⟨i1, i2, i3⟩ := ih _ _ r2
            subst i1
            refine ⟨rfl, by
              show (_ :: ([] ++ _)).length = _
              simp [i2], fun k q row' e1 e2 => ?_⟩
            cases k with
            | zero =>
              have e3 : _ = q := Option.some.inj e1
              have e4 : row = row' := Option.some.inj e2
              subst e3 e4
              exact hh
            | succ k => exact i3 k q row' e1 e2
    obtain ⟨e1, e2, e3⟩ := key M _ _ rr
    subst e1
    exact ⟨_, rfl, h, e2, e3⟩
theorem mat_mk {H : Hp} {p : Addr} {rs : List Addr} : ∀ {M : List (List Int)} {rs : List Addr}, rs.length = M.length → (∀ (k : Nat) (q : Addr) (row : List Int), rs[k]? = some q → M[k]? = some row → H q = some (.lst (row.map V.int))) →
    RpTs H (rs.map V.ref) (M.map fun row => .list (row.map PyData.int)) rs
  | [], [], _, _ => .nil
  | row :: M, q :: rs, hl, h => by
    have q1 : RpT H (.ref q) (.list (row.map PyData.int)) [q] := .lst (h 0 q row rfl rfl) (.ints row)
    exact .cons (S := [q]) q1 (mat_mk (p := p) (rs := rs) (by simpa using hl) fun k a b e1 e2 => h (k + 1) a b (by simpa using e1) (by simpa using e2))
  | [], _ :: _, hl, _ => by simp at hl
  | _ :: _, [], hl, _ => by simp at hl
end DL
set_option Elab.async false
set_option linter.all false
set_option maxRecDepth 100000
set_option maxHeartbeats 4000000
namespace DL
open PySem PySem.Spec PyProof.Rows L2 Evl
set_option autoImplicit false
variable [Kn]
section
variable {ds : De} {tl te : TE} {j : Nat}
/-- [f column for column in zip(*rows)], each f column a new tree -/
theorem en_lcZ {rows : List (List PyData)} {m : Nat} {cols : Nat → List PyData} {f : Nat → PyData} (h : EvE tl ds (.list (rows.map PyData.list))) (h0 : 0 < rows.length) (h8 : rows.length ≤ 8) (hm : ∀ r ∈ rows, r.length = m) (hz : m < 100000)
    (hc : ∀ i, i < m → (cols i).length = rows.length ∧ ∀ (k : Nat) (r : List PyData), rows[k]? = some r → (cols i)[k]? = r[i]?)
    (he : ∀ i, i < m → EvN te ((wipeD ds [j]).set j (some (.tuple (cols i)))) (f i)) :
    EvN (tLc (ZS.iZipS KK tl) (gName j) tYes te [j]) ds (.list ((List.range m).map f)) := fun σ N hs H eN Q q =>
  h σ N hs H eN _ fun v H1 N1 e1 n1 k1 g1 r1 => by
    cases r1 with
    | @lst a vs _ hr hall =>
      obtain ⟨ls, xss, ev, el1, el2, hrow⟩ := rp_lists hall
      subst ev
      have hrd : ∀ (k : Nat) (l : Addr), ls[k]? = some l → ∃ xs r, rows[k]? = some r ∧ SqL KK N1 l xs ∧ RpAll N1 xs r := fun k l hk => by
        have hk2 : k < rows.length := by
          rw [← el1]
          exact (List.getElem?_eq_some_iff.mp hk).1
        have hx : xss[k]? = some (xss[k]'(by omega)) := List.getElem?_eq_getElem _
        have hy : rows[k]? = some rows[k] := List.getElem?_eq_getElem hk2
        obtain ⟨p1, p2⟩ := hrow k l _ _ hk hx hy
        exact ⟨_, _, hy, p1, p2⟩
      refine ⟨a, ls, rfl, .inr (ex_l k1 hr), by omega, by omega, fun l hl => ?_, fun D hD => ?_⟩
      · obtain ⟨k, hk⟩ := List.mem_iff_getElem?.mp hl
        obtain ⟨xs, r, _, p1, _⟩ := hrd k l hk
        exact ⟨xs, ex_l k1 p1⟩
      refine ⟨fun i mm H' => mm = m - i ∧ i ≤ m ∧ ∃ (acc : List V) (S : List Addr), Ex H1 H' ∧ H' D = some (.lst acc) ∧ RpTs H' acc ((List.range i).map f) S ∧ (D :: S).Nodup ∧ ∀ a ∈ S, H1 a = none, ⟨m, by simp, Nat.zero_le _, [], [], Ex.new hD, upd_same, .nil, by simp, fun _ z => nomatch z⟩, ?_⟩
      rintro i mm H' ⟨rfl, hi, acc, S, c1, c2, c3, c4, c5⟩
      have sq : ∀ (k : Nat) (l : Addr), ls[k]? = some l → ∃ xs r, rows[k]? = some r ∧ SqL KK H' l xs ∧ RpAll N1 xs r := fun k l hk => by
        obtain ⟨xs, r, p0, p1, p2⟩ := hrd k l hk
        exact ⟨xs, r, p0, ex_l (k1.trans c1) p1, p2⟩
      by_cases hlt : i < m
      · refine .inr ⟨?_, fun H'' => ∃ (acc : List V) (S : List Addr), Ex H1 H'' ∧ H'' D = some (.lst acc) ∧ RpTs H'' acc ((List.range (i + 1)).map f) S ∧ (D :: S).Nodup ∧ ∀ a ∈ S, H1 a = none, fun H'' c' => ⟨m - (i + 1), by omega, rfl, hlt, c'⟩, fun x H'' y => ?_⟩
        · have hp : ∀ (k : Nat) (l : Addr), ls[k]? = some l → ∃ v : V, ∃ xs, SqL KK H' l xs ∧ xs[i]? = some v := fun k l hk => by
            obtain ⟨xs, r, p0, p1, p2⟩ := sq k l hk
            have hx : i < xs.length := by
              rw [p2.length, hm r (List.mem_of_getElem? p0)]
              exact hlt
            exact ⟨xs[i], xs, p1, List.getElem?_eq_getElem hx⟩
          obtain ⟨vs, hv1, hv2⟩ := ZS.pick (R := fun l v => ∃ xs, SqL KK H' l xs ∧ xs[i]? = some v) _ ls rfl hp
          exact ⟨vs, hv1, fun k l v a b => hv2 k l v a b⟩
        · obtain ⟨T, vs, rfl, hT, rfl, hvl, hv⟩ := y
          obtain ⟨hcl, hck⟩ := hc i hlt
          have rcol : RpAll N1 vs (cols i) := rp_col vs (cols i) (by rw [hvl, hcl, el1]) fun k v d e2 e3 => by
            have hk2 : k < ls.length := by
              rw [← hvl]
              exact (List.getElem?_eq_some_iff.mp e2).1
            obtain ⟨xs, r, p0, p1, p2⟩ := sq k ls[k] (List.getElem?_eq_getElem hk2)
            have e4 := hv k ls[k] v (List.getElem?_eq_getElem hk2) e2 xs p1
            rw [hck k r p0] at e3
            obtain ⟨v', e5, rv⟩ := p2.get e3
            rw [e4] at e5
            cases e5
            exact rv
          have hT1 : H1 T = none := ex_none c1 hT
          have hN1 : N1 T = none := ex_none k1 hT1
          have eT : Ex H' (upd H' T (.tup vs)) := Ex.new hT
          have kN : Ex (upd N1 T (.tup vs)) (upd H' T (.tup vs)) := fun b o hb => by
            by_cases z : b = T
            · subst z
              rw [upd_same] at hb ⊢
              exact hb
            · rw [upd_ne z] at hb ⊢
              exact c1 b o (k1 b o hb)
          refine ⟨wipe1 σ j _, ?_⟩
          simp only [tYes, if_true]
          refine he i hlt _ (upd N1 T (.tup vs)) (((hs.mono (n1.trans (Ex.new hN1))).wipe [j]).set (.tup (.inl upd_same) (rcol.mono (Ex.new hN1))) j) _ kN _ fun y H4 S' e4 r4 nd4 f4 => ?_
          have e5 := eT.trans e4
          have hDS : D ∉ S' := fun z => by
            have := f4 D z
            rw [eT _ _ c2] at this
            cases this
          refine ⟨acc, e5 _ _ c2, by
            rw [c3.length, List.length_map, List.length_range]
            exact sz_lt (by omega), acc ++ [y], S ++ S', Ex.mut (c1.trans e5) hD, upd_same, ?_, ?_, ?_⟩
          · rw [List.range_succ, List.map_append]
            have q1 := (c3.mono e5).snoc r4
            refine q1.agree fun b hb => upd_ne fun z => ?_
            subst z
            rcases List.mem_append.mp hb with hb | hb
            · exact (List.nodup_cons.mp c4).1 hb
            · exact hDS hb
          · obtain ⟨p1, p2⟩ := List.nodup_cons.mp c4
            refine List.nodup_cons.mpr ⟨fun z => (List.mem_append.mp z).elim p1 hDS, List.nodup_append.mpr ⟨p2, nd4, fun a ha b hb z => ?_⟩⟩
            subst z
            exact (c3.mono eT).there a ha (f4 a hb)
          · exact fun b hb => (List.mem_append.mp hb).elim (c5 b) fun z => ex_none (c1.trans eT) (f4 b z)
      · have e : i = m := by omega
        subst e
        have hl0 : 0 < ls.length := by omega
        obtain ⟨xs, r, p0, p1, p2⟩ := sq 0 ls[0] (List.getElem?_eq_getElem hl0)
        refine .inl ⟨⟨ls[0], xs, List.getElem?_eq_getElem hl0, p1, by rw [p2.length, hm r (List.mem_of_getElem? p0)]; exact Nat.le_refl _⟩, ?_⟩
        exact q (.ref D) H' (D :: S) (e1.trans c1) (.lst c2 c3) c4 fun b hb => (List.mem_cons.mp hb).elim (fun z => by rw [z]; exact ex_none e1 hD) fun z => ex_none e1 (c5 b z)
end
end DL
set_option Elab.async false
set_option linter.all false
set_option maxRecDepth 100000
set_option maxHeartbeats 4000000
namespace DL
open PySem PySem.Spec PyProof.Rows L2 Evl
set_option autoImplicit false
variable [Kn]
theorem reg_none {N1 H3 N2 : Hp} {D : Addr} (g : Reg N1 H3 N2) (h1 : N1 D = none) (h3 : H3 D ≠ none) : N2 D = none := by
  cases q : N2 D with
  | none => rfl
  | some o =>
    rcases g D (by rw [q]; intro z; cases z) with z | z
    · exact absurd h1 z
    · exact absurd z h3
theorem Cq.at {N H H1 N1 H' : Hp} {D : Addr} {es : List PyData} (p : Cq N H H1 N1 D es H') : H' D ≠ none := by
  obtain ⟨acc, Nk, a, b, _⟩ := p.ex
  rw [b]
  intro z
  cases z
theorem fm_snoc {A B : Type} {xs : List A} {f : A → List B} {i : Nat} {x : A} (h : xs[i]? = some x) : (xs.take (i + 1)).flatMap f = (xs.take i).flatMap f ++ f x := by
  rw [take_snoc h, List.flatMap_append]
  simp
theorem fm2_len {A B : Type} {f : A → List B} : ∀ (xs : List A) (i : Nat), ((xs.take i).flatMap f).length ≤ (xs.flatMap f).length
  | [], i => by simp
  | x :: xs, 0 => by simp
  | x :: xs, i + 1 => by
    rw [List.take_succ_cons, List.flatMap_cons, List.flatMap_cons, List.length_append, List.length_append]
    have := fm2_len (f := f) xs i
    omega
theorem fm2_at {A B : Type} {f : A → List B} : ∀ (xs : List A) (i : Nat) (x : A), xs[i]? = some x → ((xs.take i).flatMap f).length + (f x).length ≤ (xs.flatMap f).length
  | [], i, x, h => by simp at h
  | y :: xs, 0, x, h => by
    have e : y = x := by simpa using h
    subst e
    rw [List.flatMap_cons, List.length_append]
    simp
  | y :: xs, i + 1, x, h => by
    rw [List.take_succ_cons, List.flatMap_cons, List.flatMap_cons, List.length_append, List.length_append]
    have := fm2_at (f := f) xs i x (by simpa using h)
    omega
theorem wipe2a (σ : St) (j k : Nat) (hjk : j ≠ k) (x : V) : wipe ((wipe σ [j, k]).set j (some x)) [j, k] = wipe σ [j, k] := by
  show ((((σ.set k none).set j none).set j (some x)).set k none).set j none = (σ.set k none).set j none
  rw [List.set_set, List.set_comm _ _ hjk, List.set_set, List.set_set]
theorem wipe2b (σ : St) (k : Nat) (y : V) : wipe ((wipe σ [k]).set k (some y)) [k] = wipe σ [k] := wipe1 σ k y
section
variable {ds : De} {tl te : TE} {j : Nat}
/-- [f a b for a in xs for b in ys a if p a b] -/
theorem ev_lc2L {A B : Type} {tl2 : TE} {tt : TT} {k : Nat} {xs : List A} {ga : A → PyData} {ys : A → List B} {gb : B → PyData} {p : A → B → Bool} {f : A → B → PyData} (hjk : j ≠ k) (h : EvE tl ds (.list (xs.map ga))) (hx : xs.length < 100000) (hz : (xs.flatMap ys).length < 100000)
    (h2 : ∀ x ∈ xs, EvE tl2 ((wipeD ds [j, k]).set j (some (ga x))) (.list ((ys x).map gb)))
    (ht : ∀ x ∈ xs, ∀ y ∈ ys x, EvB tt ((wipeD ((wipeD ds [j, k]).set j (some (ga x))) [k]).set k (some (gb y))) (p x y))
    (he : ∀ x ∈ xs, ∀ y ∈ ys x, p x y = true → EvE te ((wipeD ((wipeD ds [j, k]).set j (some (ga x))) [k]).set k (some (gb y))) (f x y)) :
    EvE (tLc2 (iList KK tl) (gName j) tYes (iList KK tl2) (gName k) tt te [j, k] [k]) ds (.list (xs.flatMap fun x => ((ys x).filter (p x)).map (f x))) := fun σ N hs H eN Q q =>
  h σ N hs H eN _ fun v H1 N1 e1 n1 k1 g1 r1 => by
    cases r1 with
    | @lst a vs _ hr hall =>
      refine ⟨a, rfl, ⟨vs, ex_l k1 hr⟩, fun D hD => ?_⟩
      have hlen : vs.length = xs.length := by rw [hall.length, List.length_map]
      have hND : N1 D = none := ex_none k1 hD
      refine ⟨fun i m H' => m = xs.length - i ∧ i ≤ xs.length ∧ Cq N H H1 N1 D ((xs.take i).flatMap fun x => ((ys x).filter (p x)).map (f x)) H', ⟨xs.length, by simp, Nat.zero_le _, Cq.start e1 k1 g1 hD⟩, ?_⟩
      rintro i m H' ⟨rfl, hi, c⟩
      have sq : SqL KK H' a vs := ex_l c.known hr
      by_cases hlt : i < xs.length
      · have ex : xs[i]? = some xs[i] := List.getElem?_eq_getElem hlt
        have hm : xs[i] ∈ xs := List.getElem_mem hlt
        have ed : (xs.map ga)[i]? = some (ga xs[i]) := by rw [List.getElem?_map, ex]; rfl
        obtain ⟨v, ev, rv⟩ := hall.get ed
        refine .inr ⟨⟨vs, v, sq, ev⟩, fun H'' => Cq N H H1 N1 D ((xs.take (i + 1)).flatMap fun x => ((ys x).filter (p x)).map (f x)) H'', fun H'' c' => ⟨xs.length - (i + 1), by omega, rfl, hlt, c'⟩, fun x H'' y => ?_⟩
        obtain ⟨rfl, y⟩ := y
        have exv : x = v := Option.some.inj ((y vs sq).symm.trans ev)
        subst exv
        refine ⟨wipe2a σ j k hjk x, ?_⟩
        simp only [tYes, if_true]
        have hs1 : Holds N1 ((wipe σ [j, k]).set j (some x)) ((wipeD ds [j, k]).set j (some (ga xs[i]))) := ((hs.mono n1).wipe [j, k]).set rv j
        refine h2 _ hm _ N1 hs1 H'' c.known _ fun u H3 N2 e3 n3 k3 g3 r3 => ?_
        have hN2 : N2 D = none := reg_none g3 hND c.at
        have c3 : Cq N H H1 N2 D ((xs.take i).flatMap fun x => ((ys x).filter (p x)).map (f x)) H3 := (c.on e3).more k3 hN2 (fun b hb => (g3 b hb).elim (g1 b) fun z => .inr (ex_none (e1.trans c.old) z)) n3
        cases r3 with
        | @lst b us _ hr3 hall3 =>
          have hlen3 : us.length = (ys xs[i]).length := by rw [hall3.length, List.length_map]
          refine ⟨b, rfl, ⟨us, ex_l k3 hr3⟩, ?_⟩
          refine ⟨fun jj kk H4 => kk = (ys xs[i]).length - jj ∧ jj ≤ (ys xs[i]).length ∧ Cq N H H1 N2 D (((xs.take i).flatMap fun x => ((ys x).filter (p x)).map (f x)) ++ (((ys xs[i]).take jj).filter (p xs[i])).map (f xs[i])) H4, ⟨_, rfl, Nat.zero_le _, by simpa using c3⟩, ?_⟩
          rintro jj kk H4 ⟨rfl, hjj, c4⟩
          have sq4 : SqL KK H4 b us := ex_l c4.known hr3
          by_cases hlt2 : jj < (ys xs[i]).length
          · have ey : (ys xs[i])[jj]? = some (ys xs[i])[jj] := List.getElem?_eq_getElem hlt2
            have hmy : (ys xs[i])[jj] ∈ ys xs[i] := List.getElem_mem hlt2
            have ed2 : ((ys xs[i]).map gb)[jj]? = some (gb (ys xs[i])[jj]) := by rw [List.getElem?_map, ey]; rfl
            obtain ⟨u2, eu2, ru2⟩ := hall3.get ed2
            refine .inr ⟨⟨us, u2, sq4, eu2⟩, fun H5 => Cq N H H1 N2 D (((xs.take i).flatMap fun x => ((ys x).filter (p x)).map (f x)) ++ (((ys xs[i]).take (jj + 1)).filter (p xs[i])).map (f xs[i])) H5, fun H5 c5 => ⟨(ys xs[i]).length - (jj + 1), by omega, rfl, hlt2, c5⟩, fun x2 H5 y2 => ?_⟩
            obtain ⟨rfl, y2⟩ := y2
            have exv2 : x2 = u2 := Option.some.inj ((y2 us sq4).symm.trans eu2)
            subst exv2
            have bound : (((xs.take i).flatMap fun x => ((ys x).filter (p x)).map (f x)) ++ (((ys xs[i]).take jj).filter (p xs[i])).map (f xs[i])).length < 100000 := by
              rw [List.length_append]
              have b1 : ∀ l : List A, (l.flatMap fun x => ((ys x).filter (p x)).map (f x)).length ≤ (l.flatMap ys).length := by
                intro l
                induction l with
                | nil => simp
                | cons z l ih =>
                  rw [List.flatMap_cons, List.flatMap_cons, List.length_append, List.length_append, List.length_map]
                  have := List.length_filter_le (p z) (ys z)
                  omega
              have b2 := fm2_at (f := ys) xs i xs[i] ex
              have b3 := b1 (xs.take i)
              have b4 : ((((ys xs[i]).take jj).filter (p xs[i])).map (f xs[i])).length ≤ (ys xs[i]).length := fm_len
              omega
            refine ⟨wipe2b _ k _, cq_turn (b := p xs[i] (ys xs[i])[jj]) (d := f xs[i] (ys xs[i])[jj]) c4 e1 hD bound (((hs1.mono n3).wipe [k]).set ru2 k) (ht _ hm _ hmy) (he _ hm _ hmy) (fun hp H6 c6 => ?_) (fun hp H6 c6 => ?_)⟩
            · rw [fm_yes ey hp, ← List.append_assoc]
              exact c6
            · rw [fm_no ey hp]
              exact c6
          · have ej : jj = (ys xs[i]).length := by omega
            subst ej
            refine .inl ⟨⟨us, sq4, by omega⟩, ?_⟩
            rw [fm_snoc ex]
            rw [List.take_length] at c4
            exact c4.less n3
      · have e : i = xs.length := by omega
        subst e
        refine .inl ⟨⟨vs, sq, by omega⟩, ?_⟩
        rw [List.take_length] at c
        exact c.fin e1 n1 hD q
end
end DL
set_option Elab.async false
set_option linter.all false
set_option maxRecDepth 100000
set_option maxHeartbeats 4000000
namespace DL
open PySem PySem.Spec PyProof.Rows L2 Evl
set_option autoImplicit false
variable [Kn]
section
variable {ds : De} {tl te tx ta tb tc : TE} {j : Nat}
theorem ev_lcD {xs : List PyData} {f : PyData → PyData} (h : EvE tl ds (.list xs)) (hz : xs.length < 100000) (he : ∀ x ∈ xs, EvE te ((wipeD ds [j]).set j (some x)) (f x)) :
    EvE (tLc (iList KK tl) (gName j) tYes te [j]) ds (.list (xs.map f)) := ev_lcL1 (g := fun x => x) (by rw [List.map_id']; exact h) hz he
theorem ev_anyF {A : Type} {xs : List A} {b : A → Bool} (h : EvE tx ds (.list (xs.map fun x => .bool (b x)))) : EvE (tCB (rAny KK) (tCons tx tNil)) ds (.bool (xs.any b)) := by
  have h2 : EvE tx ds (.list ((xs.map b).map .bool)) := by
    rw [List.map_map]
    exact h
  have h3 := ev_any  h2
  rw [List.any_map] at h3
  exact h3
theorem ev_allF {A : Type} {xs : List A} {b : A → Bool} (h : EvE tx ds (.list (xs.map fun x => .bool (b x)))) : EvE (tCB (rAll KK) (tCons tx tNil)) ds (.bool (xs.all b)) := by
  have h2 : EvE tx ds (.list ((xs.map b).map .bool)) := by
    rw [List.map_map]
    exact h
  have h3 := ev_all  h2
  rw [List.all_map] at h3
  exact h3
theorem ev_chainLe {a b c : Int} (ha : EvE ta ds (.int a)) (hb : EvE tb ds (.int b)) (hc : EvE tc ds (.int c)) :
    EvE (tChain (rI0 fun i j => .bl (decide (i ≤ j))) (rI0 fun i j => .bl (decide (i ≤ j))) ta tb tc) ds (.bool (decide (a ≤ b) && decide (b ≤ c))) := fun σ N hs H eN Q q =>
  ha σ N hs H eN _ fun x H1 N1 e1 n1 k1 g1 r1 => hb σ N1 (hs.mono n1) H1 k1 _ fun y H2 N2 e2 n2 k2 g2 r2 => by
    cases r1
    cases r2
    refine ⟨a, b, rfl, rfl, decide (a ≤ b), rfl, ?_⟩
    by_cases h : a ≤ b
    · rw [decide_eq_true h]
      refine iteT ?_
      refine hc σ N2 ((hs.mono n1).mono n2) H2 k2 _ fun z H3 N3 e3 n3 k3 g3 r3 => ?_
      cases r3
      refine ⟨b, c, rfl, rfl, ?_⟩
      have hq := q (.bl (decide (b ≤ c))) H3 N3 ((e1.trans e2).trans e3) ((n1.trans n2).trans n3) k3 ((g1.trans e1 g2).trans (e1.trans e2) g3)
      rw [decide_eq_true h] at hq
      exact hq (.bl _)
    · rw [decide_eq_false h] at q ⊢
      exact iteF (q (.bl false) H2 N2 (e1.trans e2) (n1.trans n2) k2 (g1.trans e1 g2) (.bl false))
theorem ev_ixI {ns : List Int} {i : Int} {ti : TE} (h : EvE tx ds (.list (ns.map .int))) (hi : EvE ti ds (.int i)) (h0 : 0 ≤ i) (h1 : i < ns.length) : EvE (tOp (rIxL KK) tx ti) ds (.int (ns.getD i.toNat 0)) := by
  refine ev_ixL h hi ?_
  have e : i = ((i.toNat : Nat) : Int) := by omega
  rw [e]
  refine atI_nat ?_
  rw [List.getElem?_map, Int.toNat_natCast, List.getD_eq_getElem?_getD]
  have h2 : i.toNat < ns.length := by omega
  rw [List.getElem?_eq_getElem h2]
  rfl
end
/-- ints, rows of ints -/
abbrev eI (ns : List Int) : PyData := .list (ns.map PyData.int)
abbrev eM (M : List (List Int)) : PyData := .list (M.map eI)
theorem noDict_ints : ∀ ns : List Int, noDictAll (ns.map PyData.int) = true
  | [] => rfl
  | n :: r => by
    show (true && noDictAll (r.map PyData.int)) = true
    rw [noDict_ints r]
    rfl
theorem noDict_eI (ns : List Int) : noDict (eI ns) = true := noDict_ints ns
theorem noDict_rows : ∀ M : List (List Int), noDictAll (M.map eI) = true
  | [] => rfl
  | n :: r => by
    show (noDict (eI n) && noDictAll (r.map eI)) = true
    rw [noDict_rows r, noDict_eI]
    rfl
theorem noDict_eM (M : List (List Int)) : noDict (eM M) = true := noDict_rows M
theorem lay_ints : ∀ ns : List Int, PyData.canLayAll0 (ns.map PyData.int) = true
  | [] => by simp [PyData.canLayAll0]
  | n :: r => by
    simp only [List.map_cons, PyData.canLayAll0, PyData.canLay0, lay_ints r, Bool.and_self, Bool.true_and]
theorem lay_rows : ∀ M : List (List Int), PyData.canLayAll0 (M.map eI) = true
  | [] => by simp [PyData.canLayAll0]
  | n :: r => by
    simp only [List.map_cons, PyData.canLayAll0, PyData.canLay0, lay_ints n, lay_rows r, Bool.and_self, Bool.true_and]
theorem dep_ints : ∀ ns : List Int, PyData.depthAll (ns.map PyData.int) ≤ 1
  | [] => by simp [PyData.depthAll]
  | n :: r => by
    have := dep_ints r
    simp only [List.map_cons, PyData.depthAll, PyData.depth]
    omega
theorem dep_rows : ∀ M : List (List Int), PyData.depthAll (M.map eI) ≤ 3
  | [] => by simp [PyData.depthAll]
  | n :: r => by
    have := dep_rows r
    have := dep_ints n
    simp only [List.map_cons, PyData.depthAll, PyData.depth]
    omega
theorem shaped_eI (ns : List Int) : SeqAt.shaped (eI ns) = true := by
  unfold SeqAt.shaped
  have := dep_ints ns
  simp only [PyData.canLay0, lay_ints, PyData.depth, Bool.true_and, decide_eq_true_eq]
  exact decide_eq_true (by omega)
theorem shaped_eM (M : List (List Int)) : SeqAt.shaped (eM M) = true := by
  unfold SeqAt.shaped
  have := dep_rows M
  simp only [PyData.canLay0, lay_rows, PyData.depth, Bool.true_and, decide_eq_true_eq]
  exact decide_eq_true (by omega)
theorem lay_of {d : PyData} (h : SeqAt.shaped d = true) : d.canLay0 = true := by
  unfold SeqAt.shaped at h
  exact ((Bool.and_eq_true _ _).mp h).1
theorem eqv_eI (ns : List Int) : PyData.eqv (eI ns) (eI ns) = true := SeqAt.eqv_refl _ (lay_of (shaped_eI ns))
theorem eqv_eM (M : List (List Int)) : PyData.eqv (eM M) (eM M) = true := SeqAt.eqv_refl _ (lay_of (shaped_eM M))
end DL
set_option Elab.async false
set_option linter.all false
set_option maxRecDepth 100000
set_option maxHeartbeats 4000000
/-! the rules by their written part's own name, for use within a comprehension -/
namespace DL
open PySem PySem.Spec PyProof.Rows L2 Evl
set_option autoImplicit false
variable [Kn]
section
variable {X : Cx} {K : PySem.W.Frag}
def rLen (K : PySem.W.Frag) : List V → Hp → VK → Prop := fun xs H Q => ∃ (p : Addr) (ys : List V), xs = [.ref p] ∧ (SqL K H p ys ∨ SqT K H p ys) ∧ Q (.int ys.length) H
def rListOf (K : PySem.W.Frag) : List V → Hp → VK → Prop := fun xs H Q => ∃ (p : Addr) (ys : List V), xs = [.ref p] ∧ (SqL K H p ys ∨ SqT K H p ys) ∧ ∀ l, H l = none → Q (.ref l) (upd H l (.lst ys))
theorem k_len (h : X.K = K := by rfl) : CallR X (.builtin "len") (rLen K) := by
  subst h
  exact call_len_seq
theorem k_list (h : X.K = K := by rfl) : CallR X (.type "list") (rListOf K) := by
  subst h
  exact call_list_of
theorem k_any (hc : X.calm = true) (h : X.K = K := by rfl) : CallR X (.builtin "any") (rAny K) := by
  subst h
  exact cr_any hc
theorem k_all (hc : X.calm = true) (h : X.K = K := by rfl) : CallR X (.builtin "all") (rAll K) := by
  subst h
  exact cr_all hc
theorem k_sum (hc : X.calm = true) (h : X.K = K := by rfl) : CallR X (.builtin "sum") (rSum K) := by
  subst h
  exact cr_sum hc
theorem k_isi (h : X.K = K := by rfl) : CallR X (.builtin "isinstance") (rIsi K) := by
  subst h
  exact call_isi
theorem k_ixL (h : X.K = K := by rfl) : IxR X (rIxL K) := by
  subst h
  exact ix_list
theorem k_ixT (h : X.K = K := by rfl) : IxR X (rIxT K) := by
  subst h
  exact ix_tup
theorem k_eqD (hu : X.A.units + 64 < cLine) (h : X.K = K := by rfl) : OpR X (compareOp .Eq) (rEqD K) := by
  subst h
  exact op_eqD hu
theorem k_neD (hu : X.A.units + 64 < cLine) (h : X.K = K := by rfl) : OpR X (compareOp .NotEq) (rNeD K) := by
  subst h
  exact op_neD hu
theorem k_slL (h : X.K = K := by rfl) : SlR X (rSlL K) := by
  subst h
  exact sl_list
theorem k_pi_list {tg e : Expr} {te : TE} (he : PE X e te) (h : X.K = K := by rfl) : PI X tg e (iList K te) := by
  subst h
  exact pi_list he
theorem k_pi_zipS {e : Expr} {te : TE} {x : Str} {p p2 pos tp : Pos} (hg : Gl X "zip") (hm : X.mg "zip" = none) (he : PE X e te) (h : X.K = K := by rfl) (hst : starEach [.Starred e p2] X.env = [(true, eval e X.env)] := by rfl) :
    PI X (.Name x tp) (.Call (.Name "zip" p) [.Starred e p2] [] pos) (ZS.iZipS K te) := by
  subst h
  exact pi_zipS hg hm he hst
end
section
variable {ds : De} {tx te : TE} {ts : List PyData}
theorem e_len (h : EvE tx ds (.list ts)) : EvE (tCB (rLen KK) (tCons tx tNil)) ds (.int (ts.length : Int)) := ev_len_l h
theorem e_lenT (h : EvE tx ds (.tuple ts)) : EvE (tCB (rLen KK) (tCons tx tNil)) ds (.int (ts.length : Int)) := ev_len_t h
theorem e_list (h : EvE tx ds (.list ts)) : EvE (tCB (rListOf KK) (tCons tx tNil)) ds (.list ts) := ev_list_of h
theorem n_list (h : EvE tx ds (.list ts)) (hf : ts.all flatD = true) : EvN (tCB (rListOf KK) (tCons tx tNil)) ds (.list ts) := en_list_of h hf
end
end DL
set_option Elab.async false
set_option linter.all false
set_option maxRecDepth 100000
set_option maxHeartbeats 4000000
namespace DL
open PySem PySem.Spec PyProof.Rows L2 Evl
set_option autoImplicit false
variable [Kn]
theorem sum_rawT {prog : Program} {w : World} {A : Around} {E : Value → Shared → Prop} {s : Shared} {l : Addr} {its : List Value} {ns : List Int} {Q : Value → Shared → Prop} (hh : A.handled = none) (hl : s.heap.IsTuple l its.toArray) (hi : IntsAre its ns)
    (h : ∀ h' tk t', (∀ b o, s.heap.get? b = some o → h'.get? b = some o) → Q (.int ns.sum t') { s with heap := h', toks := tk }) : wpAny (model prog w) A (call (.builtin "sum") [.ref l]) Q E s := by
  obtain ⟨xs, e⟩ := hi.allInts.items
  have hn : numsOf (intItems xs).toList = ns := by rw [← e]; exact hi.numsOf
  rw [nums_intItems] at hn
  rw [e] at hl
  refine PySem.W.ktm_sumG hh hl fun h' tk t' hk => ?_
  have := h h' tk t' hk
  rw [preSum_eq, List.take_of_length_le (by simp), hn]
  exact this
/-- sum of a list or a tuple of ints -/
def rSumX (K : PySem.W.Frag) : List V → Hp → VK → Prop := fun vs H Q => ∃ (a : Addr) (ns : List Int), vs = [V.ref a] ∧ (SqL K H a (ns.map V.int) ∨ SqT K H a (ns.map V.int)) ∧ Q (.int ns.sum) H
section
variable {X : Cx} {K : PySem.W.Frag}
theorem k_sumX (hc : X.calm = true) (h : X.K = K := by rfl) : CallR X (.builtin "sum") (rSumX K) := by
  subst h
  intro pins s σ H vs us Q I r h
  obtain ⟨a, ns, rfl, hs, q⟩ := h
  rcases hs with hs | hs
  · obtain ⟨its, rv, hl, _⟩ := I.list hs
    rw [Vals.ref1 r]
    exact sum_raw (I.ok.hd hc) hl.isList rv.ints fun h' tk t' hk => ⟨.int _, H, I.kept hk, ⟨_, rfl⟩, q⟩
  · obtain ⟨its, rv, hl, _⟩ := I.tuple hs
    rw [Vals.ref1 r]
    exact sum_rawT (I.ok.hd hc) hl rv.ints fun h' tk t' hk => ⟨.int _, H, I.kept hk, ⟨_, rfl⟩, q⟩
end
section
variable {ds : De} {tx te : TE} {ns : List Int}
theorem e_sum (h : EvE tx ds (.list (ns.map .int))) : EvE (tCB (rSumX KK) (tCons tx tNil)) ds (.int ns.sum) :=
  ev_cbV (v := .int ns.sum) (ea_cons h ea_nil) (fun _ => .int _) fun vs N H eN rv Q q => by
    cases rv with
    | cons r rr =>
      cases rr
      cases r with
      | lst hr hall =>
        have e := hall.ofInts
        subst e
        exact ⟨_, ns, rfl, .inl (ex_l eN hr), q⟩
theorem e_sumT (h : EvE tx ds (.tuple (ns.map .int))) : EvE (tCB (rSumX KK) (tCons tx tNil)) ds (.int ns.sum) :=
  ev_cbV (v := .int ns.sum) (ea_cons h ea_nil) (fun _ => .int _) fun vs N H eN rv Q q => by
    cases rv with
    | cons r rr =>
      cases rr
      cases r with
      | tup hr hall =>
        have e := hall.ofInts
        subst e
        exact ⟨_, ns, rfl, .inr (set_of_rd (rd_ex eN hr)), q⟩
theorem en_is {d d' : PyData} (h : EvN te ds d) (e : d = d') : EvN te ds d' := e ▸ h
end
/-- a body that comes to its end without a return -/
theorem body_end {R : List PyData → PyData → Prop} {t : TS} {names : List Str} {vs : List V} {H : Hp} {Q : VK} {E : XK} (h : spF R vs H Q E) (hb : ∀ es d, R es d → d = .none ∧ ∃ ds', EvS E t (startD names.length es) (.nx ds')) :
    t { nx := fun _ H' => Q .non H', rt := Q } (L2.start names vs) H := by
  obtain ⟨N, es, d, eN, r, hr, q⟩ := h
  obtain ⟨rfl, ds', hb⟩ := hb es d hr
  exact hb (L2.start names vs) N (holds_start r) _ H eN fun σ' H' N' e n k g _ => q .non H' N' e n k g .non
end DL
set_option Elab.async false
set_option linter.all false
set_option maxRecDepth 100000
set_option maxHeartbeats 4000000
namespace DL
open PySem PySem.Spec PyProof.Rows L2 Evl
set_option autoImplicit false
variable [Kn]
theorem le_unset (ds : De) (j : Nat) : Le (ds.set j none) ds := ⟨by rw [List.length_set], fun i d h => by
  by_cases z : j = i
  · subst z
    by_cases hj : j < ds.length
    · rw [List.getElem?_set_self hj] at h
      cases h
    · rw [List.getElem?_eq_none (by rw [List.length_set]; omega)] at h
      cases h
  · rw [List.getElem?_set_ne z] at h
    exact h⟩
theorem sum_take1 {ns : List Int} {i : Nat} {x : Int} (h : ns[i]? = some x) : (ns.take (i + 1)).sum = (ns.take i).sum + x := by
  rw [take_snoc h, List.sum_append]
  simp
end DL
set_option Elab.async false
set_option linter.all false
set_option maxRecDepth 100000
set_option maxHeartbeats 4000000
/-! A block that ends with True, beside one thing of its own that it changes. -/
namespace DL
open PySem PySem.Spec PyProof.Rows L2 Evl
set_option autoImplicit false
variable [Kn]
theorem Holds.put {N : Hp} {σ : St} {ds : De} {i : Nat} {v : V} {d : PyData} (h : Holds N σ ds) (e : σ[i]? = some (some v)) (r : Rp N v d) : Holds N σ (ds.set i (some d)) := ⟨by rw [List.length_set, h.len], fun j d' q => by
  by_cases z : i = j
  · subst z
    by_cases hj : i < ds.length
    · rw [List.getElem?_set_self hj] at q
      have q' := Option.some.inj (Option.some.inj q)
      subst q'
      exact ⟨v, e, r⟩
    · rw [List.getElem?_eq_none (by rw [List.length_set]; omega)] at q
      cases q
  · rw [List.getElem?_set_ne z] at q
    exact h.at_ j d' q⟩
/-- ends with True -/
def EvR (t : TS) (ds : De) : Prop := ∀ σ N H, Holds N σ ds → Ex N H → ∀ D : Ends, (∀ H', D.rt (.bl true) H') → t D σ H
structure WSt (N H : Hp) (σ : St) (ds : De) (i : Nat) (d : PyData) (S : List Addr) : Prop where
  hs : Holds N σ ds
  eN : Ex N H
  at_ : ∃ v, σ[i]? = some (some v) ∧ RpT H v d S
  nd : S.Nodup
  out : ∀ a ∈ S, N a = none
/-- .. beside a new tree that stands for d in slot i -/
def EvW (t : TS) (ds : De) (i : Nat) (d : PyData) : Prop := ∀ σ N H S, WSt N H σ ds i d S → ∀ D : Ends, (∀ H', D.rt (.bl true) H') → t D σ H
section
variable {E : XK} {t u : TS} {ds ds1 : De} {te : TE} {i k : Nat} {d e : PyData} {c : TT}
theorem r_seq (h : EvS E t ds (.nx ds1)) (r : EvR u ds1) : EvR (tSeq t u) ds := fun σ N H hs eN D q => h σ N hs { D with nx := u D } H eN fun σ' H' N' _ _ k' _ hs' => r σ' N' H' hs' k' D q
theorem r_ret (h : EvE te ds (.bool true)) : EvR (tRet te) ds := fun σ N H hs eN D q => h σ N hs H eN _ fun v H' N' _ _ _ _ r => by
  cases r
  exact q H'
theorem r_new (h : EvN te ds d) (hi : i < ds.length) (r : EvW u (ds.set i none) i d) : EvR (tSeq (tAsg te (gName i)) u) ds := fun σ N H hs eN D q =>
  h σ N hs H eN _ fun v H' S e1 rt nd f => r (σ.set i (some v)) N H' S ⟨hs.setIn i v, eN.trans e1, ⟨v, by rw [List.getElem?_set_self (by rw [hs.len]; exact hi)], rt⟩, nd, fun a ha => ex_none eN (f a ha)⟩ D q
theorem WSt.all {N H : Hp} {σ : St} {S : List Addr} (w : WSt N H σ ds i d S) : Holds (HU N (only H S)) σ (ds.set i (some d)) ∧ Ex (HU N (only H S)) H ∧ Ex N (HU N (only H S)) := by
  obtain ⟨v, e1, r⟩ := w.at_
  obtain ⟨a1, a2, a3⟩ := absorb w.eN r
  exact ⟨(w.hs.mono a1).put e1 a3, a2, a1⟩
theorem w_asg (hk : k ≠ i) (h : EvE te ds e) (r : EvW u (ds.set k (some e)) i d) : EvW (tSeq (tAsg te (gName k)) u) ds i d := fun σ N H S w D q =>
  h σ N w.hs H w.eN _ fun v H' N' e1 n1 k1 g1 r1 => by
    obtain ⟨x, ex, rt⟩ := w.at_
    refine r (σ.set k (some v)) N' H' S ⟨(w.hs.mono n1).set r1 k, k1, ⟨x, by rw [List.getElem?_set_ne hk]; exact ex, rt.mono e1⟩, w.nd, fun a ha => ?_⟩ D q
    cases z : N' a with
    | none => rfl
    | some o =>
      rcases g1 a (by rw [z]; intro y; cases y) with y | y
      · exact absurd (w.out a ha) y
      · exact absurd y (rt.there a ha)
theorem w_asg2 {j : Nat} {d1 d2 : PyData} (hk : k ≠ i) (hj : j ≠ i) (h : EvE te ds (.tuple [d1, d2])) (r : EvW u ((ds.set k (some d1)).set j (some d2)) i d) : EvW (tSeq (tAsg te (gTup KK 2 (gCons (gName k) (gCons (gName j) gNil)))) u) ds i d := fun σ N H S w D q =>
  h σ N w.hs H w.eN _ fun v H' N' e1 n1 k1 g1 r1 => by
    obtain ⟨x, ex, rt⟩ := w.at_
    cases r1 with
    | tup hr hall =>
      cases hall with
      | cons ra rr =>
        cases rr with
        | cons rb rr =>
          cases rr
          refine ⟨_, _, rfl, set_of_rd (rd_ex k1 hr), rfl, _, _, rfl, _, _, rfl, rfl, ?_⟩
          refine r _ N' H' S ⟨((w.hs.mono n1).set ra k).set rb j, k1, ⟨x, by rw [List.getElem?_set_ne hj, List.getElem?_set_ne hk]; exact ex, rt.mono e1⟩, w.nd, fun a ha => ?_⟩ D q
          cases z : N' a with
          | none => rfl
          | some o =>
            rcases g1 a (by rw [z]; intro y; cases y) with y | y
            · exact absurd (w.out a ha) y
            · exact absurd y (rt.there a ha)
/-- what is made of the thing itself is new -/
theorem w_asgN (hk : k ≠ i) (h : EvN te (ds.set i (some d)) e) (r : EvW u (ds.set k (some e)) i d) : EvW (tSeq (tAsg te (gName k)) u) ds i d := fun σ N H S w D q => by
  obtain ⟨h1, h2, h3⟩ := w.all
  refine h σ _ h1 H h2 _ fun v H' S' e1 r1 nd f => ?_
  obtain ⟨x, ex, rt⟩ := w.at_
  obtain ⟨a1, a2, a3⟩ := absorb (w.eN.trans e1) r1
  refine r (σ.set k (some v)) _ H' S ⟨(w.hs.mono a1).set a3 k, a2, ⟨x, by rw [List.getElem?_set_ne hk]; exact ex, rt.mono e1⟩, w.nd, fun a ha => ?_⟩ D q
  cases z : HU N (only H' S') a with
  | none => rfl
  | some o =>
    rcases hu_reg (show HU N (only H' S') a ≠ none by rw [z]; intro y; cases y) with y | y
    · exact absurd (w.out a ha) y
    · by_cases m : a ∈ S'
      · exact absurd (f a m) (rt.there a ha)
      · rw [only_out m] at y
        exact absurd rfl y
theorem w_if0 (h : EvB c (ds.set i (some d)) false) (r : EvW u ds i d) : EvW (tSeq (tIfS c t tNext) u) ds i d := fun σ N H S w D q => by
  obtain ⟨h1, h2, h3⟩ := w.all
  refine h σ _ h1 H h2 _ fun H' e1 => iteF ?_
  obtain ⟨x, ex, rt⟩ := w.at_
  exact r σ N H' S ⟨w.hs, w.eN.trans e1, ⟨x, ex, rt.mono e1⟩, w.nd, w.out⟩ D q
theorem w_ret (h : EvE te (ds.set i (some d)) (.bool true)) : EvW (tRet te) ds i d := fun σ N H S w D q => by
  obtain ⟨h1, h2, h3⟩ := w.all
  refine h σ _ h1 H h2 _ fun v H' N' _ _ _ _ r => ?_
  cases r
  exact q H'
def setM (M : List (List Int)) (r c : Int) (z : Int) : List (List Int) := M.set r.toNat ((M.getD r.toNat []).set c.toNat z)
/-- x[r][c] = z -/
theorem w_setM {M : List (List Int)} {tr tc : TE} {r c z : Int} (h : EvE te (ds.set i (some (eM M))) (.int z)) (hr : EvE tr (ds.set i (some (eM M))) (.int r)) (hc : EvE tc (ds.set i (some (eM M))) (.int c)) (r0 : 0 ≤ r) (r1 : r < M.length) (c0 : 0 ≤ c) (c1 : c < (M.getD r.toNat []).length)
    (k : EvW u ds i (eM (setM M r c z))) : EvW (tSeq (tAsg te (gSub (tOp (rIxL KK) (tVar i) tr) tc rSetL)) u) ds i (eM M) := fun σ N H S w D q => by
  obtain ⟨h1, h2, h3⟩ := w.all
  refine h σ _ h1 H h2 _ fun v H1 N1 e1 n1 k1 g1 q1 => ?_
  cases q1
  obtain ⟨x, ex, rt⟩ := w.at_
  refine ⟨x, ex, ?_⟩
  refine hr σ N1 (h1.mono n1) H1 k1 _ fun y H2 N2 e2 n2 k2 g2 q2 => ?_
  cases q2
  have rt2 := rt.mono (e1.trans e2)
  obtain ⟨p, S', hx, hS⟩ : ∃ (p : Addr) (S' : List Addr), x = .ref p ∧ S = p :: S' := by
    cases rt with
    | lst a b => exact ⟨_, _, rfl, rfl⟩
  subst hx
  obtain ⟨rs, eS, hp, hlen, hrow⟩ := mat_at rt2 w.nd
  have hrr : r.toNat < M.length := by omega
  have hrs : r.toNat < rs.length := by omega
  have er : r = ((r.toNat : Nat) : Int) := by omega
  have ec : c = ((c.toNat : Nat) : Int) := by omega
  have eM0 : M[r.toNat]? = some (M.getD r.toNat []) := by
    rw [List.getD_eq_getElem?_getD, List.getElem?_eq_getElem hrr]
    rfl
  have hat : atI (rs.map V.ref) r = some (.ref rs[r.toNat]) := by
    have q : (rs.map V.ref)[r.toNat]? = some (V.ref rs[r.toNat]) := by
      rw [List.getElem?_map, List.getElem?_eq_getElem hrs]
      rfl
    have q2 := atI_nat q
    rw [← er] at q2
    exact q2
  refine ⟨p, rs.map V.ref, r, _, rfl, rfl, sq_of hp, hat, ?_⟩
  refine hc σ N2 ((h1.mono n1).mono n2) H2 k2 _ fun y H3 N3 e3 n3 k3 g3 q3 => ?_
  cases q3
  have hq := hrow r.toNat rs[r.toNat] _ (List.getElem?_eq_getElem hrs) eM0
  refine ⟨rs[r.toNat], _, c, c.toNat, rfl, rfl, e3 _ _ hq, ?_, ?_⟩
  · unfold ixN
    rw [if_pos c0, if_pos (by rw [List.length_map]; exact c1)]
  have hmem : rs[r.toNat] ∈ S := by
    rw [eS]
    exact List.mem_cons_of_mem _ (List.getElem_mem hrs)
  have ndS := w.nd
  rw [eS] at ndS
  obtain ⟨np, ndr⟩ := List.nodup_cons.mp ndS
  refine k σ N _ S ⟨w.hs, Ex.mut ((w.eN.trans (e1.trans e2)).trans e3) (w.out _ hmem), ⟨.ref p, ex, ?_⟩, w.nd, w.out⟩ D q
  rw [eS]
  refine .lst (xs := rs.map V.ref) ?_ ?_
  · rw [upd_ne (fun z => np (by rw [z]; exact List.getElem_mem hrs))]
    exact e3 _ _ hp
  · refine mat_mk (p := p) (rs := rs) (by rw [setM, List.length_set]; exact hlen) fun kk a row e4 e5 => ?_
    by_cases hk : r.toNat = kk
    · subst hk
      have e6 : a = rs[r.toNat] := by
        rw [List.getElem?_eq_getElem hrs] at e4
        exact (Option.some.inj e4).symm
      rw [setM, List.getElem?_set_self hrr] at e5
      have e7 := Option.some.inj e5
      subst e6 e7
      rw [upd_same, List.map_set]
    · rw [setM, List.getElem?_set_ne hk] at e5
      have hne : a ≠ rs[r.toNat] := fun z => by
        obtain ⟨l1, f1⟩ := List.getElem?_eq_some_iff.mp e4
        exact hk ((List.getElem_inj ndr).mp (by rw [f1, ← z])).symm
      rw [upd_ne hne]
      exact e3 _ _ (hrow kk a row e4 e5)
end
end DL
set_option Elab.async false
set_option linter.all false
set_option maxRecDepth 100000
set_option maxHeartbeats 2000000
/-! Caught errors: a def that is asked within an except suite, what it may say of the error; isinstance of the error. -/
namespace DL
open PySem PySem.Spec PyProof.Rows L2 L2H Evl
set_option autoImplicit false
variable [Kn]
/-- a promise that may speak of the error that is being handled -/
abbrev SpP := Addr × Obj → Sp
/-- a def that is asked while an error is handled -/
structure FnX (pg : Program) (w : World) (K : PySem.W.Frag) (mg : Str → Option Value) (base : Heap) (C : CXT) (k : Nat) (f : Addr) (fd : FuncData) (ps : List Str) (sp : SpP) : Prop where
  many : ∀ p vs H Q E, sp p vs H Q E → vs.length = ps.length
  goes : ∀ (p : Addr × Obj) (B : Around) (out : List Env) (t : Shared) (H : Hp) (ar : Args) (ws : List Value) (vs : List V) (Q : VK) (E : XK), RoomH k B → PinOk out H t p → Env0 pg w K mg base B out t H →
    BindsTo t fd ar (ps.zip ws) → Vals vs ws → sp p vs H Q E → codeAny (model pg w) B (.call (.ref f) ar) (CR C out pg w H t Q E) t
theorem fnX_of {C : CXT} {pg : Program} {w : World} {K : PySem.W.Frag} {mg : Str → Option Value} {base : Heap} {k : Nat} {f : Addr} {nm ql : Str} {as : Arguments} {bd : List Stmt} {sc : Scope} {dV kV doc pm cd ct oc : Value} {an od : Option Addr}
    {sl : Array (Option Value)} {N ps : List Str} {sp : SpP} (look : K.lookup f = some ⟨oc, od, .func (PySem.W.fnOf nm ql as bd sc dV kV doc pm an cd ct), sl⟩) (code : PySem.W.codeIn K cd ql = true) (S : FnScope N ps sc)
    (many : ∀ p vs H Q E, sp p vs H Q E → vs.length = ps.length)
    (inner : ∀ (p : Addr × Obj) (B : Around) (out : List Env) (t : Shared) (H : Hp) (vs : List V) (Q : VK) (E : XK), RoomH k (B.deeper (envOfC ql sc t.heap.objs.size f cd)) → sp p vs H Q E →
      ∃ tt, PSs (cxH C pg w K mg base N ql sc f cd B out t H E p) bd tt ∧ tt { nx := fun _ H' => Q .non H', rt := Q } (L2.start N vs) H) :
    FnX pg w K mg base C (k + 1) f (PySem.W.fnOf nm ql as bd sc dV kV doc pm an cd ct) ps sp := by
  refine ⟨many, fun p B out t H ar ws vs Q E room pin e0 bind rel prom => ?_⟩
  have nv := many p vs H Q E prom
  have known : K.In t.heap := e0.mod.kin.keeps fun b o z => (e0.bs b o z).1
  have free : t.heap.NoLimit := e0.mod.nolimit.keeps fun b o z => (e0.bs b o z).1
  have kinds : ∀ z ∈ ps.zip ws, sc.names.lookup z.1 = some .local ∨ (sc.names.lookup z.1 = some .cell ∧ ((cellsFrom (t.heap.objs.size + 1) sc.names []).lookup z.1).isSome = true) := by
    rintro ⟨n, v⟩ hz
    rcases S.par n (List.of_mem_zip hz).1 with a | a
    · exact Or.inl a
    · exact Or.inr ⟨a, PySem.W.cellsFrom_some _ _ _ (Or.inl a)⟩
  refine codeAny_call_function room.depth (known _ _ look) rfl S.co S.gen rfl (PySem.W.codeRec_of known code) (bind _ _ _ _ ?_)
  refine wpAny_newFunctionEnv_cells S.kind kinds fun en hen t1 call => ?_
  subst hen
  refine ⟨free.keeps call.toInCall.keep, codeAny_func ?_⟩
  obtain ⟨tt, run, q⟩ := inner p B out t H vs Q E (room.deeper _) prom
  have begins : Inv (cxH C pg w K mg base N ql sc f cd B out t H E p) [] (L2.start N vs) H t1 := inv_startH S pin e0 nv rel call
  refine wpAny_mono (run.run [] t1 (L2.start N vs) H _ begins q) ?_ fun _ _ z => z
  intro flow t2 after
  cases flow with
  | ret u =>
    obtain ⟨v, σ2, H2, J, rv, z⟩ := after
    exact ⟨v, H2, J.os, J.bare, J.base, J.hok, rv, z⟩
  | next =>
    obtain ⟨σ2, H2, J, z⟩ := after
    exact ⟨V.non, H2, J.os, J.bare, J.base, J.hok, rfl, z⟩
  | brk =>
    obtain ⟨σ2, H2, J, z⟩ := after
    exact z.elim
  | cont =>
    obtain ⟨σ2, H2, J, z⟩ := after
    exact z.elim
/-- the call, the error's promise told -/
def tCallX (sp : SpP) (p : Addr × Obj) (E : St → XK) (ta : TA) : TE := fun σ H Q => ta σ H fun vs H1 => sp p vs H1 Q (E σ)
theorem pe_callX {X : Cx} {C : CXT} {k : Nat} {f : Addr} {fd : FuncData} {ps : List Str} {sp : SpP} {E : St → XK} {x : Str} {q pos : Pos} {e : Expr} {es : List Expr} {ta : TA} {p : Addr × Obj} (F : FnX X.prog X.w X.K X.mg X.base C k f fd ps sp)
    (room : RoomH k X.A) (hp : p ∈ X.pn) (hg : Gl X x) (hm : X.mg x = some (.ref f)) (hk : PySem.W.keepIn X.K (.ref f) = true) (hb : Binds X.K fd ps []) (hx : ∀ σ, PassesAt C X σ (E σ))
    (ha : PA X (e :: es) ta) (hdb : (x == ("__debug__" : Str)) = false := by decide) (he : starEach (e :: es) X.env = (false, eval e X.env) :: starEach es X.env := by rfl) (hpl : (backTo pos (starEach es X.env)).any (·.1) = false := by rfl) :
    PE X (.Call (.Name x q) (e :: es) [] pos) (tCallX sp p E ta) := by
  constructor
  intro pins t σ H Q I h
  refine wpAny_Call_Name_kw (ld_glob I hg hm ?_ hdb)
  refine PySem.W.callWith_K (h₀ := X.base) I.ok.mod.kin hk (thn (ha.run pos pins t σ H _ I h) ?_) he hpl
  rintro ws t1 ⟨vs, H1, I1, rel, prom⟩
  refine ⟨I1.kIn, ?_⟩
  have nv : ws.length = ps.length := rel.length.symm.trans (F.many _ _ _ _ _ prom)
  have bind := hb t1 ws I1.kIn (by rw [List.append_nil]; exact nv)
  rw [List.append_nil] at bind
  obtain ⟨g1, g2, g3, g4, g5⟩ := I1.pin p (List.mem_append_left _ hp)
  have pin : PinOk X.stack H1 t1 p := ⟨g1, g2, fun hm => (List.mem_cons.mp (I1.stkSub p.1 hm)).elim g3 g4, g5⟩
  refine wpAny_call (codeAny_mono (F.goes p X.A X.stack t1 H1 ⟨ws, []⟩ ws vs Q (E σ) room pin I1.env0 bind rel prom) ?_)
  intro r t2 out
  cases r with
  | error z => exact hx σ pins H1 t1 z t2 I1 out
  | ok fl =>
    cases fl with
    | ret u => exact I1.after out
    | next => exact False.elim out
    | brk => exact False.elim out
    | cont => exact False.elim out
/-! isinstance of the error, wherever its object is known -/
theorem call_isP {X : Cx} {p : Addr × Obj} {D : Addr} (C : ExcC X.K D) (hp : p ∈ X.pn) (hz : p.2.cls = .ref D) (hd : p.2.dict = none) (hf : ∃ vs, p.2.data = .fields vs) : CallR X (.builtin "isinstance") (rIsE X.K D p.1) := by
  intro pins s σ H xs us Q I r h
  obtain ⟨c, cv, b, rfl, hcv, e, q⟩ := h
  obtain ⟨u1, u2, rfl, r1, r2⟩ := vals2 r
  cases (show u1 = Value.ref p.1 from r1)
  cases hcv _ r2
  obtain ⟨at_, _⟩ := I.pin p (List.mem_append_left _ hp)
  obtain ⟨vs, hv⟩ := hf
  have J : PySem.W.InstAt s.heap p.1 p.2 D none := by
    obtain ⟨a, oc, od, oda, osl⟩ := p
    dsimp only at hz hd hv
    subst hz hd hv
    exact ⟨at_, rfl, rfl, trivial⟩
  exact PySem.W.kia_one (PySem.W.handS_kitx_exc C.hg C.hk C.hs C.hd C.ha C.hn C.ht C.hm) I.kIn J e (fun z => nomatch z) fun tk => ⟨.bl b, H, I.tok tk, rfl, q⟩
/-- .. of one of several classes, told as a tuple -/
def rIsEs (K : PySem.W.Frag) (D a : Addr) : List V → Hp → VK → Prop := fun xs H Q => ∃ (tp : Addr) (cs : List V) (us : List Value) (b : Bool), xs = [.ref a, .ref tp] ∧ H tp = some (.tup cs) ∧ Paired ClsV cs us ∧ PySem.W.kitAny K (.ref D) us = some b ∧ Q (.bl b) H
theorem call_isPs {X : Cx} {p : Addr × Obj} {D : Addr} (C : ExcC X.K D) (hp : p ∈ X.pn) (hz : p.2.cls = .ref D) (hd : p.2.dict = none) (hf : ∃ vs, p.2.data = .fields vs) : CallR X (.builtin "isinstance") (rIsEs X.K D p.1) := by
  intro pins s σ H xs us Q I r h
  obtain ⟨tp, cs, ws, b, rfl, hT, k, e, q⟩ := h
  obtain ⟨u1, u2, rfl, r1, r2⟩ := vals2 r
  cases (show u1 = Value.ref p.1 from r1)
  cases (show u2 = Value.ref tp from r2)
  obtain ⟨at_, _⟩ := I.pin p (List.mem_append_left _ hp)
  obtain ⟨vs, hv⟩ := hf
  have J : PySem.W.InstAt s.heap p.1 p.2 D none := by
    obtain ⟨a, oc, od, oda, osl⟩ := p
    dsimp only at hz hd hv
    subst hz hd hv
    exact ⟨at_, rfl, rfl, trivial⟩
  obtain ⟨_, its, rv, o, h1, h2, n, h3⟩ := (show ObjOk X.prog X.w H s.heap tp (.tup cs) from I.hok tp _ hT)
  cases ClsV.all k rv
  obtain ⟨oc, od, dt, sl⟩ := o
  dsimp only at h2 h3
  subst h2 h3
  exact PySem.W.kia_tup (PySem.W.handS_kitx_exc C.hg C.hk C.hs C.hd C.ha C.hn C.ht C.hm) I.kIn J h1 e (fun z => nomatch z) fun tk => ⟨.bl b, H, I.tok tk, rfl, q⟩
end DL
set_option Elab.async false
set_option linter.all false
set_option maxRecDepth 100000
set_option maxHeartbeats 2000000
/-! Refusals: a promise that may raise, blocks that raise, try .. except X as e, the def that looks at the error. -/
namespace DL
open PySem PySem.Spec PyProof.Rows L2 Evl
set_option autoImplicit false
variable [Kn]
/-- what comes of a call -/
inductive Res
  | ok (d : PyData) | er (c : Value)
def resOut : Res → Out
  | .ok d => .rt d
  | .er c => .er c
/-- data, or a class of error -/
def spX (R : List PyData → Res → Prop) : Sp := fun vs H Q E => ∃ (N : Hp) (ds : List PyData) (r : Res), Ex N H ∧ RpAll N vs ds ∧ R ds r ∧
  (∀ d, r = .ok d → ∀ v H' N', Ex H H' → Ex N N' → Ex N' H' → Reg N H N' → Rp N' v d → Q v H') ∧ (∀ c, r = .er c → ∀ H', Ex H H' → E c none H')
theorem lenX_of {R : List PyData → Res → Prop} {n : Nat} (h : ∀ es r, R es r → es.length = n) : ∀ vs H Q E, spX R vs H Q E → vs.length = n := fun vs H Q E ⟨N, es, r, eN, rv, hr, _⟩ => by
  rw [rv.length]
  exact h es r hr
theorem body_retX {R : List PyData → Res → Prop} {t : TS} {names : List Str} {vs : List V} {H : Hp} {Q : VK} {E : XK} (h : spX R vs H Q E)
    (hb : ∀ es r, R es r → EvS E t (startD names.length es) (resOut r) ∨ (r = .ok .none ∧ ∃ ds', EvS E t (startD names.length es) (.nx ds'))) :
    t { nx := fun _ H' => Q .non H', rt := Q, bk := fun _ _ => False, ct := fun _ _ => False } (L2.start names vs) H := by
  obtain ⟨N, es, r, eN, rv, hr, q1, q2⟩ := h
  rcases hb es r hr with hb | ⟨rfl, ds', hb⟩
  · refine hb (L2.start names vs) N (holds_start rv) _ H eN ?_
    cases r with
    | ok d => exact q1 d rfl
    | er c => exact q2 c rfl
  · exact hb (L2.start names vs) N (holds_start rv) _ H eN fun σ' H' N' e n k g _ => q1 _ rfl .non H' N' e n k g .non
section
variable {R : List PyData → Res → Prop} {W : WX} {E : XK} {Es : St → XK} {ds ds1 ds2 : De} {t u : TS} {ta : TA} {te : TE} {es : List PyData} {d : PyData} {cl : Value} {o : Out} {c : TT} {b : Bool}
/-- a call that hands back -/
theorem ev_callX (h : EvAs ta ds es) (hr : R es (.ok d)) : EvE (tCallS (spX R) Es ta) ds d := fun σ N hs H eN Q q =>
  h σ N hs H eN _ fun vs H1 N1 e1 n1 k1 g1 r1 => ⟨N1, es, .ok d, k1, r1, hr, fun d' z v H2 N2 e2 n2 k2 g2 r2 => by
    cases z
    exact q v H2 N2 (e1.trans e2) (n1.trans n2) k2 (g1.trans e1 g2) r2, fun c z => nomatch z⟩
/-- a block that raises cl, the slots at ds1 -/
def EvX (W : WX) (t : TS) (ds : De) (cl : Value) (ds1 : De) : Prop := ∀ σ N, Holds N σ ds → ∀ (D : Ends) H, Ex N H → (∀ σ' H' N', Ex H H' → Ex N N' → Ex N' H' → Reg N H N' → Holds N' σ' ds1 → W cl none σ' H') → t D σ H
/-- an expression that raises cl -/
def EvEx (W : WX) (te : TE) (ds : De) (cl : Value) : Prop := ∀ σ N, Holds N σ ds → ∀ (Q : VK) H, Ex N H → (∀ H' N', Ex H H' → Ex N N' → Ex N' H' → Reg N H N' → W cl none σ H') → te σ H Q
theorem ee_call (h : EvAs ta ds es) (hr : R es (.er cl)) : EvEx W (tCallS (spX R) (WE W) ta) ds cl := fun σ N hs Q H eN q =>
  h σ N hs H eN _ fun vs H1 N1 e1 n1 k1 g1 r1 => ⟨N1, es, .er cl, k1, r1, hr, (fun d2 z => nomatch z), fun c z H2 e2 => by
    cases z
    exact q H2 N1 (e1.trans e2) n1 (k1.trans e2) g1⟩
theorem x_of {t : TS} (h : ∀ σ N, Holds N σ ds → ∀ (D : Ends) H, Ex N H → (∀ H' N', Ex H H' → Ex N N' → Ex N' H' → Reg N H N' → W cl none σ H') → t D σ H) : EvX W t ds cl ds := fun σ N hs D H eN q =>
  h σ N hs D H eN fun H' N' e n k g => q σ H' N' e n k g (hs.mono n)
theorem x_drop (h : EvEx W te ds cl) : EvX W (tDrop te) ds cl ds := x_of fun σ N hs D H eN q => h σ N hs _ H eN q
theorem x_asg {g : TG} (h : EvEx W te ds cl) : EvX W (tAsg te g) ds cl ds := x_of fun σ N hs D H eN q => h σ N hs _ H eN q
theorem x_ret (h : EvEx W te ds cl) : EvX W (tRet te) ds cl ds := x_of fun σ N hs D H eN q => h σ N hs _ H eN q
theorem x_raise {C : Addr} : EvX W (fun _ σ H => W (.ref C) none σ H) ds (.ref C) ds := fun σ N hs D H eN q => q σ H N (Ex.refl H) (Ex.refl N) eN Reg.refl hs
theorem x_seq (h1 : EvS E t ds (.nx ds1)) (h2 : EvX W u ds1 cl ds2) : EvX W (tSeq t u) ds cl ds2 := fun σ N hs D H eN a =>
  h1 σ N hs { D with nx := u D } H eN fun σ' H' N' e n k g hs' => h2 σ' N' hs' D H' k fun σ2 H2 N2 e2 n2 k2 g2 hs2 => a σ2 H2 N2 (e.trans e2) (n.trans n2) k2 (g.trans e g2) hs2
theorem x_seqE (h1 : EvX W t ds cl ds1) : EvX W (tSeq t u) ds cl ds1 := fun σ N hs D H eN a => h1 σ N hs { D with nx := u D } H eN a
theorem x_if (h : EvB c ds b) (h1 : b = true → EvX W t ds cl ds1) (h2 : b = false → EvX W u ds cl ds1) : EvX W (tIfS c t u) ds cl ds1 := fun σ N hs D H eN a =>
  h σ N hs H eN _ fun H1 e1 => by
    have a' : ∀ σ' H' N', Ex H1 H' → Ex N N' → Ex N' H' → Reg N H1 N' → Holds N' σ' ds1 → W cl none σ' H' := fun σ' H' N' e n k g hs' => a σ' H' N' (e1.trans e) n k (fun x hx => (g x hx).elim .inl fun z => .inr (ex_none e1 z)) hs'
    cases b with
    | true => exact iteT (h1 rfl σ N hs D H1 (eN.trans e1) a')
    | false => exact iteF (h2 rfl σ N hs D H1 (eN.trans e1) a')
/-- out of a def -/
theorem es_x (h : EvX (fun cls d _ H => E cls d H) t ds cl ds1) : EvS E t ds (.er cl) := fun σ N hs D H eN a => h σ N hs D H eN fun σ' H' N' e n k g _ => a H' e
/-- try, as a word of its own: the body told by what it wishes of its error -/
def tTry (K : PySem.W.Frag) (cv : Value) (i : Nat) (tb : WX → TS) (ts : Addr → Value → Option Addr → TS) (Wo : WX) : TS := fun D σ H => tb (wAs K cv i ts Wo D) D σ H
theorem k_try {X : Cx} {x n : Str} {cv : Value} {i : Nat} {body more : List Stmt} {one : Stmt} {p1 p2 p3 : Pos} {tb : WX → TS} {ts : Addr → Value → Option Addr → TS} (st : X.stack = X.env :: X.outer) (fr : X.env.frame = some X.env.locals) (nd : X.N.Nodup) (at_ : X.N[i]? = some n) (lo : X.env.kindOf n = some .local) (nm : Names X x cv)
    (inner : ∀ (W : WX) (pn : List (Addr × Obj)) (xe : Value → Shared → Prop), Takes (X.tr pn xe) W → PSs (X.tr pn xe) body (tb W)) (caught : ∀ (a : Addr) (oe : Obj) (cls : Value) (dc : Option Addr) (pn : List (Addr × Obj)), Zc cls dc oe → (∃ vs, oe.data = .fields vs) → PSs (X.suite a ((a, oe) :: pn)) (one :: more) (ts a cls dc)) :
    PS X (.Try body [.ExceptHandler (some (.Name x p1)) (some n) (one :: more) p2] [] [] p3) (tTry X.K cv i tb ts fun _ _ _ _ => False) := ps_try_as st fr nd at_ lo nm takes0 (fun W pn xe tk _ => inner W pn xe tk) caught
/-- try: nothing is raised -/
theorem es_tryN {tb : WX → TS} {K : PySem.W.Frag} {cv : Value} {i : Nat} {ts : Addr → Value → Option Addr → TS} {Wo : WX} (h : ∀ W, EvS E (tb W) ds o) : EvS E (tTry K cv i tb ts Wo) ds o := fun σ N hs D H eN a => h _ σ N hs D H eN a
/-- .. cl is raised and caught, what is done then hands back -/
def EvSu (i : Nat) (ts : TS) (a : Addr) (ds : De) (d : PyData) : Prop := ∀ σ N, σ[i]? = some (some (.ref a)) → Holds N σ ds → ∀ (D : Ends) H, Ex N H → (∀ v H' N', Ex H H' → Ex N N' → Ex N' H' → Reg N H N' → Rp N' v d → D.rt v H') → ts D σ H
theorem es_tryR {tb : WX → TS} {cv : Value} {i : Nat} {ts : Addr → Value → Option Addr → TS} {Wo : WX} (h : ∀ W, EvX W (tb W) ds cl ds1) (hm : PySem.W.exmOne KK cl cv = some true) (hi : i < ds1.length) (hs : ∀ a, EvSu i (ts a cl none) a (ds1.set i none) d) :
    EvS E (tTry KK cv i tb ts Wo) ds (.rt d) := fun σ N hd D H eN a =>
  h _ σ N hd D H eN fun σ' H' N' e n k g hs' => ⟨true, hm, fun _ p hp => hs p (σ'.set i (some (.ref p))) N' (by rw [List.getElem?_set_self (by rw [hs'.len]; exact hi)]) (hs'.setIn i _) _ H' k fun v H2 N2 e2 n2 k2 g2 r2 => a v H2 N2 (e.trans e2) (n.trans n2) k2 (g.trans e g2) r2, fun z => nomatch z⟩
end

/-! ### the def that looks at the error -/
/-- what it is told: the error's object, of the class D, without a dict of its own -/
def spQ (R : Addr → PyData → Prop) : SpP := fun p vs H Q _ => ∃ (N : Hp) (C : Addr) (d : PyData), Ex N H ∧ vs = [.ref p.1] ∧ (p.2.cls = .ref C ∧ p.2.dict = none ∧ ∃ us, p.2.data = .fields us) ∧ R C d ∧
  ∀ v H' N', Ex H H' → Ex N N' → Ex N' H' → Reg N H N' → Rp N' v d → Q v H'
theorem lenQ_of {R : Addr → PyData → Prop} : ∀ p vs H Q E, spQ R p vs H Q E → vs.length = 1 := fun p vs H Q E ⟨N, C, d, _, e, _⟩ => by
  rw [e]
  rfl
theorem okQ {P : Program} {w : World} {mg : Str → Option Value} {base : Heap} {x qual : Str} {st : Stmt} {f : Addr} {fd : FuncData} {N ps : List Str} {k : Nat} {sp : SpP} (F : Fun KK x qual st f fd) (S : FnScope N ps (defScope st)) (len : ∀ p vs H Q E, sp p vs H Q E → vs.length = ps.length)
    (inner : ∀ (cd : Value) (p : Addr × Obj) (B : Around) (out : List Env) (s : Shared) (H : Hp) (vs : List V) (Q : VK) (E : XK), L2H.RoomH k (B.deeper (envOfC qual (defScope st) s.heap.objs.size f cd)) → sp p vs H Q E →
      ∃ t, PSs (L2H.cxH CX0 P w KK mg base N qual (defScope st) f cd B out s H E p) (defBody st) t ∧ t { nx := fun _ H' => Q .non H', rt := Q } (L2.start N vs) H) : FnX P w KK mg base CX0 (k + 1) f fd ps sp := by
  obtain ⟨oc, od, kV, doc, pm, an, cd, ct, sl, rfl, look, code⟩ := F.ex
  exact fnX_of look code S len fun p B out s H vs Q E r h => inner cd p B out s H vs Q E r h
/-- an expression beside the error in slot i -/
def EvP (i : Nat) (a : Addr) (te : TE) (ds : De) (d : PyData) : Prop := ∀ σ N, σ[i]? = some (some (.ref a)) → Holds N σ ds → EvD te σ N d
def EvPA (i : Nat) (a : Addr) (ta : TA) (ds : De) (es : List PyData) : Prop := ∀ σ N, σ[i]? = some (some (.ref a)) → Holds N σ ds → ∀ H, Ex N H → ∀ Q : List V → Hp → Prop, (∀ vs H' N', Ex H H' → Ex N N' → Ex N' H' → Reg N H N' → RpAll N' vs es → Q vs H') → ta σ H Q
def EvPB (i : Nat) (a : Addr) (tt : TT) (ds : De) (b : Bool) : Prop := ∀ σ N, σ[i]? = some (some (.ref a)) → Holds N σ ds → ∀ H, Ex N H → ∀ Q : Bool → Hp → Prop, (∀ H', Ex H H' → Q b H') → tt σ H Q
def tcs : List V → TA
  | [] => tNil
  | c :: r => tCons (tC c) (tcs r)
theorem tcs_go : ∀ (cs : List V) (σ : St) (H : Hp) (Q : List V → Hp → Prop), Q cs H → tcs cs σ H Q
  | [], _, _, _, q => q
  | c :: r, σ, H, Q, q => tcs_go r σ H (fun xs H2 => Q (c :: xs) H2) q
section
variable {i j k : Nat} {a D : Addr} {ds : De} {te ta tb : TE} {tr : TA} {tt uu : TT} {d e : PyData} {es : List PyData} {x y b : Bool} {t u : TS}
theorem p_ev (h : EvE te ds d) : EvP i a te ds d := fun σ N _ hs => h σ N hs
theorem p_is1 {c : V} {cv : Value} (hc : ∀ u, RelV c u → u = cv) (h : PySem.W.kitOne KK (.ref D) cv = some b) : EvP i a (tCB (rIsE KK D a) (tCons (tVar i) (tCons (tC c) tNil))) ds (.bool b) := fun σ N hi hs H eN Q q =>
  ⟨_, hi, c, cv, b, rfl, hc, h, q _ H N (Ex.refl H) (Ex.refl N) eN Reg.refl (.bl b)⟩
theorem p_isN {cs : List V} {us : List Value} (hc : Paired ClsV cs us) (hl : cs.length ≤ 1000) (h : PySem.W.kitAny KK (.ref D) us = some b) : EvP i a (tCB (rIsEs KK D a) (tCons (tVar i) (tCons (tTup (tcs cs)) tNil))) ds (.bool b) := fun σ N hi hs H eN Q q =>
  ⟨_, hi, tcs_go cs σ H _ ⟨Nat.le_trans hl (by decide), fun p hp => by
    obtain ⟨a1, a2, a3, a4, a5⟩ := laid (o := .tup cs) (Ex.refl H) (Ex.refl N) eN Reg.refl hp
    exact ⟨p, cs, us, b, rfl, upd_same, hc, h, q _ _ N a1 (Ex.refl N) (eN.trans a1) Reg.refl (.bl b)⟩⟩⟩
theorem p_and (h1 : EvP i a ta ds (.bool x)) (h2 : EvP i a tb ds (.bool y)) : EvP i a (tAndV ta tb) ds (.bool (x && y)) := fun σ N hi hs H eN Q q => h1 σ N hi hs H eN _ fun v H1 N1 e1 n1 k1 g1 r => by
  cases r
  refine ⟨x, rfl, ?_⟩
  cases x with
  | true => exact iteT (h2 σ N1 hi (hs.mono n1) H1 k1 _ fun v H2 N2 e2 n2 k2 g2 r2 => q v H2 N2 (e1.trans e2) (n1.trans n2) k2 (g1.trans e1 g2) r2)
  | false => exact iteF (q _ H1 N1 e1 n1 k1 g1 (.bl false))
theorem p_not (h1 : EvP i a ta ds (.bool x)) : EvP i a (tNotV ta) ds (.bool (!x)) := fun σ N hi hs H eN Q q => h1 σ N hi hs H eN _ fun v H1 N1 e1 n1 k1 g1 r => by
  cases r
  exact ⟨x, rfl, q _ H1 N1 e1 n1 k1 g1 (.bl _)⟩
theorem pa_nil' : EvPA i a tNil ds [] := fun σ N hi hs H eN Q q => q [] H N (Ex.refl H) (Ex.refl N) eN Reg.refl .nil
theorem pa_cons' (h : EvP i a te ds d) (hr : EvPA i a tr ds es) : EvPA i a (tCons te tr) ds (d :: es) := fun σ N hi hs H eN Q q =>
  h σ N hi hs H eN _ fun v H1 N1 e1 n1 k1 g1 r1 => hr σ N1 hi (hs.mono n1) H1 k1 _ fun vs H2 N2 e2 n2 k2 g2 r2 =>
    q (v :: vs) H2 N2 (e1.trans e2) (n1.trans n2) k2 (g1.trans e1 g2) (.cons (r1.mono n2) r2)
theorem p_lst (h : EvPA i a tr ds es) (hl : es.length ≤ 100000) : EvP i a (tLst tr) ds (.list es) := fun σ N hi hs H eN Q q =>
  h σ N hi hs H eN _ fun vs H1 N1 e1 n1 k1 g1 r1 => ⟨sz_100 (by rw [r1.length]; exact hl), fun p hp => by
    obtain ⟨a1, a2, a3, a4, a5⟩ := laid (o := .lst vs) e1 n1 k1 g1 hp
    exact q (.ref p) _ _ a1 a2 a3 a4 (.lst (sq_of upd_same) (r1.mono a5))⟩
theorem pb_test (h : EvP i a te ds (.bool b)) : EvPB i a (tTest te) ds b := fun σ N hi hs H eN Q q => h σ N hi hs H eN _ fun v H' N' e _ _ _ r => by
  cases r
  exact ⟨b, rfl, q H' e⟩
theorem pb_not (h : EvPB i a tt ds x) : EvPB i a (tNot tt) ds (!x) := fun σ N hi hs H eN Q q => h σ N hi hs H eN _ fun H' e => q H' e
theorem pb_or (h1 : EvPB i a tt ds x) (h2 : EvPB i a uu ds y) : EvPB i a (tOr tt uu) ds (x || y) := fun σ N hi hs H eN Q q => h1 σ N hi hs H eN _ fun H1 e1 => by
  cases x with
  | true => exact iteT (q H1 e1)
  | false => exact iteF (h2 σ N hi hs H1 (eN.trans e1) _ fun H2 e2 => q H2 (e1.trans e2))
theorem pb_is (h : EvPB i a tt ds x) (e : x = y) : EvPB i a tt ds y := e ▸ h
theorem p_is (h : EvP i a te ds d) (z : d = e) : EvP i a te ds e := z ▸ h
theorem su_asg (hk : k ≠ i) (h : EvP i a te ds e) (r : EvSu i u a (ds.set k (some e)) d) : EvSu i (tSeq (tAsg te (gName k)) u) a ds d := fun σ N hi hs D H eN q =>
  h σ N hi hs H eN _ fun v H1 N1 e1 n1 k1 g1 r1 => r (σ.set k (some v)) N1 (by rw [List.getElem?_set_ne hk]; exact hi) ((hs.mono n1).set r1 k) D H1 k1 fun w H2 N2 e2 n2 k2 g2 r2 => q w H2 N2 (e1.trans e2) (n1.trans n2) k2 (g1.trans e1 g2) r2
theorem su_ret (h : EvP i a te ds d) : EvSu i (tRet te) a ds d := fun σ N hi hs D H eN q => h σ N hi hs H eN _ q
theorem su_if (h : EvPB i a tt ds b) (h1 : b = true → EvSu i t a ds d) (h2 : b = false → EvSu i u a ds d) : EvSu i (tIfS tt t u) a ds d := fun σ N hi hs D H eN q =>
  h σ N hi hs H eN _ fun H1 e1 => by
    have q' : ∀ v H' N', Ex H1 H' → Ex N N' → Ex N' H' → Reg N H1 N' → Rp N' v d → D.rt v H' := fun v H' N' e n k g r => q v H' N' (e1.trans e) n k (fun x hx => (g x hx).elim .inl fun z => .inr (ex_none e1 z)) r
    cases b with
    | true => exact iteT (h1 rfl σ N hi hs D H1 (eN.trans e1) q')
    | false => exact iteF (h2 rfl σ N hi hs D H1 (eN.trans e1) q')
theorem su_if0 (h : EvPB i a tt ds false) (r : EvSu i u a ds d) : EvSu i (tSeq (tIfS tt t tNext) u) a ds d := fun σ N hi hs D H eN q =>
  h σ N hi hs H eN _ fun H1 e1 => iteF (r σ N hi hs D H1 (eN.trans e1) fun v H' N' e n k g rr => q v H' N' (e1.trans e) n k (fun x hx => (g x hx).elim .inl fun z => .inr (ex_none e1 z)) rr)
theorem body_retQ {p : Addr × Obj} {names : List Str} {H : Hp} {Q : VK} {N : Hp} (eN : Ex N H) (hn : 1 ≤ names.length) (q : ∀ v H' N', Ex H H' → Ex N N' → Ex N' H' → Reg N H N' → Rp N' v d → Q v H')
    (hb : EvSu 0 t p.1 (List.replicate names.length none) d) : t { nx := fun _ H' => Q .non H', rt := Q } (L2.start names [.ref p.1]) H := by
  refine hb (L2.start names [.ref p.1]) N rfl ⟨?_, fun m d' e => ?_⟩ _ H eN q
  · unfold L2.start
    simp
    omega
  · rw [List.getElem?_replicate] at e
    split at e
    · cases Option.some.inj e
    · cases e
/-- the suite that hands the error on: f(e), whatever the error's object is -/
def tsCall (sp : SpP) (i : Nat) : Addr → Value → Option Addr → TS := fun a cls dc D σ H => ∀ oe : Obj, Zc cls dc oe → (∃ vs, oe.data = .fields vs) → tRet (tCallX sp (a, oe) (fun _ => E0) (tCons (tVar i) tNil)) D σ H
theorem su_call {R : Addr → PyData → Prop} {C : Addr} (hr : R C d) : EvSu i (tsCall (spQ R) i a (.ref C) none) a ds d := fun σ N hi hs D H eN q oe hz hf =>
  ⟨_, hi, N, C, d, eN, rfl, ⟨hz.1, hz.2, hf⟩, hr, q⟩
end
theorem pss_all {X : Cx} {st : List Stmt} {A : Type} {c : A → Prop} {t : A → TS} {a : A} (h : PSs X st (t a)) (ha : c a) : PSs X st (fun D σ H => ∀ z, c z → t z D σ H) := ⟨fun pins s σ H D I q => h.run pins s σ H D I (q a ha)⟩
theorem pss_tsCall {X : Cx} {st : List Stmt} {sp : SpP} {i : Nat} {a : Addr} {cls : Value} {dc : Option Addr} {oe : Obj} (h : PSs X st (tRet (tCallX sp (a, oe) (fun _ => E0) (tCons (tVar i) tNil)))) (hz : Zc cls dc oe) (hf : ∃ vs, oe.data = .fields vs) : PSs X st (tsCall sp i a cls dc) :=
  ⟨fun pins s σ H D I q => h.run pins s σ H D I (q oe hz hf)⟩
theorem k_pi_enum {X : Cx} {K : PySem.W.Frag} {e : Expr} {ta : TA} {p pos tpos : Pos} {elts : List Expr} {kk : Nat} (hg : Gl X "enumerate") (hm : X.mg "enumerate" = none) (ha : PA X [e] ta) (h : X.K = K := by rfl) (hs : starEach [e] X.env = [(false, eval e X.env)] := by rfl) :
    PI X (.Tuple elts kk tpos) (.Call (.Name "enumerate" p) [e] [] pos) (iEnum K ta) := by
  subst h
  exact pi_enum hg hm ha hs
theorem k_pg_tup {X : Cx} {K : PySem.W.Frag} {pos : Pos} {es : List Expr} {k : Nat} {t : TGs} {n : Nat} (hc : X.calm = true) (h : PGs X es t) (hk : X.K = K := by rfl)
    (hn : (assignEach es X.env).length = n := by rfl) (hst : (assignEach es X.env).findIdx? (·.1) = none := by rfl) : PG X (.Tuple es k pos) (gTup K n t) := by
  subst hk
  exact pg_tup hc h hn hst
theorem k_pi_zip {X : Cx} {K : PySem.W.Frag} {e e2 : Expr} {ta : TA} {p pos tpos : Pos} {elts : List Expr} {kk : Nat} (hg : Gl X "zip") (hm : X.mg "zip" = none) (ha : PA X [e, e2] ta) (hk : X.K = K := by rfl)
    (hs : starEach [e, e2] X.env = (false, eval e X.env) :: starEach [e2] X.env := by rfl) (hpl : (backTo pos (starEach [e2] X.env)).any (·.1) = false := by rfl) :
    PI X (.Tuple elts kk tpos) (.Call (.Name "zip" p) [e, e2] [] pos) (iZip K ta) := by
  subst hk
  exact pi_zip hg hm ha hs hpl
theorem roomH_suite {k : Nat} {A : Around} {x : Option Value} (r : Room k A) : L2H.RoomH k (A.mark x) := ⟨r.dp, r.un⟩
/-- a class of errors that is raised with a text -/
structure ErrC (C : Addr) : Prop where
  x : PySem.W.excIn KK C [.type "ValueError", .type "Exception", .type "BaseException", .type "object"] "ValueError.__new__" = true
  k : PySem.W.keepIn KK (.ref C) = true
  s : PySem.W.subIn KK (.ref C) (.type "BaseException") = some true
  t : PySem.W.typeIn KK (.ref C) = some (.type "type")
end DL
set_option Elab.async false
set_option linter.all false
set_option maxRecDepth 100000
set_option maxHeartbeats 2000000
/-! [.. for i, x in enumerate(xs) for j, y in enumerate(ys) if ..]; a list that loops append to; a new thing beside which tests return. -/
namespace DL
open PySem PySem.Spec PyProof.Rows L2 Evl
set_option autoImplicit false
variable [Kn]
theorem wipe_at : ∀ (vs : List Nat) (σ : St) (i : Nat), (wipe σ vs)[i]? = if i ∈ vs then (σ[i]?).map (fun _ => none) else σ[i]?
  | [], σ, i => by simp [wipe]
  | v :: vs, σ, i => by
    show ((wipe σ vs).set v none)[i]? = _
    by_cases e : v = i
    · subst e
      rw [if_pos List.mem_cons_self]
      by_cases h : v < (wipe σ vs).length
      · rw [List.getElem?_set_self h]
        have hl : v < σ.length := by
          have q := wipe_at vs σ v
          rw [List.getElem?_eq_getElem h] at q
          split at q
          · cases z : σ[v]? with
            | none =>
              rw [z] at q
              cases q
            | some u => exact (List.getElem?_eq_some_iff.mp z).1
          · exact (List.getElem?_eq_some_iff.mp q.symm).1
        rw [List.getElem?_eq_getElem hl]
        rfl
      · rw [List.getElem?_eq_none (by rw [List.length_set]; omega)]
        have q := wipe_at vs σ v
        rw [List.getElem?_eq_none (by omega)] at q
        split at q
        · exact q
        · rw [← q]
          rfl
    · rw [List.getElem?_set_ne e, wipe_at vs σ i]
      have e' : i ≠ v := fun z => e z.symm
      by_cases m : i ∈ vs
      · rw [if_pos m, if_pos (List.mem_cons_of_mem _ m)]
      · rw [if_neg m, if_neg (by simp [e', m])]
theorem wipe_set {vs : List Nat} {σ : St} {j : Nat} (v : Option V) (h : j ∈ vs) : wipe (σ.set j v) vs = wipe σ vs := by
  refine List.ext_getElem? fun i => ?_
  rw [wipe_at, wipe_at]
  by_cases m : i ∈ vs
  · rw [if_pos m, if_pos m]
    by_cases e : j = i
    · subst e
      by_cases hl : j < σ.length
      · rw [List.getElem?_set_self hl, List.getElem?_eq_getElem hl]
        rfl
      · rw [List.getElem?_eq_none (by rw [List.length_set]; omega), List.getElem?_eq_none (by omega)]
    · rw [List.getElem?_set_ne e]
  · rw [if_neg m, if_neg m, List.getElem?_set_ne (fun z => m (by rw [← z]; exact h))]
theorem wipe_wipe (vs : List Nat) (σ : St) : wipe (wipe σ vs) vs = wipe σ vs := by
  refine List.ext_getElem? fun i => ?_
  rw [wipe_at, wipe_at]
  by_cases m : i ∈ vs
  · rw [if_pos m, if_pos m, Option.map_map]
    rfl
  · rw [if_neg m, if_neg m]
theorem zip_at {A : Type} {xs : List A} {i : Nat} {x : A} (h : xs[i]? = some x) : xs.zipIdx[i]? = some (x, i) := by
  rw [List.getElem?_zipIdx, h]
  simp
section
variable {ds : De} {tl te : TE} {j : Nat}
theorem ev_lc2E {A B : Type} {tl2 : TE} {tt : TT} {j1 j2 k1 k2 : Nat} {xs : List A} {ga : A → PyData} {ys : A → List B} {gb : B → PyData} {p : A × Nat → B × Nat → Bool} {f : A × Nat → B × Nat → PyData} (h : EvE tl ds (.list (xs.map ga))) (hx : xs.length < 100000) (hz : (xs.zipIdx.flatMap fun x => (ys x.1).zipIdx).length < 100000)
    (h2 : ∀ x ∈ xs.zipIdx, EvE tl2 (((wipeD ds [j1, j2, k1, k2]).set j1 (some (.int (x.2 : Int)))).set j2 (some (ga x.1))) (.list ((ys x.1).map gb)))
    (ht : ∀ x ∈ xs.zipIdx, ∀ y ∈ (ys x.1).zipIdx, EvB tt (((wipeD (((wipeD ds [j1, j2, k1, k2]).set j1 (some (.int (x.2 : Int)))).set j2 (some (ga x.1))) [k1, k2]).set k1 (some (.int (y.2 : Int)))).set k2 (some (gb y.1))) (p x y))
    (he : ∀ x ∈ xs.zipIdx, ∀ y ∈ (ys x.1).zipIdx, p x y = true → EvE te (((wipeD (((wipeD ds [j1, j2, k1, k2]).set j1 (some (.int (x.2 : Int)))).set j2 (some (ga x.1))) [k1, k2]).set k1 (some (.int (y.2 : Int)))).set k2 (some (gb y.1))) (f x y)) :
    EvE (tLc2 (iEnum KK (tCons tl tNil)) (gTup KK 2 (gCons (gName j1) (gCons (gName j2) gNil))) tYes (iEnum KK (tCons tl2 tNil)) (gTup KK 2 (gCons (gName k1) (gCons (gName k2) gNil))) tt te [j1, j2, k1, k2] [k1, k2]) ds (.list (xs.zipIdx.flatMap fun x => ((ys x.1).zipIdx.filter (p x)).map (f x))) := fun σ N hs H eN Q q =>
  h σ N hs H eN _ fun v H1 N1 e1 n1 k1' g1 r1 => by
    cases r1 with
    | @lst a vs _ hr hall =>
      refine ⟨a, vs, rfl, ex_l k1' hr, fun D hD => ?_⟩
      have hlen : vs.length = xs.length := by rw [hall.length, List.length_map]
      have hND : N1 D = none := ex_none k1' hD
      refine ⟨fun i m H' => m = xs.length - i ∧ i ≤ xs.length ∧ Cq N H H1 N1 D ((xs.zipIdx.take i).flatMap fun x => ((ys x.1).zipIdx.filter (p x)).map (f x)) H', ⟨xs.length, by simp, Nat.zero_le _, Cq.start e1 k1' g1 hD⟩, ?_⟩
      rintro i m H' ⟨rfl, hi, c⟩
      have sq : SqL KK H' a vs := ex_l c.known hr
      by_cases hlt : i < xs.length
      · have ex0 : xs[i]? = some xs[i] := List.getElem?_eq_getElem hlt
        have ex := zip_at ex0
        have hm : (xs[i], i) ∈ xs.zipIdx := List.mem_of_getElem? ex
        have ed : (xs.map ga)[i]? = some (ga xs[i]) := by rw [List.getElem?_map, ex0]; rfl
        obtain ⟨v, ev, rv⟩ := hall.get ed
        refine .inr ⟨⟨vs, v, sq, ev⟩, fun H'' => Cq N H H1 N1 D ((xs.zipIdx.take (i + 1)).flatMap fun x => ((ys x.1).zipIdx.filter (p x)).map (f x)) H'', fun H'' c' => ⟨xs.length - (i + 1), by omega, rfl, hlt, c'⟩, fun x H'' y => ?_⟩
        obtain ⟨T, x', rfl, hT, rfl, y⟩ := y
        have exv : x' = v := Option.some.inj ((y vs sq).symm.trans ev)
        subst exv
        have eT : Ex H' (upd H' T (.tup [.int (i : Nat), x'])) := Ex.new hT
        refine ⟨T, _, rfl, .inl (.inl upd_same), rfl, _, _, rfl, _, _, rfl, rfl, ?_⟩
        refine ⟨by rw [wipe_set _ (by simp), wipe_set _ (by simp), wipe_wipe], ?_⟩
        simp only [tYes, if_true]
        have hs1 : Holds N1 (((wipe σ [j1, j2, k1, k2]).set j1 (some (.int (i : Nat)))).set j2 (some x')) (((wipeD ds [j1, j2, k1, k2]).set j1 (some (.int (i : Int)))).set j2 (some (ga xs[i]))) := (((hs.mono n1).wipe [j1, j2, k1, k2]).set (.int _) j1).set rv j2
        refine h2 _ hm _ N1 hs1 _ (c.known.trans eT) _ fun u H3 N2 e3 n3 k3 g3 r3 => ?_
        have cT := c.on eT
        have hN2 : N2 D = none := reg_none g3 hND cT.at
        have c3 : Cq N H H1 N2 D ((xs.zipIdx.take i).flatMap fun x => ((ys x.1).zipIdx.filter (p x)).map (f x)) H3 := (cT.on e3).more k3 hN2 (fun b hb => (g3 b hb).elim (g1 b) fun z => .inr (ex_none (e1.trans cT.old) z)) n3
        cases r3 with
        | @lst b us _ hr3 hall3 =>
          have hlen3 : us.length = (ys xs[i]).length := by rw [hall3.length, List.length_map]
          refine ⟨b, us, rfl, ex_l k3 hr3, ?_⟩
          refine ⟨fun jj kk H4 => kk = (ys xs[i]).length - jj ∧ jj ≤ (ys xs[i]).length ∧ Cq N H H1 N2 D (((xs.zipIdx.take i).flatMap fun x => ((ys x.1).zipIdx.filter (p x)).map (f x)) ++ (((ys xs[i]).zipIdx.take jj).filter (p (xs[i], i))).map (f (xs[i], i))) H4, ⟨_, rfl, Nat.zero_le _, by simpa using c3⟩, ?_⟩
          rintro jj kk H4 ⟨rfl, hjj, c4⟩
          have sq4 : SqL KK H4 b us := ex_l c4.known hr3
          by_cases hlt2 : jj < (ys xs[i]).length
          · have ey0 : (ys xs[i])[jj]? = some (ys xs[i])[jj] := List.getElem?_eq_getElem hlt2
            have ey := zip_at ey0
            have hmy : ((ys xs[i])[jj], jj) ∈ (ys xs[i]).zipIdx := List.mem_of_getElem? ey
            have ed2 : ((ys xs[i]).map gb)[jj]? = some (gb (ys xs[i])[jj]) := by rw [List.getElem?_map, ey0]; rfl
            obtain ⟨u2, eu2, ru2⟩ := hall3.get ed2
            refine .inr ⟨⟨us, u2, sq4, eu2⟩, fun H5 => Cq N H H1 N2 D (((xs.zipIdx.take i).flatMap fun x => ((ys x.1).zipIdx.filter (p x)).map (f x)) ++ (((ys xs[i]).zipIdx.take (jj + 1)).filter (p (xs[i], i))).map (f (xs[i], i))) H5, fun H5 c5 => ⟨(ys xs[i]).length - (jj + 1), by omega, rfl, hlt2, c5⟩, fun x2 H5 y2 => ?_⟩
            obtain ⟨T2, x2', rfl, hT2, rfl, y2⟩ := y2
            have exv2 : x2' = u2 := Option.some.inj ((y2 us sq4).symm.trans eu2)
            subst exv2
            have eT2 : Ex H4 (upd H4 T2 (.tup [.int (jj : Nat), x2'])) := Ex.new hT2
            have bound : (((xs.zipIdx.take i).flatMap fun x => ((ys x.1).zipIdx.filter (p x)).map (f x)) ++ (((ys xs[i]).zipIdx.take jj).filter (p (xs[i], i))).map (f (xs[i], i))).length < 100000 := by
              rw [List.length_append]
              have b1 : ∀ l : List (A × Nat), (l.flatMap fun x => ((ys x.1).zipIdx.filter (p x)).map (f x)).length ≤ (l.flatMap fun x => (ys x.1).zipIdx).length := by
                intro l
                induction l with
                | nil => simp
                | cons z l ih =>
                  rw [List.flatMap_cons, List.flatMap_cons, List.length_append, List.length_append, List.length_map]
                  have := List.length_filter_le (p z) (ys z.1).zipIdx
                  omega
              have b2 := fm2_at (f := fun x : A × Nat => (ys x.1).zipIdx) xs.zipIdx i (xs[i], i) ex
              have b3 := b1 (xs.zipIdx.take i)
              have b4 : ((((ys xs[i]).zipIdx.take jj).filter (p (xs[i], i))).map (f (xs[i], i))).length ≤ ((ys xs[i]).zipIdx).length := fm_len
              have b2' : ((xs.zipIdx.take i).flatMap fun x : A × Nat => (ys x.1).zipIdx).length + ((ys xs[i]).zipIdx).length ≤ (xs.zipIdx.flatMap fun x : A × Nat => (ys x.1).zipIdx).length := b2
              omega
            refine ⟨T2, _, rfl, .inl (.inl upd_same), rfl, _, _, rfl, _, _, rfl, rfl, ?_⟩
            refine ⟨by rw [wipe_set _ (by simp), wipe_set _ (by simp), wipe_wipe], cq_turn (b := p (xs[i], i) ((ys xs[i])[jj], jj)) (d := f (xs[i], i) ((ys xs[i])[jj], jj)) (c4.on eT2) e1 hD bound ((((hs1.mono n3).wipe [k1, k2]).set (.int _) k1).set ru2 k2) (ht _ hm _ hmy) (he _ hm _ hmy) (fun hp H6 c6 => ?_) (fun hp H6 c6 => ?_)⟩
            · rw [fm_yes ey hp, ← List.append_assoc]
              exact c6
            · rw [fm_no ey hp]
              exact c6
          · have ej : jj = (ys xs[i]).length := by omega
            subst ej
            refine .inl ⟨⟨us, sq4, by omega⟩, ?_⟩
            rw [fm_snoc ex]
            have z : (ys xs[i]).zipIdx.take (ys xs[i]).length = (ys xs[i]).zipIdx := List.take_of_length_le (by simp)
            rw [z] at c4
            exact c4.less n3
      · have e : i = xs.length := by omega
        subst e
        refine .inl ⟨⟨vs, sq, by omega⟩, ?_⟩
        have z : xs.zipIdx.take xs.length = xs.zipIdx := List.take_of_length_le (by simp)
        rw [z] at c
        exact c.fin e1 n1 hD q
end
end DL
set_option Elab.async false
set_option linter.all false
set_option maxRecDepth 100000
set_option maxHeartbeats 2000000
/-! A list that loops append to, whatever their tests; comprehensions over a tuple; a new thing beside which tests return. -/
namespace DL
open PySem PySem.Spec PyProof.Rows L2 Evl
set_option autoImplicit false
variable [Kn]
/-- in slot k stands a list that is being made, at L: so far the list of es -/
def Bs (N H : Hp) (L : Addr) (k : Nat) (ds : De) (es : List PyData) (σ : St) (H' : Hp) : Prop := σ[k]? = some (some (.ref L)) ∧ ∃ (acc : List V) (Nk : Hp), Ex H H' ∧ H' L = some (.lst acc) ∧ Ex N Nk ∧ Ex Nk H' ∧ Nk L = none ∧ Reg N H Nk ∧ RpAll Nk acc es ∧ Holds Nk σ ds
theorem Bs.on {N H : Hp} {L : Addr} {k : Nat} {ds : De} {es : List PyData} {σ : St} {H' H'' : Hp} (b : Bs N H L k ds es σ H') (e : Ex H' H'') : Bs N H L k ds es σ H'' := by
  obtain ⟨a, acc, Nk, b1, b2, b3, b4, b5, b6, b7, b8⟩ := b
  exact ⟨a, acc, Nk, b1.trans e, e _ _ b2, b3, b4.trans e, b5, b6, b7, b8⟩
theorem Bs.le {N H : Hp} {L : Addr} {k : Nat} {ds ds2 : De} {es : List PyData} {σ : St} {H' : Hp} (b : Bs N H L k ds es σ H') (l : Le ds2 ds) : Bs N H L k ds2 es σ H' := by
  obtain ⟨a, acc, Nk, b1, b2, b3, b4, b5, b6, b7, b8⟩ := b
  exact ⟨a, acc, Nk, b1, b2, b3, b4, b5, b6, b7, b8.le l⟩
/-- t makes es into es' -/
def EvAp (t : TS) (k : Nat) (ds : De) (es : List PyData) (ds' : De) (es' : List PyData) : Prop := ∀ (N H : Hp) (L : Addr), H L = none → ∀ σ H', Bs N H L k ds es σ H' → ∀ D : Ends, (∀ σ2 H2, Bs N H L k ds' es' σ2 H2 → D.nx σ2 H2) → t D σ H'
section
variable {E : XK} {t u : TS} {k j : Nat} {ds ds1 ds2 : De} {es es1 es2 : List PyData} {te : TE} {d : PyData} {c : TT} {b : Bool} {o : Out}
theorem ap_append (hl : es.length < 100000) (h : EvE te ds d) : EvAp (tDrop (tBM KK "list" rAppend (tVar k) (tCons te tNil))) k ds es ds (es ++ [d]) := fun N H L hL σ H' bs D q => by
  obtain ⟨hk, acc, Nk, b1, b2, b3, b4, b5, b6, b7, b8⟩ := bs
  refine ⟨_, hk, .inl ⟨rfl, acc, .inl (.inl b2)⟩, ?_⟩
  refine h σ Nk b8 H' b4 _ fun y H4 N4 e4 n4 k4 g4 r4 => ?_
  have f4 : N4 L = none := reg_none g4 b5 (by rw [b2]; intro z; cases z)
  refine ⟨L, acc, y, rfl, rfl, e4 _ _ b2, sz_lt (by rw [b7.length]; exact hl), q _ _ ⟨hk, acc ++ [y], N4, Ex.mut (b1.trans e4) hL, upd_same, b3.trans n4, Ex.mut k4 f4, f4, b6.trans b1 g4, (b7.mono n4).append (.one r4), b8.mono n4⟩⟩
theorem ap_next : EvAp tNext k ds es ds es := fun N H L hL σ H' bs D q => q σ H' bs
theorem ap_if (h : EvB c ds b) (h1 : b = true → EvAp t k ds es ds1 es1) (h2 : b = false → EvAp u k ds es ds1 es1) : EvAp (tIfS c t u) k ds es ds1 es1 := fun N H L hL σ H' bs D q => by
  obtain ⟨hk, acc, Nk, b1, b2, b3, b4, b5, b6, b7, b8⟩ := id bs
  refine h σ Nk b8 H' b4 _ fun H1 e1 => ?_
  cases b with
  | true => exact iteT (h1 rfl N H L hL σ H1 (bs.on e1) D q)
  | false => exact iteF (h2 rfl N H L hL σ H1 (bs.on e1) D q)
theorem ap_seq (h1 : EvAp t k ds es ds1 es1) (h2 : EvAp u k ds1 es1 ds2 es2) : EvAp (tSeq t u) k ds es ds2 es2 := fun N H L hL σ H' bs D q =>
  h1 N H L hL σ H' bs { D with nx := u D } fun σ2 H2 b2 => h2 N H L hL σ2 H2 b2 D q
theorem ap_asg (hjk : j ≠ k) (h : EvE te ds d) : EvAp (tAsg te (gName j)) k ds es (ds.set j (some d)) es := fun N H L hL σ H' bs D q => by
  obtain ⟨hk, acc, Nk, b1, b2, b3, b4, b5, b6, b7, b8⟩ := bs
  refine h σ Nk b8 H' b4 _ fun y H4 N4 e4 n4 k4 g4 r4 => ?_
  have f4 : N4 L = none := reg_none g4 b5 (by rw [b2]; intro z; cases z)
  exact q _ _ ⟨by rw [List.getElem?_set_ne hjk]; exact hk, acc, N4, b1.trans e4, e4 _ _ b2, b3.trans n4, k4, f4, b6.trans b1 g4, b7.mono n4, (b8.mono n4).set r4 j⟩
theorem ap_is {es3 : List PyData} (h : EvAp t k ds es ds1 es1) (e : es1 = es3) : EvAp t k ds es ds1 es3 := e ▸ h
/-- for i in range(n) -/
theorem ap_forR {ta : TA} {n : Int} (hjk : j ≠ k) (S : Nat → De) (F : Nat → List PyData) (h0 : Le (S 0) ds) (hF : F 0 = es) (h : EvAs ta ds [.int n]) (hn : n < 100000) (hn0 : -100000 < n)
    (turn : ∀ i : Nat, (i : Int) < n → EvAp t k ((S i).set j (some (.int (i : Int)))) (F i) (S (i + 1)) (F (i + 1))) : EvAp (tFor (iRng1 ta) (gName j) t) k ds es (S n.toNat) (F n.toNat) := fun N H L hL σ H' bs D q => by
  obtain ⟨hk, acc, Nk, b1, b2, b3, b4, b5, b6, b7, b8⟩ := id bs
  refine h σ Nk b8 H' b4 _ fun vs H1 N1 e1 n1 k1 g1 r1 => ?_
  cases r1 with
  | cons r rr =>
    cases rr
    cases r
    refine ⟨n, rfl, by omega, by omega, ?_⟩
    subst hF
    refine for_range (lo := 0) (n := n.toNat) (fun i σ' H' => Bs N H L k (S i) (F i) σ' H') ((bs.on e1).le h0) ?_ q
    rintro i σ' H2 hi bs'
    rw [Int.zero_add]
    obtain ⟨hk, acc, Nk, b1, b2, b3, b4, b5, b6, b7, b8⟩ := bs'
    exact turn i (by omega) N H L hL _ H2 ⟨by rw [List.getElem?_set_ne hjk]; exact hk, acc, Nk, b1, b2, b3, b4, b5, b6, b7, b8.set (.int _) j⟩ _ fun σ2 H3 b2 => b2
/-- out = []; loops that append; the rest -/
theorem es_made (hk : k < ds.length) (h : EvAp t k (ds.set k none) [] ds1 es1) (r : EvS E u (ds1.set k (some (.list es1))) o) : EvS E (tSeq (tAsg (tLst tNil) (gName k)) (tSeq t u)) ds o := fun σ N hs D H eN a => by
  refine ⟨Nat.zero_le _, fun L hL => ?_⟩
  have eH : Ex H (upd H L (.lst [])) := Ex.new hL
  refine h N H L hL (σ.set k (some (.ref L))) (upd H L (.lst [])) ⟨by rw [List.getElem?_set_self (by rw [hs.len]; exact hk)], [], N, eH, upd_same, Ex.refl N, eN.trans eH, ex_none eN hL, Reg.refl, .nil, hs.setIn k _⟩ _ fun σ2 H2 bs => ?_
  obtain ⟨hk2, acc, Nk, b1, b2, b3, b4, b5, b6, b7, b8⟩ := bs
  have n2 : Ex Nk (upd Nk L (.lst acc)) := Ex.new b5
  refine r σ2 (upd Nk L (.lst acc)) ((b8.mono n2).put hk2 (.lst (sq_of upd_same) (b7.mono n2))) D H2 (fun x u' hx => ?_) (a.on b1 (b3.trans n2) fun x hx => ?_)
  · by_cases z : x = L
    · subst z
      rw [upd_same] at hx
      rw [← hx]
      exact b2
    · rw [upd_ne z] at hx
      exact b4 x u' hx
  · by_cases z : x = L
    · subst z
      exact .inr hL
    · rw [upd_ne z] at hx
      exact b6 x hx
end
/-! over a tuple -/
theorem k_pi_tup {X : Cx} {K : PySem.W.Frag} {tg e : Expr} {te : TE} (he : PE X e te) (h : X.K = K := by rfl) : PI X tg e (iTup K te) := by
  subst h
  exact pi_tup he
section
variable {ds : De} {tl te : TE} {tt : TT} {j : Nat} {A : Type}
theorem ev_lcT {xs : List A} {g : A → PyData} {p : A → Bool} {f : A → PyData} (h : EvE tl ds (.tuple (xs.map g))) (hz : xs.length < 100000)
    (ht : ∀ x ∈ xs, EvB tt ((wipeD ds [j]).set j (some (g x))) (p x)) (he : ∀ x ∈ xs, p x = true → EvE te ((wipeD ds [j]).set j (some (g x))) (f x)) :
    EvE (tLc (iTup KK tl) (gName j) tt te [j]) ds (.list ((xs.filter p).map f)) := fun σ N hs H eN Q q =>
  h σ N hs H eN _ fun v H1 N1 e1 n1 k1 g1 r1 => by
    cases r1 with
    | @tup a vs _ hr hall =>
      have st : ∀ H', Ex N1 H' → SqT KK H' a vs := fun H' e => set_of_rd (rd_ex e hr)
      refine ⟨a, rfl, ⟨vs, st _ k1⟩, fun D hD => ?_⟩
      have hlen : vs.length = xs.length := by rw [hall.length, List.length_map]
      refine lc_tup (xs := vs) (fun i H' => Cq N H H1 N1 D (((xs.take i).filter p).map f) H') (Cq.start e1 k1 g1 hD) (fun i H' _ c => st _ c.known) (fun i v H' hi c => ?_) (fun H' c => ?_)
      · obtain ⟨d, ed, rv⟩ := hall.getV hi
        rw [List.getElem?_map] at ed
        cases ex : xs[i]? with
        | none =>
          rw [ex] at ed
          cases ed
        | some x =>
          rw [ex] at ed
          have ed' : g x = d := Option.some.inj ed
          subst ed'
          have hm : x ∈ xs := List.mem_of_getElem? ex
          refine ⟨wipe1 σ j v, cq_turn (b := p x) (d := f x) c e1 hD (Nat.lt_of_le_of_lt fm_len hz) (((hs.mono n1).wipe [j]).set rv j) (ht x hm) (he x hm) (fun hp H'' c' => ?_) (fun hp H'' c' => ?_)⟩
          · rw [fm_yes ex hp]
            exact c'
          · rw [fm_no ex hp]
            exact c'
      · rw [show ((xs.take vs.length).filter p).map f = (xs.filter p).map f by rw [hlen, List.take_length]] at c
        exact c.fin e1 n1 hD q
theorem ev_lcT1 {xs : List A} {g : A → PyData} {f : A → PyData} (h : EvE tl ds (.tuple (xs.map g))) (hz : xs.length < 100000) (he : ∀ x ∈ xs, EvE te ((wipeD ds [j]).set j (some (g x))) (f x)) : EvE (tLc (iTup KK tl) (gName j) tYes te [j]) ds (.list (xs.map f)) := by
  have h2 := ev_lcT (j := j) (tt := tYes) (te := te) (p := fun _ => true) (f := f) h hz (fun _ _ => eb_yes) (fun x hx _ => he x hx)
  rw [List.filter_eq_self.mpr (fun _ _ => rfl)] at h2
  exact h2
end
section
variable {t u : TS} {ds : De} {i : Nat} {d : PyData} {c : TT}
/-- the test holds: the block returns -/
theorem w_if1 (h : EvB c (ds.set i (some d)) true) (r : EvW t ds i d) : EvW (tSeq (tIfS c t tNext) u) ds i d := fun σ N H S w D q => by
  obtain ⟨h1, h2, h3⟩ := w.all
  refine h σ _ h1 H h2 _ fun H' e1 => iteT ?_
  obtain ⟨x, ex, rt⟩ := w.at_
  exact r σ N H' S ⟨w.hs, w.eN.trans e1, ⟨x, ex, rt.mono e1⟩, w.nd, w.out⟩ _ q
end
end DL
namespace DL
open PySem PySem.Spec PyProof.Rows L2 Evl
variable [Kn]
theorem ap_wk {t : TS} {k : Nat} {ds ds1 ds3 : De} {es es1 : List PyData} (l : Le ds3 ds1) (h : EvAp t k ds es ds1 es1) : EvAp t k ds es ds3 es1 := fun N H L hL σ H' bs D q => h N H L hL σ H' bs D fun σ2 H2 b2 => q σ2 H2 (b2.le l)
end DL
set_option Elab.async false
set_option linter.all false
set_option maxRecDepth 100000
set_option maxHeartbeats 2000000
/-! list * int, tuple(list), -i, displays of dicts. -/
namespace DL
open PySem PySem.Spec PyProof.Rows L2 Evl
set_option autoImplicit false
/-- a list times an int, whatever list -/
def rRepL (K : PySem.W.Frag) : R2 := fun x y H Q => ∃ l k xs, x = .ref l ∧ y = .int k ∧ SqL K H l xs ∧ 0 ≤ k ∧ k < 1000 ∧ xs.length * k.toNat ≤ 100000 ∧ ∀ p, H p = none → Q (.ref p) (upd H p (.lst (List.replicate k.toNat xs).flatten))
theorem rmul_any (i : Int) (u : Tok) (l : Addr) (xs : Array Value) (m : Nat) (dd : Option Addr) (ss : Array (Option Value)) :
    Meets (Builtin.«int.__rmul__» ⟨[.int i u, .ref l], []⟩) (fun _ R s => s.heap.get? l = some { cls := .type "list", dict := dd, data := .seq xs m, slots := ss } ∧ R (.ok (.ret Value.notImplemented)) s) := by
  refine Meets.of_wp fun pg w B R t z => ?_
  obtain ⟨hp, g, d, tk, os⟩ := t
  obtain ⟨at_, q⟩ := z
  wp_walk
  exact ⟨_, rfl, q⟩
theorem mul_any (l : Addr) (xs : Array Value) (m : Nat) (dd : Option Addr) (ss : Array (Option Value)) (i : Int) (u : Tok) (c0 : ¬(!Builtin.List.listFitsIndex i) = true) (c1 : ¬xs.size * i.toNat > (2 ^ 63 - 1) / 8) (c2 : ¬Builtin.List.listTooLong (xs.size * i.toNat) = true) :
    Meets (Builtin.«list.__mul__» ⟨[.ref l, .int i u], []⟩) (fun _ R s => s.heap.get? l = some { cls := .type "list", dict := dd, data := .seq xs m, slots := ss } ∧
      R (.ok (.ret (Value.ref s.heap.objs.size))) { s with heap := s.heap.push { cls := Value.type "list", data := Data.seq (List.foldl (fun x1 x2 => x1 ++ x2) #[] (List.replicate (if xs.isEmpty = true then 0 else i.toNat) xs)) }, toks := s.toks }) := by
  refine Meets.of_wp fun pg w B R t z => ?_
  obtain ⟨hp, g, d, tk, os⟩ := t
  obtain ⟨at_, q⟩ := z
  have few := AutoListH.joined_fits c2
  wp_walk
  refine wpAny_ite_false (decide_eq_false (Nat.not_lt.mpr few)) ?_
  wp_walk
  exact ⟨_, rfl, q⟩

theorem k_rep {X : Cx} {K : PySem.W.Frag} (hK : X.K = K := by rfl) : OpR X (binaryOp .Mult) (rRepL K) := by
  subst hK
  intro pins s σ H x y v u Q I rx ry h
  obtain ⟨l, k, xs, rfl, rfl, hS, k0, k1, hz, q⟩ := h
  cases (show v = Value.ref l from rx)
  obtain ⟨t, rfl⟩ := (show ∃ t, u = Value.int k t from ry)
  obtain ⟨its, r, pl, _⟩ := I.list hS
  obtain ⟨⟨cls, dd, data, sl⟩, n, e, hc, hd, he⟩ := pl
  dsimp only at hc hd he
  subst hc hd he
  have few : its.toArray.size * k.toNat ≤ sizeLine := by
    rw [List.size_toArray, ← r.length]
    exact Nat.le_trans hz (by decide)
  have cap : ¬ its.toArray.size * k.toNat > (2 ^ 63 - 1) / 8 := by
    have : (sizeLine : Nat) ≤ (2 ^ 63 - 1) / 8 := by decide
    omega
  have fits : ¬ (!Builtin.List.listFitsIndex k) = true := by
    rw [fitsIndex_both (by omega) (by omega)]
    exact Bool.false_ne_true
  have long : ¬ Builtin.List.listTooLong (its.toArray.size * k.toNat) = true := by
    rw [notLongL few]
    exact Bool.false_ne_true
  have made : List.foldl (fun x1 x2 => x1 ++ x2) #[] (List.replicate (if its.toArray.isEmpty = true then 0 else k.toNat) its.toArray) = (List.replicate k.toNat its).flatten.toArray := by
    rw [size_rep]
    cases its with
    | nil => simp
    | cons a b => rw [if_neg (by simp)]
  have ty : s.TypeIs (.ref l) "list" := ⟨_, e, rfl⟩
  refine wpAny_binaryOp_repeat_ref (T := "list") (U := "int") (by decide) ty (fun s' => typeIs_int s' k t) noFill_list_mul PySem.F.fills_int_mul PySem.F.slot_int_rmul repeat_list PySem.F.slot_int_index.lookup ?_
  refine call_meets PySem.F.slot_int_rmul (typeIs_int s k t) PySem.F.entry_int_rmul (PySem.F.args_int_rmul_2 _ _) (rmul_any k t l its.toArray n none sl) ⟨e, rfl, ty, ?_⟩
  refine call_meets PySem.F.slot_list_mul ty PySem.F.entry_list_mul (PySem.F.args_list_mul_2 _ _) (mul_any l its.toArray n none sl k t fits cap long) ⟨e, ?_⟩
  rw [made]
  exact ⟨.ref _, _, I.lnew (t' := s.toks) (r.rep k.toNat) (by rw [PyProof.Rows.lm_len_rep_flat, Nat.mul_comm]; exact Nat.le_trans hz (by decide)), rfl, q _ I.fresh⟩
theorem k_tuple {X : Cx} {K : PySem.W.Frag} (hK : X.K = K := by rfl) : CallR X (.type "tuple") (fun xs H Q => ∃ p ys, xs = [.ref p] ∧ ((SqL K H p ys ∧ ∀ l, H l = none → Q (.ref l) (upd H l (.tup ys))) ∨ (SqT K H p ys ∧ Q (.ref p) H))) := by
  subst hK
  exact call_tuple_of
variable [Kn]
theorem RpAll.rep {N : Hp} {vs : List V} {ds : List PyData} (r : RpAll N vs ds) : ∀ k : Nat, RpAll N (List.replicate k vs).flatten (List.replicate k ds).flatten
  | 0 => .nil
  | k + 1 => by
    rw [List.replicate_succ, List.replicate_succ, List.flatten_cons, List.flatten_cons]
    exact r.append (RpAll.rep r k)
section
variable {ds : De} {te tx ta tb : TE} {ts : List PyData} {d : PyData}
theorem ev_rep {k : Int} (ha : EvE ta ds (.list ts)) (hb : EvE tb ds (.int k)) (k0 : 0 ≤ k) (k1 : k < 1000) (hl : ts.length * k.toNat ≤ 100000) : EvE (tOp (rRepL KK) ta tb) ds (.list (List.replicate k.toNat ts).flatten) :=
  ev_op ha hb fun x y N H eN rx ry Q q => by
    cases ry
    cases rx with
    | @lst a xs _ hr hall =>
      refine ⟨a, k, xs, rfl, rfl, ex_l eN hr, k0, k1, by rw [hall.length]; exact hl, fun p hp => ?_⟩
      obtain ⟨a1, a2, a3, a4, a5⟩ := laid (o := .lst (List.replicate k.toNat xs).flatten) (Ex.refl H) (Ex.refl N) eN Reg.refl hp
      exact q (.ref p) _ _ a1 a2 a3 a4 (.lst (sq_of upd_same) ((hall.rep k.toNat).mono a5))
theorem ev_tupOf (h : EvE tx ds (.list ts)) : EvE (tCB (fun xs H Q => ∃ p ys, xs = [.ref p] ∧ ((SqL KK H p ys ∧ ∀ l, H l = none → Q (.ref l) (upd H l (.tup ys))) ∨ (SqT KK H p ys ∧ Q (.ref p) H))) (tCons tx tNil)) ds (.tuple ts) :=
  ev_cb (ea_cons h ea_nil) fun vs N H eN rv Q q => by
    cases rv with
    | cons r rr =>
      cases rr
      cases r with
      | @lst a xs _ hr hall =>
        refine ⟨a, xs, rfl, .inl ⟨ex_l eN hr, fun p hp => ?_⟩⟩
        obtain ⟨a1, a2, a3, a4, a5⟩ := laid (o := .tup xs) (Ex.refl H) (Ex.refl N) eN Reg.refl hp
        exact q (.ref p) _ _ a1 a2 a3 a4 (.tup (.inl upd_same) (hall.mono a5))
theorem ev_neg {i : Int} (h : EvE te ds (.int i)) : EvE (tUn (rU fun i => .int (-i)) te) ds (.int (-i)) := fun σ N hs H eN Q q => h σ N hs H eN _ fun v H' N' e n k g r => by
  cases r
  exact ⟨i, rfl, q _ H' N' e n k g (.int _)⟩
theorem ev_dict0 : EvE tDNewK ds (.dict []) := fun σ N hs H eN Q q => fun p hp => by
  obtain ⟨a1, a2, a3, a4, a5⟩ := laid (o := .dK []) (Ex.refl H) (Ex.refl N) eN Reg.refl hp
  exact q (.ref p) _ _ a1 a2 a3 a4 (.dct upd_same .nil)
/-- {k: x} -/
theorem ev_dict1 {k : Int} {tk tv : TE} (hk : EvE tk ds (.int k)) (hv : EvE tv ds d) : EvE (tDisp [(tk, tv)]) ds (.dict [(.int k, d)]) := fun σ N hs H eN Q q => fun p hp => by
  have eH : Ex H (upd H p (.dK [])) := Ex.new hp
  refine hk σ N hs (upd H p (.dK [])) (eN.trans eH) _ fun x H1 N1 e1 n1 k1 g1 r1 => ?_
  refine hv σ N1 (hs.mono n1) H1 k1 _ fun y H2 N2 e2 n2 k2 g2 r2 => ?_
  cases r1
  have h2 : H2 p = some (.dK []) := e2 _ _ (e1 _ _ upd_same)
  have f0 : N p = none := ex_none eN hp
  have f1 : N1 p = none := reg_none g1 f0 (by rw [upd_same]; intro z; cases z)
  have f2 : N2 p = none := reg_none g2 f1 (by rw [e1 _ _ upd_same]; intro z; cases z)
  have gg : Reg N H N2 := fun b hb => by
    rcases g2 b hb with z | z
    · rcases g1 b z with y | y
      · exact .inl y
      · exact .inr (ex_none eH y)
    · exact .inr (ex_none eH (ex_none e1 z))
  refine ⟨h2, [(.inl k, y)], rfl, (by decide : 1 ≤ 15), ?_⟩
  have n3 : Ex N2 (upd N2 p (.dK [(.inl k, y)])) := Ex.new f2
  refine q (.ref p) _ (upd N2 p (.dK [(.inl k, y)])) (Ex.mut (eH.trans (e1.trans e2)) hp) ((n1.trans n2).trans n3) (fun b o hb => ?_) (fun b hb => ?_) (.dct upd_same (.cons (.int k) (r2.mono n3) .nil))
  · by_cases z : b = p
    · subst z
      rw [upd_same] at hb ⊢
      exact hb
    · rw [upd_ne z] at hb ⊢
      exact k2 b o hb
  · by_cases z : b = p
    · subst z
      exact .inr hp
    · rw [upd_ne z] at hb
      exact gg b hb
end
end DL
set_option Elab.async false
set_option linter.all false
set_option maxRecDepth 100000
set_option maxHeartbeats 2000000
/-! != of two things that stand for the same data, dicts within it too. -/
namespace PySem.SeqAt
open AutoSeq1 (wpAny_loadPart')
open MeetsSeq MeetsSeq2 MeetsSeq3 SeqRoads2
section
variable {pg : Program} {w : World}
/-- the walk over two lists whose items are equal each: no difference -/
theorem alike_walk (p q : Addr) (xs ys : Array Value) (m1 m2 : Nat) (d1 d2 : Option Addr) (s1 s2 : Array (Option Value)) (same : xs.size = ys.size) (left : Nat) :
    ∀ i : Nat, xs.size - i = left → MeetsIn pg w (Builtin.«list.__eq__.loop» ⟨[.ref p, .ref q, rawInt i, rawInt 3], []⟩)
      (fun B R t => t.heap.get? p = some { cls := .type "list", dict := d1, data := .seq xs m1, slots := s1 } ∧ t.heap.get? q = some { cls := .type "list", dict := d2, data := .seq ys m2, slots := s2 } ∧
        (∀ j (a : j < xs.size) (b : j < ys.size), EqIn pg w B.in1 t xs[j] ys[j] true) ∧ R (.ok (.ret (.bool false))) t) := by
  induction left with
  | zero =>
    intro i hi B R t z
    obtain ⟨hp, g, d, tk, os⟩ := t
    obtain ⟨at1, at2, each, fin⟩ := z
    wp_walk using wpAny_loadPart' at1, wpAny_loadPart' at2
    have n1 : xs[((i : Nat) : Int).toNat]? = none := by simp; omega
    have n2 : ys[((i : Nat) : Int).toNat]? = none := by simp; omega
    rw [n1, n2]
    wp_walk using wpAny_loadPart' at1, wpAny_loadPart' at2
    show R (.ok (.ret (.bool (xs.size != ys.size)))) _
    rw [same]
    simpa using fin
  | succ left ih =>
    intro i hi B R t z
    obtain ⟨hp, g, d, tk, os⟩ := t
    obtain ⟨at1, at2, each, fin⟩ := z
    wp_walk using wpAny_loadPart' at1, wpAny_loadPart' at2
    have l1 : i < xs.size := by omega
    have l2 : i < ys.size := by omega
    have n1 : xs[((i : Nat) : Int).toNat]? = some xs[i] := by simp [l1]
    have n2 : ys[((i : Nat) : Int).toNat]? = some ys[i] := by simp [l2]
    have nx : ((i : Int) + 1) = ((i + 1 : Nat) : Int) := by push_cast; rfl
    rw [n1, n2]
    refine wpAny_bind (each i l1 l2 _ _ ?_)
    wp_walk
    rw [nx]
    exact ⟨plainId_quiet plain_eq_loop _, codeAny_builtin entry_eq_loop (by
      rw [Around.under_plainId plain_eq_loop _]
      exact ih (i + 1) (by omega) B R _ ⟨at1, at2, each, fin⟩)⟩
theorem alike_ne (p q : Addr) (xs ys : Array Value) (m1 m2 : Nat) (d1 d2 : Option Addr) (s1 s2 : Array (Option Value)) (same : xs.size = ys.size) :
    MeetsIn pg w (Builtin.«list.__ne__» ⟨[.ref p, .ref q], []⟩)
      (fun B R t => t.heap.get? p = some { cls := .type "list", dict := d1, data := .seq xs m1, slots := s1 } ∧ t.heap.get? q = some { cls := .type "list", dict := d2, data := .seq ys m2, slots := s2 } ∧
        (∀ j (a : j < xs.size) (b : j < ys.size), EqIn pg w B.in1 t xs[j] ys[j] true) ∧ R (.ok (.ret (.bool false))) t) := by
  intro B R t z
  obtain ⟨hp, g, d, tk, os⟩ := t
  obtain ⟨at1, at2, each, fin⟩ := z
  have f3 := AutoSeq1.sub_list_list
  have differ : ¬ (xs.size != ys.size) = true := by simp [same]
  wp_walk using wpAny_loadPart' at1, wpAny_loadPart' at2
  exact ⟨plainId_quiet plain_eq_loop _, codeAny_builtin entry_eq_loop (by
    rw [Around.under_plainId plain_eq_loop _]
    exact alike_walk p q xs ys m1 m2 d1 d2 s1 s2 same _ 0 rfl B R _ ⟨at1, at2, each, fin⟩)⟩
theorem alike_lists {B : Around} {t : Shared} {E Q : Value → Shared → Prop} {p q : Addr} {xs ys : Array Value} (h1 : t.heap.IsList p xs) (h2 : t.heap.IsList q ys) (same : xs.size = ys.size) (room : B.units < cLine)
    (each : ∀ j (a : j < xs.size) (b : j < ys.size), EqIn pg w B.in1 t xs[j] ys[j] true) (h : Q (.bool false) t) : wpAny (model pg w) B (compareOp .NotEq (.ref p) (.ref q)) Q E t := by
  obtain ⟨⟨c1, d1, a1, s1⟩, o1, e1, n1, f1⟩ := id h1
  obtain ⟨⟨c2, d2, a2, s2⟩, o2, e2, n2, f2⟩ := id h2
  dsimp only at e1 f1 e2 f2
  subst e1 f1 e2 f2
  refine wpAny_richCompare_same_room (T := "list") (op := .NotEq) ⟨_, o1, rfl⟩ ⟨_, o2, rfl⟩ F.slot_list_ne ?_ room
  exact call_meetsIn F.slot_list_ne ⟨_, o1, rfl⟩ F.entry_list_ne (F.args_list_ne_2 _ _) (alike_ne p q xs ys n1 n2 d1 d2 s1 s2 same) ⟨o1, o2, each, (fun x => nomatch x), h⟩
end
end PySem.SeqAt
namespace DL
open PySem PySem.Spec PyProof.Rows L2 Evl
open PySem.W (EqTree)
set_option autoImplicit false
variable [Kn]
mutual
def nest : PyData → Nat
  | .list ds => nestAll ds + 1
  | .tuple ds => nestAll ds + 1
  | .dict kvs => nestD kvs + 1
  | _ => 0
def nestAll : List PyData → Nat
  | [] => 0
  | d :: ds => max (nest d) (nestAll ds)
def nestD : List (PyData × PyData) → Nat
  | [] => 0
  | (_, d) :: r => max (nest d) (nestD r)
end
mutual
/-- no dict within has more than one key -/
def fine : PyData → Bool
  | .list ds => fineAll ds
  | .tuple ds => fineAll ds
  | .dict kvs => decide (kvs.length ≤ 1) && fineD kvs
  | _ => true
def fineAll : List PyData → Bool
  | [] => true
  | d :: ds => fine d && fineAll ds
def fineD : List (PyData × PyData) → Bool
  | [] => true
  | (_, d) :: r => fine d && fineD r
end
theorem key_eq {N : Hp} {k l : Key} {d : PyData} (h1 : Rp N (kV k) d) (h2 : Rp N (kV l) d) : k = l := by
  cases k with
  | inl i =>
    cases h1
    cases l with
    | inl j =>
      cases h2
      rfl
    | inr y => cases h2
  | inr x =>
    cases h1
    cases l with
    | inl j => cases h2
    | inr y =>
      cases h2
      rfl
section
variable {X : Cx} {pins : List (Addr × Obj)} {σ : St} {N H : Hp} {s : Shared}
mutual
theorem same_tree (I : Inv X pins σ H s) (hK : X.K = KK) (eN : Ex N H) : ∀ (d : PyData) (n : Nat) (x y : V) (v u : Value), fine d = true → nest d ≤ n → Rp N x d → Rp N y d → RelV x v → RelV y u → EqTree X.prog X.w s n v u true
  | .none, n, _, _, _, _, _, _, h1, h2, r1, r2 => by
    cases h1
    cases h2
    cases r1
    cases r2
    exact .same
  | .bool b, n, _, _, _, _, _, _, h1, h2, r1, r2 => by
    cases h1
    cases h2
    cases r1
    cases r2
    exact .same
  | .int i, n, _, _, _, _, _, _, h1, h2, r1, r2 => by
    cases h1
    cases h2
    obtain ⟨t1, rfl⟩ := r1
    obtain ⟨t2, rfl⟩ := r2
    refine .leaf fun A _ => ?_
    have q := SeqAt.EqAt.int_int (A := A) (s := s) i t1 i t2
    rwa [beq_self_eq_true] at q
  | .str z, n, _, _, _, _, _, _, h1, h2, r1, r2 => by
    cases h1
    cases h2
    obtain ⟨t1, rfl⟩ := r1
    obtain ⟨t2, rfl⟩ := r2
    refine .leaf fun A _ => ?_
    have q := SeqAt.EqAt.str_str (A := A) (s := s) z t1 z t2
    rwa [beq_self_eq_true] at q
  | .list ds, n, _, _, _, _, hf, hn, h1, h2, r1, r2 => by
    cases h1 with
    | @lst a xs _ s1 a1 =>
      cases h2 with
      | @lst b ys _ s2 a2 =>
        cases r1
        cases r2
        by_cases e : a = b
        · subst e
          exact .same
        · obtain ⟨us, v1, p1, _⟩ := I.list (by rw [hK]; exact ex_l eN s1)
          obtain ⟨ws, v2, p2, _⟩ := I.list (by rw [hK]; exact ex_l eN s2)
          obtain ⟨m, rfl⟩ : ∃ m, n = m + 1 := ⟨n - 1, by simp only [nest] at hn; omega⟩
          have z1 : us.length = ds.length := by rw [← v1.length, a1.length]
          have z2 : ws.length = ds.length := by rw [← v2.length, a2.length]
          have kids := same_trees I hK eN ds m xs ys us ws (by simpa only [fine] using hf) (by simp only [nest] at hn; omega) a1 a2 v1 v2
          have q := EqTree.lists (prog := X.prog) (w := X.w) (n := m) (e := fun _ => true) e p1.isList p2.isList (by rw [List.size_toArray, List.size_toArray, z1, z2]) fun j g1 g2 => by
            have k := kids j (by simpa using g1) (by simpa using g2)
            simpa using k
          rw [show ((List.range us.toArray.size).all fun _ => true) = true from List.all_eq_true.mpr fun _ _ => rfl] at q
          exact q
  | .tuple ds, n, _, _, _, _, hf, hn, h1, h2, r1, r2 => by
    cases h1 with
    | @tup a xs _ s1 a1 =>
      cases h2 with
      | @tup b ys _ s2 a2 =>
        cases r1
        cases r2
        by_cases e : a = b
        · subst e
          exact .same
        · obtain ⟨us, v1, p1, _⟩ := I.tuple (by rw [hK]; exact set_of_rd (rd_ex eN s1))
          obtain ⟨ws, v2, p2, _⟩ := I.tuple (by rw [hK]; exact set_of_rd (rd_ex eN s2))
          obtain ⟨m, rfl⟩ : ∃ m, n = m + 1 := ⟨n - 1, by simp only [nest] at hn; omega⟩
          have z1 : us.length = ds.length := by rw [← v1.length, a1.length]
          have z2 : ws.length = ds.length := by rw [← v2.length, a2.length]
          have kids := same_trees I hK eN ds m xs ys us ws (by simpa only [fine] using hf) (by simp only [nest] at hn; omega) a1 a2 v1 v2
          have q := EqTree.tuples (prog := X.prog) (w := X.w) (n := m) (e := fun _ => true) e p1 p2 fun j g1 g2 => by
            have k := kids j (by simpa using g1) (by simpa using g2)
            simpa using k
          have z3 : us.toArray.size = ws.toArray.size := by rw [List.size_toArray, List.size_toArray, z1, z2]
          rw [show ((List.range (min us.toArray.size ws.toArray.size)).all fun _ => true) = true from List.all_eq_true.mpr fun _ _ => rfl, z3, beq_self_eq_true] at q
          exact q
  | .dict [], n, _, _, _, _, hf, hn, h1, h2, r1, r2 => by
    cases h1 with
    | @dct a kvs _ s1 a1 =>
      cases h2 with
      | @dct b lvs _ s2 a2 =>
        cases a1
        cases a2
        cases r1
        cases r2
        by_cases e : a = b
        · subst e
          exact .same
        · obtain ⟨_, ya, va, ra, da⟩ := (show ObjOk X.prog X.w H s.heap a (.dK []) from I.hok a _ (eN _ _ s1))
          obtain ⟨_, yb, vb, rb, db⟩ := (show ObjOk X.prog X.w H s.heap b (.dK []) from I.hok b _ (eN _ _ s2))
          obtain ⟨m, rfl⟩ : ∃ m, n = m + 1 := ⟨n - 1, by simp only [nest] at hn; omega⟩
          cases ra
          cases rb
          exact EqTree.dicts (knd := mixKind X.prog X.w) (e := fun _ => true) e ya yb da db fun k v y hm => by cases hm
  | .dict [(dk, d)], n, _, _, _, _, hf, hn, h1, h2, r1, r2 => by
    cases h1 with
    | @dct a kvs _ s1 a1 =>
      cases h2 with
      | @dct b lvs _ s2 a2 =>
        cases a1 with
        | @cons k1 v1 _ _ _ _ kk1 vv1 rr1 =>
          cases a2 with
          | @cons k2 v2 _ _ _ _ kk2 vv2 rr2 =>
            cases rr1
            cases rr2
            cases r1
            cases r2
            have ek := key_eq kk1 kk2
            subst ek
            by_cases e : a = b
            · subst e
              exact .same
            · obtain ⟨_, ya, va, ra, da⟩ := (show ObjOk X.prog X.w H s.heap a (.dK [(k1, v1)]) from I.hok a _ (eN _ _ s1))
              obtain ⟨_, yb, vb, rb, db⟩ := (show ObjOk X.prog X.w H s.heap b (.dK [(k1, v2)]) from I.hok b _ (eN _ _ s2))
              obtain ⟨m, rfl⟩ : ∃ m, n = m + 1 := ⟨n - 1, by simp only [nest] at hn; omega⟩
              cases ra with
              | @cons _ p1 _ _ q1 t1 =>
                cases t1
                cases rb with
                | @cons _ p2 _ _ q2 t2 =>
                  cases t2
                  obtain ⟨c1, w1⟩ := p1
                  obtain ⟨c2, w2⟩ := p2
                  obtain ⟨g1, g2⟩ := q1
                  obtain ⟨g3, g4⟩ := q2
                  dsimp only at g1 g2 g3 g4
                  subst g1
                  subst g3
                  have kid := same_tree I hK eN d m v1 v2 w1 w2 (by simpa [fine, fineD] using hf) (by simp only [nest, nestD] at hn; omega) vv1 vv2 g2 g4
                  have q := EqTree.dicts (n := m) (knd := mixKind X.prog X.w) (e := fun _ => true) e ya yb da db fun k v y hm hv => by
                    obtain ⟨rfl, rfl⟩ := Prod.mk.inj (List.mem_singleton.mp hm)
                    have z : valueAt [(k, w2)] k = some w2 := by simp [valueAt]
                    rw [z] at hv
                    cases hv
                    exact kid
                  have z : (([(k1, w1)] : List (Key × Value)).length == ([(k1, w2)] : List (Key × Value)).length && ([(k1, w1)] : List (Key × Value)).all fun p => (valueAt [(k1, w2)] p.1).isSome && true) = true := by simp [valueAt]
                  rw [z] at q
                  exact q
  | .dict (_ :: _ :: _), _, _, _, _, _, hf, _, _, _, _, _ => by simp [fine] at hf
theorem same_trees (I : Inv X pins σ H s) (hK : X.K = KK) (eN : Ex N H) : ∀ (ds : List PyData) (n : Nat) (xs ys : List V) (us ws : List Value), fineAll ds = true → nestAll ds ≤ n → RpAll N xs ds → RpAll N ys ds → Vals xs us → Vals ys ws →
    ∀ j (h1 : j < us.length) (h2 : j < ws.length), EqTree X.prog X.w s n us[j] ws[j] true
  | [], n, _, _, _, _, _, _, a1, a2, r1, r2, j, h1, h2 => by
    cases a1
    cases r1
    simp at h1
  | d :: ds, n, _, _, _, _, hf, hn, a1, a2, r1, r2, j, h1, h2 => by
    cases a1 with
    | cons b1 c1 =>
      cases a2 with
      | cons b2 c2 =>
        cases r1 with
        | cons e1 f1 =>
          cases r2 with
          | cons e2 f2 =>
            obtain ⟨g1, g2⟩ := (Bool.and_eq_true _ _).mp (show (fine d && fineAll ds) = true by simpa only [fineAll] using hf)
            have m1 : nest d ≤ n := by simp only [nestAll] at hn; omega
            have m2 : nestAll ds ≤ n := by simp only [nestAll] at hn; omega
            cases j with
            | zero => exact same_tree I hK eN d n _ _ _ _ g1 m1 b1 b2 e1 e2
            | succ j => exact same_trees I hK eN ds n _ _ _ _ g2 m2 c1 c2 f1 f2 j (by simpa using h1) (by simpa using h2)
end
end
/-- a thing that may be compared with its like -/
def okN : PyData → Bool
  | .list ds => fineAll ds && decide (nestAll ds ≤ 50)
  | .dict kvs => decide (kvs.length ≤ 1) && kvs.all fun p => noDict p.2 && SeqAt.shaped p.2
  | d => noDict d && SeqAt.shaped d
/-- a != b, both stand for d -/
def rNeS : R2 := fun x y H Q => ∃ (N : Hp) (d : PyData), Ex N H ∧ Rp N x d ∧ Rp N y d ∧ okN d = true ∧ Q (.bl false) H
theorem k_neS {X : Cx} (hu : X.A.units + 100 < cLine) (hK : X.K = KK := by rfl) : OpR X (compareOp .NotEq) rNeS := by
  intro pins s σ H x y v u Q I rx ry h
  obtain ⟨N, d, eN, h1, h2, ok, q⟩ := h
  have plain : noDict d = true → SeqAt.shaped d = true → wpAny (model X.prog X.w) X.A (compareOp .NotEq v u) (EP X pins σ Q) X.xe s := fun nd sd =>
    k_neD (K := KK) (by omega) hK pins s σ H x y v u Q I rx ry ⟨d, d, (h1.mono eN).dp nd, (h2.mono eN).dp nd, sd, sd, by rw [SeqAt.eqv_refl _ (lay_of sd)]; exact q⟩
  cases d with
  | none => exact plain rfl (by decide)
  | bool b => exact plain rfl (by cases b <;> decide)
  | int i => exact plain rfl rfl
  | str z =>
    obtain ⟨g1, g2⟩ := (Bool.and_eq_true _ _).mp (show (noDict (.str z) && SeqAt.shaped (.str z)) = true from ok)
    exact plain g1 g2
  | tuple ds =>
    obtain ⟨g1, g2⟩ := (Bool.and_eq_true _ _).mp ok
    exact plain g1 g2
  | list ds =>
    obtain ⟨g1, g2⟩ := (Bool.and_eq_true _ _).mp ok
    have g2 := of_decide_eq_true g2
    cases h1 with
    | @lst a xs _ s1 a1 =>
      cases h2 with
      | @lst b ys _ s2 a2 =>
        cases rx
        cases ry
        obtain ⟨us, v1, p1, _⟩ := I.list (by rw [hK]; exact ex_l eN s1)
        obtain ⟨ws, v2, p2, _⟩ := I.list (by rw [hK]; exact ex_l eN s2)
        have z1 : us.length = ds.length := by rw [← v1.length, a1.length]
        have z2 : ws.length = ds.length := by rw [← v2.length, a2.length]
        have kids := same_trees I hK eN ds 50 xs ys us ws g1 g2 a1 a2 v1 v2
        refine SeqAt.alike_lists p1.isList p2.isList (by rw [List.size_toArray, List.size_toArray, z1, z2]) (by omega) (fun j f1 f2 => ?_) ⟨.bl false, H, I, rfl, q⟩
        have k := (kids j (by simpa using f1) (by simpa using f2)).at X.A.in1 (by show X.A.units + 1 + 50 < cLine; omega)
        simpa using k
  | dict kvs =>
    obtain ⟨g1, g2⟩ := (Bool.and_eq_true _ _).mp ok
    have g1 := of_decide_eq_true g1
    cases h1 with
    | @dct a ks _ s1 a1 =>
      cases h2 with
      | @dct b ls _ s2 a2 =>
        cases rx
        cases ry
        obtain ⟨_, ya, va, ra, da⟩ := (show ObjOk X.prog X.w H s.heap a (.dK ks) from I.hok a _ (eN _ _ s1))
        obtain ⟨_, yb, vb, rb, db⟩ := (show ObjOk X.prog X.w H s.heap b (.dK ls) from I.hok b _ (eN _ _ s2))
        have hits : PySem.W.KeqHits X.A.in1 s vb va true ∧ va.length = vb.length := by
          match kvs, g1, g2, a1, a2 with
          | [], _, _, a1, a2 =>
            cases a1
            cases a2
            cases ra
            cases rb
            exact ⟨.nil, rfl⟩
          | [(dk, d)], _, g2, a1, a2 =>
            cases a1 with
            | @cons k1 v1 _ _ _ _ kk1 vv1 rr1 =>
              cases a2 with
              | @cons k2 v2 _ _ _ _ kk2 vv2 rr2 =>
                cases rr1
                cases rr2
                have ek := key_eq kk1 kk2
                subst ek
                cases ra with
                | @cons _ p1 _ _ q1 t1 =>
                  cases t1
                  cases rb with
                  | @cons _ p2 _ _ q2 t2 =>
                    cases t2
                    obtain ⟨c1, w1⟩ := p1
                    obtain ⟨c2, w2⟩ := p2
                    obtain ⟨e1, e2⟩ := q1
                    obtain ⟨e3, e4⟩ := q2
                    dsimp only at e1 e2 e3 e4
                    subst e1
                    subst e3
                    obtain ⟨nd, sd⟩ := (Bool.and_eq_true _ _).mp (show (noDict d && SeqAt.shaped d) = true by simpa using g2)
                    obtain ⟨as, o1⟩ := Dp.reads I d v1 w1 (by rw [hK]; exact (vv1.mono eN).dp nd) e2
                    obtain ⟨bs, o2⟩ := Dp.reads I d v2 w2 (by rw [hK]; exact (vv2.mono eN).dp nd) e4
                    have z : valueAt [(k1, w2)] k1 = some w2 := by simp [valueAt]
                    have eq := PySem.W.keq_at (A := X.A) o1 o2 sd sd (by show X.A.units + 1 + 64 < cLine; omega)
                    rw [SeqAt.eqv_refl _ (lay_of sd)] at eq
                    exact ⟨.hit (e := true) (b := true) z eq .nil, rfl⟩
          | _ :: _ :: _, g1, _, _, _ => simp at g1
        refine PySem.W.keq_ne (knd := mixKind X.prog X.w) (r := true) ya yb da db (by omega) (fun _ => hits.1) ⟨.bl false, H, I, ?_, q⟩
        rw [hits.2]
        simp
        exact rfl
section
variable {ds : De} {ta tb : TE} {d : PyData}
theorem ev_neS (ha : EvE ta ds d) (hb : EvE tb ds d) (ok : okN d = true) : EvE (tOp rNeS ta tb) ds (.bool false) :=
  ev_opV (v := .bl false) ha hb (fun _ => .bl _) fun x y N H eN rx ry Q q => ⟨N, d, eN, rx, ry, ok, q⟩
end
end DL
set_option Elab.async false
set_option linter.all false
set_option maxRecDepth 100000
set_option maxHeartbeats 2000000
/-! A new table in which one thing is put in another's place, then handed back as it is. -/
namespace DL
open PySem PySem.Spec PyProof.Rows L2 Evl
set_option autoImplicit false
variable [Kn]
/-- where the block began: N0, H0; what stands at S was made since -/
structure WB (N0 H0 N H : Hp) (S : List Addr) : Prop where
  ex : Ex H0 H
  nn : Ex N0 N
  reg : Reg N0 H0 N
  fr : ∀ a ∈ S, H0 a = none
/-- beside the new thing d in slot i: the block hands res back -/
def EvWr (t : TS) (ds : De) (i : Nat) (d res : PyData) : Prop := ∀ (N0 H0 : Hp) (σ : St) (N H : Hp) (S : List Addr), WB N0 H0 N H S → WSt N H σ ds i d S → ∀ D : Ends, (∀ v H' N', Ex H0 H' → Ex N0 N' → Ex N' H' → Reg N0 H0 N' → Rp N' v res → D.rt v H') → t D σ H
section
variable {E : XK} {t u : TS} {ds : De} {te tr tc tn : TE} {i : Nat} {d e res : PyData} {c : TT}
theorem wr_new (h : EvN te ds d) (hi : i < ds.length) (r : EvWr u (ds.set i none) i d res) : EvS E (tSeq (tAsg te (gName i)) u) ds (.rt res) := fun σ N hs D H eN a =>
  h σ N hs H eN _ fun v H' S e1 rt nd f => r N H (σ.set i (some v)) N H' S ⟨e1, Ex.refl N, Reg.refl, f⟩ ⟨hs.setIn i v, eN.trans e1, ⟨v, by rw [List.getElem?_set_self (by rw [hs.len]; exact hi)], rt⟩, nd, fun b hb => ex_none eN (f b hb)⟩ D a
theorem wr_done (h : EvS E u (ds.set i (some d)) (.rt res)) : EvWr u ds i d res := fun N0 H0 σ N H S b w D q => by
  obtain ⟨h1, h2, h3⟩ := w.all
  refine h σ _ h1 D H h2 fun v H' N' e n k g r => q v H' N' (b.ex.trans e) ((b.nn.trans h3).trans n) k (fun x hx => ?_) r
  rcases g x hx with z | z
  · rcases hu_reg z with y | y
    · exact b.reg x y
    · by_cases m : x ∈ S
      · exact .inr (b.fr x m)
      · rw [only_out m] at y
        exact absurd rfl y
  · exact .inr (ex_none b.ex z)
theorem wr_if0 (h : EvB c (ds.set i (some d)) false) (r : EvWr u ds i d res) : EvWr (tSeq (tIfS c t tNext) u) ds i d res := fun N0 H0 σ N H S b w D q => by
  obtain ⟨h1, h2, h3⟩ := w.all
  refine h σ _ h1 H h2 _ fun H' e1 => iteF ?_
  obtain ⟨x, ex, rt⟩ := w.at_
  exact r N0 H0 σ N H' S ⟨b.ex.trans e1, b.nn, b.reg, b.fr⟩ ⟨w.hs, w.eN.trans e1, ⟨x, ex, rt.mono e1⟩, w.nd, w.out⟩ D q
theorem wr_if1 (h : EvB c (ds.set i (some d)) true) (r : EvWr t ds i d res) : EvWr (tSeq (tIfS c t tNext) u) ds i d res := fun N0 H0 σ N H S b w D q => by
  obtain ⟨h1, h2, h3⟩ := w.all
  refine h σ _ h1 H h2 _ fun H' e1 => iteT ?_
  obtain ⟨x, ex, rt⟩ := w.at_
  exact r N0 H0 σ N H' S ⟨b.ex.trans e1, b.nn, b.reg, b.fr⟩ ⟨w.hs, w.eN.trans e1, ⟨x, ex, rt.mono e1⟩, w.nd, w.out⟩ _ q
/-- e in the place of the count at r, c -/
def setC (M : List (List Int)) (r c : Int) (e : PyData) : PyData := .list ((M.map eI).set r.toNat (.list (((M.getD r.toNat []).map PyData.int).set c.toNat e)))
theorem RpAll.put {N : Hp} : ∀ {vs : List V} {ds : List PyData} (k : Nat) {v : V} {d : PyData}, RpAll N vs ds → Rp N v d → RpAll N (vs.set k v) (ds.set k d)
  | _, _, _, _, _, .nil, _ => .nil
  | _, _, 0, _, _, .cons _ r, h => .cons h r
  | _, _, k + 1, _, _, .cons g r, h => .cons g (RpAll.put k r h)
theorem RpAll.of_at {N : Hp} : ∀ {vs : List V} {ds : List PyData}, vs.length = ds.length → (∀ (k : Nat) (v : V) (d : PyData), vs[k]? = some v → ds[k]? = some d → Rp N v d) → RpAll N vs ds
  | [], [], _, _ => .nil
  | v :: vs, d :: ds, hl, h => .cons (h 0 v d rfl rfl) (RpAll.of_at (by simpa using hl) fun k v' d' e1 e2 => h (k + 1) v' d' (by simpa using e1) (by simpa using e2))
  | [], _ :: _, hl, _ => by simp at hl
  | _ :: _, [], hl, _ => by simp at hl
theorem wr_setC {M : List (List Int)} {r c : Int} (h : EvE te ds e) (hr : EvE tr (ds.set i (some (eM M))) (.int r)) (hc : EvE tc (ds.set i (some (eM M))) (.int c)) (r0 : 0 ≤ r) (r1 : r < M.length) (c0 : 0 ≤ c) (c1 : c < (M.getD r.toNat []).length)
    (k : EvS E u (ds.set i (some (setC M r c e))) (.rt res)) : EvWr (tSeq (tAsg te (gSub (tOp (rIxL KK) (tVar i) tr) tc rSetL)) u) ds i (eM M) res := fun N0 H0 σ N H S b w D q => by
  refine h σ N w.hs H w.eN _ fun v H1 N1 e1 n1 k1 g1 q1 => ?_
  have out1 : ∀ a ∈ S, N1 a = none := fun a ha => by
    obtain ⟨x, ex, rt⟩ := w.at_
    exact reg_none g1 (w.out a ha) (rt.there a ha)
  have w1 : WSt N1 H1 σ ds i (eM M) S := by
    obtain ⟨x, ex, rt⟩ := w.at_
    exact ⟨w.hs.mono n1, k1, ⟨x, ex, rt.mono e1⟩, w.nd, out1⟩
  obtain ⟨h1, h2, h3⟩ := w1.all
  obtain ⟨x, ex, rt⟩ := w1.at_
  refine ⟨x, ex, ?_⟩
  refine hr σ _ h1 H1 h2 _ fun y H2 N2 e2 n2 k2 g2 q2 => ?_
  cases q2
  have rt2 := rt.mono e2
  obtain ⟨p, S', hx, hS⟩ : ∃ (p : Addr) (S' : List Addr), x = .ref p ∧ S = p :: S' := by
    cases rt with
    | lst a b => exact ⟨_, _, rfl, rfl⟩
  subst hx
  obtain ⟨rs, eS, hp, hlen, hrow⟩ := mat_at rt2 w.nd
  have hrr : r.toNat < M.length := by omega
  have hrs : r.toNat < rs.length := by omega
  have er : r = ((r.toNat : Nat) : Int) := by omega
  have eM0 : M[r.toNat]? = some (M.getD r.toNat []) := by
    rw [List.getD_eq_getElem?_getD, List.getElem?_eq_getElem hrr]
    rfl
  have hat : atI (rs.map V.ref) r = some (.ref rs[r.toNat]) := by
    have q : (rs.map V.ref)[r.toNat]? = some (V.ref rs[r.toNat]) := by
      rw [List.getElem?_map, List.getElem?_eq_getElem hrs]
      rfl
    have q2 := atI_nat q
    rw [← er] at q2
    exact q2
  refine ⟨p, rs.map V.ref, r, _, rfl, rfl, sq_of hp, hat, ?_⟩
  refine hc σ N2 (h1.mono n2) H2 k2 _ fun y H3 N3 e3 n3 k3 g3 q3 => ?_
  cases q3
  have hq := hrow r.toNat rs[r.toNat] _ (List.getElem?_eq_getElem hrs) eM0
  refine ⟨rs[r.toNat], _, c, c.toNat, rfl, rfl, e3 _ _ hq, ?_, ?_⟩
  · unfold ixN
    rw [if_pos c0, if_pos (by rw [List.length_map]; exact c1)]
  have hmem : rs[r.toNat] ∈ S := by
    rw [eS]
    exact List.mem_cons_of_mem _ (List.getElem_mem hrs)
  have ndS := w.nd
  rw [eS] at ndS
  obtain ⟨np, ndr⟩ := List.nodup_cons.mp ndS
  have eall : Ex H0 (upd H3 rs[r.toNat] (.lst (((M.getD r.toNat []).map V.int).set c.toNat v))) := Ex.mut (((b.ex.trans e1).trans e2).trans e3) (b.fr _ hmem)
  have eN1 : Ex N1 (upd H3 rs[r.toNat] (.lst (((M.getD r.toNat []).map V.int).set c.toNat v))) := Ex.mut ((k1.trans e2).trans e3) (out1 _ hmem)
  generalize hH4 : upd H3 rs[r.toNat] (.lst (((M.getD r.toNat []).map V.int).set c.toNat v)) = H4 at eall eN1
  have at_p : H4 p = some (.lst (rs.map V.ref)) := by
    rw [← hH4, upd_ne (fun z => np (by rw [z]; exact List.getElem_mem hrs))]
    exact e3 _ _ hp
  have l1 : Ex N1 (HU N1 (only H4 S)) := hu_l _ _
  have l2 : Ex (only H4 S) (HU N1 (only H4 S)) := hu_r eN1 (only_ex H4 S)
  have l3 : Ex (HU N1 (only H4 S)) H4 := hu_in eN1 (only_ex H4 S)
  have inS : ∀ (a : Addr) (o : HO), a ∈ S → H4 a = some o → HU N1 (only H4 S) a = some o := fun a o ha ho => l2 a o (by rw [only_in ha]; exact ho)
  have data : Rp (HU N1 (only H4 S)) (.ref p) (setC M r c e) := by
    refine .lst (sq_of (inS p _ (by rw [eS]; exact List.mem_cons_self) at_p)) (RpAll.of_at (by simp [hlen]) fun kk a dd e4 e5 => ?_)
    rw [List.getElem?_map] at e4
    cases ea : rs[kk]? with
    | none =>
      rw [ea] at e4
      cases e4
    | some a' =>
      rw [ea] at e4
      have e4' : V.ref a' = a := Option.some.inj e4
      subst e4'
      have ha' : a' ∈ S := by
        rw [eS]
        exact List.mem_cons_of_mem _ (List.mem_of_getElem? ea)
      by_cases hk : r.toNat = kk
      · subst hk
        have e6 : a' = rs[r.toNat] := by
          rw [List.getElem?_eq_getElem hrs] at ea
          exact (Option.some.inj ea).symm
        rw [List.getElem?_set_self (by rw [List.length_map]; exact hrr)] at e5
        have e7 := Option.some.inj e5
        subst e6 e7
        exact .lst (sq_of (inS _ _ ha' (by rw [← hH4, upd_same]))) (RpAll.put _ (RpAll.ints _) (q1.mono l1))
      · rw [List.getElem?_set_ne hk, List.getElem?_map] at e5
        cases em : M[kk]? with
        | none =>
          rw [em] at e5
          cases e5
        | some row =>
          rw [em] at e5
          have e7 := Option.some.inj e5
          subst e7
          have hne : a' ≠ rs[r.toNat] := fun z => by
            obtain ⟨m1, f1⟩ := List.getElem?_eq_some_iff.mp ea
            exact hk ((List.getElem_inj ndr).mp (by rw [f1, ← z])).symm
          exact .lst (sq_of (inS _ _ ha' (by rw [← hH4, upd_ne hne]; exact e3 _ _ (hrow kk a' row ea em)))) (RpAll.ints row)
  refine k σ _ (((w.hs.mono n1).mono l1).put ex data) D H4 l3 fun v' H' N' e n kk g rr => q v' H' N' (eall.trans e) (((b.nn.trans n1).trans l1).trans n) kk (fun y hy => ?_) rr
  rcases g y hy with z | z
  · rcases hu_reg z with o | o
    · exact (g1 y o).elim (b.reg y) fun z2 => .inr (ex_none b.ex z2)
    · by_cases m : y ∈ S
      · exact .inr (b.fr y m)
      · rw [only_out m] at o
        exact absurd rfl o
  · exact .inr (ex_none eall z)
end
end DL
namespace DL
open PySem PySem.Spec PyProof.Rows L2 Evl
variable [Kn]
section
variable {E : XK} {u : TS} {ds : De} {tr tr2 tn : TE} {i : Nat} {e res : PyData} {R : List PyData → PyData → Prop} {Ec : XK}
/-- x[r] = f(x[r], n): a row's place taken by what f makes of it -/
theorem wr_setR {M : List (List Int)} {r n : Int} (hr : EvE tr (ds.set i (some (eM M))) (.int r)) (hr2 : EvE tr2 (ds.set i (some (eM M))) (.int r)) (hn : EvE tn (ds.set i (some (eM M))) (.int n)) (r0 : 0 ≤ r) (r1 : r < M.length) (hR : R [eI (M.getD r.toNat []), .int n] e)
    (k : EvS E u (ds.set i (some (.list ((M.map eI).set r.toNat e)))) (.rt res)) : EvWr (tSeq (tAsg (tCall (spF R) [] Ec (tCons (tOp (rIxL KK) (tVar i) tr) (tCons tn tNil))) (gSub (tVar i) tr2 rSetL)) u) ds i (eM M) res := fun N0 H0 σ N H S b w D q => by
  obtain ⟨h1, h2, h3⟩ := w.all
  obtain ⟨x, ex, rt⟩ := w.at_
  obtain ⟨p, S', hx, hS⟩ : ∃ (p : Addr) (S' : List Addr), x = .ref p ∧ S = p :: S' := by
    cases rt with
    | lst a b => exact ⟨_, _, rfl, rfl⟩
  subst hx
  have ndS := w.nd
  refine ⟨_, ex, hr σ _ h1 H h2 _ fun y H1 N1 e1 n1 k1 g1 q1 => ?_⟩
  cases q1
  have rt1 := rt.mono e1
  obtain ⟨rs, eS, hp, hlen, hrow⟩ := mat_at rt1 w.nd
  rw [eS] at ndS
  obtain ⟨np, ndr⟩ := List.nodup_cons.mp ndS
  have hrr : r.toNat < M.length := by omega
  have hrs : r.toNat < rs.length := by omega
  have er : r = ((r.toNat : Nat) : Int) := by omega
  have eM0 : M[r.toNat]? = some (M.getD r.toNat []) := by
    rw [List.getD_eq_getElem?_getD, List.getElem?_eq_getElem hrr]
    rfl
  have hat : atI (rs.map V.ref) r = some (.ref rs[r.toNat]) := by
    have q : (rs.map V.ref)[r.toNat]? = some (V.ref rs[r.toNat]) := by
      rw [List.getElem?_map, List.getElem?_eq_getElem hrs]
      rfl
    have q2 := atI_nat q
    rw [← er] at q2
    exact q2
  refine ⟨p, rs.map V.ref, r, _, rfl, rfl, sq_of hp, hat, ?_⟩
  refine hn σ N1 (h1.mono n1) H1 k1 _ fun y H2 N2 e2 n2 k2 g2 q2 => ?_
  cases q2
  have hq := e2 _ _ (hrow r.toNat rs[r.toNat] _ (List.getElem?_eq_getElem hrs) eM0)
  have hmem : rs[r.toNat] ∈ S := by
    rw [eS]
    exact List.mem_cons_of_mem _ (List.getElem_mem hrs)
  have hpS : p ∈ S := by
    rw [eS]
    exact List.mem_cons_self
  have hpq : p ≠ rs[r.toNat] := fun z => np (by rw [z]; exact List.getElem_mem hrs)
  have eNH2 : Ex N H2 := (w.eN.trans e1).trans e2
  -- what the call may know: the row, not the table
  have c1 : Ex N (HU N (only H2 [rs[r.toNat]])) := hu_l _ _
  have c2 : Ex (HU N (only H2 [rs[r.toNat]])) H2 := hu_in eNH2 (only_ex H2 _)
  have c3 : Ex (only H2 [rs[r.toNat]]) (HU N (only H2 [rs[r.toNat]])) := hu_r eNH2 (only_ex H2 _)
  have c4 : HU N (only H2 [rs[r.toNat]]) p = none := by
    cases z : HU N (only H2 [rs[r.toNat]]) p with
    | none => rfl
    | some o =>
      rcases hu_reg (show HU N (only H2 [rs[r.toNat]]) p ≠ none by rw [z]; intro y; cases y) with y | y
      · exact absurd (w.out p hpS) y
      · rw [only_out (by simpa using hpq)] at y
        exact absurd rfl y
  refine ⟨HU N (only H2 [rs[r.toNat]]), [eI (M.getD r.toNat []), .int n], e, c2, ?_, hR, fun v H3 N3 e3 n3 k3 g3 q3 => ?_⟩
  · exact .cons (.lst (sq_of (c3 _ _ (by rw [only_in (by simp)]; exact hq))) (RpAll.ints _)) (.cons (.int n) .nil)
  have hp3 : H3 p = some (.lst (rs.map V.ref)) := e3 _ _ (e2 _ _ hp)
  have f3 : N3 p = none := reg_none g3 c4 (by rw [e2 _ _ hp]; intro z; cases z)
  refine ⟨.ref p, ex, ?_⟩
  -- the index, once more
  have hold3 : Holds (HU N3 (only H3 S)) σ (ds.set i (some (eM M))) ∧ Ex (HU N3 (only H3 S)) H3 := by
    have rt3 := (rt1.mono e2).mono e3
    obtain ⟨a1, a2, a3⟩ := absorb k3 rt3
    exact ⟨(((w.hs.mono c1).mono n3).mono a1).put ex a3, a2⟩
  refine hr2 σ _ hold3.1 H3 hold3.2 _ fun y H4 N4 e4 n4 k4 g4 q4 => ?_
  cases q4
  refine ⟨p, rs.map V.ref, r, r.toNat, rfl, rfl, e4 _ _ hp3, ?_, ?_⟩
  · unfold ixN
    rw [if_pos r0, if_pos (by rw [List.length_map]; omega)]
  have eall : Ex H0 (upd H4 p (.lst ((rs.map V.ref).set r.toNat v))) := Ex.mut ((((b.ex.trans e1).trans e2).trans e3).trans e4) (b.fr _ hpS)
  have eN3 : Ex N3 (upd H4 p (.lst ((rs.map V.ref).set r.toNat v))) := Ex.mut (k3.trans e4) f3
  have row5 : ∀ (kk : Nat) (a : Addr) (row : List Int), rs[kk]? = some a → M[kk]? = some row → upd H4 p (.lst ((rs.map V.ref).set r.toNat v)) a = some (.lst (row.map V.int)) := fun kk a row ea em => by
    rw [upd_ne (fun z => np (by rw [← z]; exact List.mem_of_getElem? ea))]
    exact e4 _ _ (e3 _ _ (e2 _ _ (hrow kk a row ea em)))
  have p5 : upd H4 p (.lst ((rs.map V.ref).set r.toNat v)) p = some (.lst ((rs.map V.ref).set r.toNat v)) := upd_same
  generalize upd H4 p (.lst ((rs.map V.ref).set r.toNat v)) = H5 at eall eN3 row5 p5
  have l1 : Ex N3 (HU N3 (only H5 S)) := hu_l _ _
  have l2 : Ex (only H5 S) (HU N3 (only H5 S)) := hu_r eN3 (only_ex H5 S)
  have l3 : Ex (HU N3 (only H5 S)) H5 := hu_in eN3 (only_ex H5 S)
  have inS : ∀ (a : Addr) (o : HO), a ∈ S → H5 a = some o → HU N3 (only H5 S) a = some o := fun a o ha ho => l2 a o (by rw [only_in ha]; exact ho)
  have data : Rp (HU N3 (only H5 S)) (.ref p) (.list ((M.map eI).set r.toNat e)) := by
    refine .lst (sq_of (inS p _ hpS p5)) (RpAll.put _ (RpAll.of_at (by simp [hlen]) fun kk a dd e5 e6 => ?_) (q3.mono l1))
    rw [List.getElem?_map] at e5
    cases ea : rs[kk]? with
    | none =>
      rw [ea] at e5
      cases e5
    | some a' =>
      rw [ea] at e5
      have e5' : V.ref a' = a := Option.some.inj e5
      subst e5'
      rw [List.getElem?_map] at e6
      cases em : M[kk]? with
      | none =>
        rw [em] at e6
        cases e6
      | some row =>
        rw [em] at e6
        have e7 := Option.some.inj e6
        subst e7
        exact .lst (sq_of (inS _ _ (by rw [eS]; exact List.mem_cons_of_mem _ (List.mem_of_getElem? ea)) (row5 kk a' row ea em))) (RpAll.ints row)
  refine k σ _ ((((w.hs.mono c1).mono n3).mono l1).put ex data) D H5 l3 fun v' H' N' e6 n6 kk g6 rr => q v' H' N' (eall.trans e6) ((((b.nn.trans c1).trans n3).trans l1).trans n6) kk (fun y hy => ?_) rr
  rcases g6 y hy with z | z
  · rcases hu_reg z with o | o
    · rcases g3 y o with o2 | o2
      · rcases hu_reg o2 with o3 | o3
        · exact b.reg y o3
        · by_cases m : y ∈ [rs[r.toNat]]
          · have m2 : y = rs[r.toNat] := by simpa using m
            rw [m2]
            exact .inr (b.fr _ hmem)
          · rw [only_out m] at o3
            exact absurd rfl o3
      · exact .inr (ex_none ((b.ex.trans e1).trans e2) o2)
    · by_cases m : y ∈ S
      · exact .inr (b.fr y m)
      · rw [only_out m] at o
        exact absurd rfl o
  · exact .inr (ex_none eall z)
end
end DL
namespace DL
open PySem L2
theorem room_far {k : Nat} {A : Around} (r : Room k A) : A.units + 100 < cLine := by
  have := r.un
  omega
end DL
set_option Elab.async false
set_option linter.all false
set_option maxRecDepth 100000
set_option maxHeartbeats 4000000
namespace Vl
open PySem PySem.Spec PyProof.Rows L2 Evl DL
set_option autoImplicit false
variable [Kn]
def topS (i : Nat) : Stmt := PySem.Challenge.pw_veiled_k02_tables_known.main.body.getD i (.Pass ⟨0, 0, 0, 0⟩)
abbrev s_is_whole : Stmt := topS 11
abbrev n_is_whole : List Str := ["thing", "least"]
theorem sc_is_whole : FnScope n_is_whole ["thing", "least"] (defScope s_is_whole) := ⟨rfl, rfl, rfl, by decide +kernel, rfl, by decide +kernel, by decide +kernel⟩
abbrev s_is_grid : Stmt := topS 12
abbrev n_is_grid : List Str := ["thing", "many", "row"]
theorem sc_is_grid : FnScope n_is_grid ["thing"] (defScope s_is_grid) := ⟨rfl, rfl, rfl, by decide +kernel, rfl, by decide +kernel, by decide +kernel⟩
abbrev s_is_table : Stmt := topS 13
abbrev n_is_table : List Str := ["thing", "row", "count"]
theorem sc_is_table : FnScope n_is_table ["thing"] (defScope s_is_table) := ⟨rfl, rfl, rfl, by decide +kernel, rfl, by decide +kernel, by decide +kernel⟩
abbrev s_need_table : Stmt := topS 14
abbrev n_need_table : List Str := ["thing"]
theorem sc_need_table : FnScope n_need_table ["thing"] (defScope s_need_table) := ⟨rfl, rfl, rfl, by decide +kernel, rfl, by decide +kernel, by decide +kernel⟩
abbrev s_need_number : Stmt := topS 15
abbrev n_need_number : List Str := ["thing"]
theorem sc_need_number : FnScope n_need_number ["thing"] (defScope s_need_number) := ⟨rfl, rfl, rfl, by decide +kernel, rfl, by decide +kernel, by decide +kernel⟩
abbrev s_row_sums : Stmt := topS 16
abbrev n_row_sums : List Str := ["table", "row"]
theorem sc_row_sums : FnScope n_row_sums ["table"] (defScope s_row_sums) := ⟨rfl, rfl, rfl, by decide +kernel, rfl, by decide +kernel, by decide +kernel⟩
abbrev s_column_sums : Stmt := topS 17
abbrev n_column_sums : List Str := ["table", "column"]
theorem sc_column_sums : FnScope n_column_sums ["table"] (defScope s_column_sums) := ⟨rfl, rfl, rfl, by decide +kernel, rfl, by decide +kernel, by decide +kernel⟩
abbrev s_small_places : Stmt := topS 18
abbrev n_small_places : List Str := ["table", "bound", "at", "row", "across", "count"]
theorem sc_small_places : FnScope n_small_places ["table", "bound"] (defScope s_small_places) := ⟨rfl, rfl, rfl, by decide +kernel, rfl, by decide +kernel, by decide +kernel⟩
abbrev s__law_mix : Stmt := topS 20
abbrev n__law_mix : List Str := ["_law_script", "_law_k", "_law_cell", "_law_number"]
theorem sc__law_mix : FnScope n__law_mix ["_law_script", "_law_k"] (defScope s__law_mix) := ⟨rfl, rfl, rfl, by decide +kernel, rfl, by decide +kernel, by decide +kernel⟩
abbrev s__law_count : Stmt := topS 21
abbrev n__law_count : List Str := ["_law_script", "_law_k", "_law_number", "_law_more", "_law_some"]
theorem sc__law_count : FnScope n__law_count ["_law_script", "_law_k"] (defScope s__law_count) := ⟨rfl, rfl, rfl, by decide +kernel, rfl, by decide +kernel, by decide +kernel⟩
abbrev s__law_table : Stmt := topS 22
abbrev n__law_table : List Str := ["_law_script", "_law_high", "_law_wide", "_law_table_here", "_law_row_here", "_law_column"]
theorem sc__law_table : FnScope n__law_table ["_law_script", "_law_high", "_law_wide"] (defScope s__law_table) := ⟨rfl, rfl, rfl, by decide +kernel, rfl, by decide +kernel, by decide +kernel⟩
abbrev s__law_odd : Stmt := topS 23
abbrev n__law_odd : List Str := ["_law_number", "_law_some"]
theorem sc__law_odd : FnScope n__law_odd ["_law_number"] (defScope s__law_odd) := ⟨rfl, rfl, rfl, by decide +kernel, rfl, by decide +kernel, by decide +kernel⟩
abbrev s__law_row : Stmt := topS 24
abbrev n__law_row : List Str := ["_law_row_here", "_law_number"]
theorem sc__law_row : FnScope n__law_row ["_law_row_here", "_law_number"] (defScope s__law_row) := ⟨rfl, rfl, rfl, by decide +kernel, rfl, by decide +kernel, by decide +kernel⟩
abbrev s__law_other : Stmt := topS 25
abbrev n__law_other : List Str := ["_law_table_here", "_law_number", "_law_some"]
theorem sc__law_other : FnScope n__law_other ["_law_table_here", "_law_number"] (defScope s__law_other) := ⟨rfl, rfl, rfl, by decide +kernel, rfl, by decide +kernel, by decide +kernel⟩
abbrev s__law_spoilt : Stmt := topS 26
abbrev n__law_spoilt : List Str := ["_law_script", "_law_table_here", "_law_way", "_law_row_here", "_law_number", "_law_made", "_law_one"]
theorem sc__law_spoilt : FnScope n__law_spoilt ["_law_script", "_law_table_here"] (defScope s__law_spoilt) := ⟨rfl, rfl, rfl, by decide +kernel, rfl, by decide +kernel, by decide +kernel⟩
abbrev s__law_is_table : Stmt := topS 27
abbrev n__law_is_table : List Str := ["_law_thing", "_law_row_here", "_law_count_here"]
theorem sc__law_is_table : FnScope n__law_is_table ["_law_thing"] (defScope s__law_is_table) := ⟨rfl, rfl, rfl, by decide +kernel, rfl, by decide +kernel, by decide +kernel⟩
abbrev s__law_alone : Stmt := topS 28
abbrev n__law_alone : List Str := ["_law_e", "_law_others"]
theorem sc__law_alone : FnScope n__law_alone ["_law_e"] (defScope s__law_alone) := ⟨rfl, rfl, rfl, by decide +kernel, rfl, by decide +kernel, by decide +kernel⟩
abbrev s__law_refused : Stmt := topS 29
abbrev n__law_refused : List Str := ["_law_way", "_law_thing", "_law_e"]
theorem sc__law_refused : FnScope n__law_refused ["_law_way", "_law_thing"] (defScope s__law_refused) := ⟨rfl, rfl, rfl, by decide +kernel, rfl, by decide +kernel, by decide +kernel⟩
abbrev s_law : Stmt := topS 30
abbrev n_law : List Str := ["_law_script", "_law_table_here", "_law_thing", "_law_due", "_law_found", "_law_way"]
theorem sc_law : FnScope n_law ["_law_script"] (defScope s_law) := ⟨rfl, rfl, rfl, by decide +kernel, rfl, by decide +kernel, by decide +kernel⟩
/-- a def of the text -/
structure Dfn (K : PySem.W.Frag) (mg : Str → Option Value) (x : Str) (st : Stmt) (ps : List Str) (f : Addr) (fd : FuncData) : Prop where
  F : Fun K x x st f fd
  b : L2.Binds K fd ps []
  g : mg x = some (.ref f)
/-- the names that are read beside the defs -/
structure Txt (mg : Str → Option Value) (t_MOST : Tok) (c_BadNumber : Addr) (c_BadPlace : Addr) (c_BadTable : Addr) (c_BadView : Addr) (c_NoTable : Addr) (c_NotHidden : Addr) (c_VeilError : Addr) : Prop where
  no_ValueError : mg "ValueError" = none
  no_all : mg "all" = none
  no_any : mg "any" = none
  no_bool : mg "bool" = none
  no_enumerate : mg "enumerate" = none
  no_int : mg "int" = none
  no_isinstance : mg "isinstance" = none
  no_len : mg "len" = none
  no_list : mg "list" = none
  no_range : mg "range" = none
  no_sum : mg "sum" = none
  no_tuple : mg "tuple" = none
  no_type : mg "type" = none
  no_zip : mg "zip" = none
  mg_MOST : mg "MOST" = some (.int 8 t_MOST)
  mg_BadNumber : mg "BadNumber" = some (.ref c_BadNumber)
  mg_BadPlace : mg "BadPlace" = some (.ref c_BadPlace)
  mg_BadTable : mg "BadTable" = some (.ref c_BadTable)
  mg_BadView : mg "BadView" = some (.ref c_BadView)
  mg_NoTable : mg "NoTable" = some (.ref c_NoTable)
  mg_NotHidden : mg "NotHidden" = some (.ref c_NotHidden)
  mg_VeilError : mg "VeilError" = some (.ref c_VeilError)
  e_BadTable : ErrC c_BadTable
  e_BadNumber : ErrC c_BadNumber
  i_BadTable : ExcC KK c_BadTable
  m_1 : PySem.W.exmOne KK (.ref c_BadTable) (.ref c_VeilError) = some true
  k_1 : PySem.W.kitOne KK (.ref c_BadTable) (.ref c_BadTable) = some true
  k_v : PySem.W.kitOne KK (.ref c_BadTable) (.type "ValueError") = some true
  k_n : PySem.W.kitAny KK (.ref c_BadTable) [.ref c_BadNumber, .ref c_BadPlace, .ref c_BadView, .ref c_NoTable, .ref c_NotHidden] = some false

/-! ### the mathematics -/
def wholeB (t : PyData) (l : Int) : Bool := match t with
  | .int i => decide (l ≤ i)
  | _ => false
def lenD : PyData → Nat
  | .list ds => ds.length
  | _ => 0
def isL (d : PyData) : Bool := decide (tyName d = "list")
def gridB : PyData → Bool
  | .list rows => (decide (1 ≤ rows.length) && decide (rows.length ≤ 8)) && rows.all isL && ((decide (1 ≤ lenD (rows.headD .none)) && decide (lenD (rows.headD .none) ≤ 8)) && rows.all fun r => decide (lenD r = lenD (rows.headD .none)))
  | _ => false
def cellsD : PyData → List PyData
  | .list ds => ds
  | _ => []
def tabB (d : PyData) : Bool := gridB d && ((cellsD d).flatMap cellsD).all fun c => wholeB c 0
def mix (ns : List Int) (k : Int) : Int :=
  let cell := if 0 < ns.length then ns.getD (k % (ns.length : Int)).toNat 0 + k / (ns.length : Int) else 0
  let n := (cell + 7919 * (k + 1)) * 48271 % 2147483647
  n * n % 2147483629
theorem mix_lo (ns : List Int) (k : Int) : 0 ≤ mix ns k := Int.emod_nonneg _ (by decide)
theorem mix_hi (ns : List Int) (k : Int) : mix ns k < 2147483629 := Int.emod_lt_of_pos _ (by decide)
def count (ns : List Int) (k : Int) : Int :=
  let m := mix ns k / 8
  if mix ns k % 8 = 0 then 0 else [m % 3, m % 5, m % 12, ([0, 1, 2, 40] : List Int).getD (m % 4).toNat 0, m % 1000, m * 10 ^ 11 + m % 7].getD (mix ns 2 % 6).toNat 0
def tabl (ns : List Int) (h w : Int) : List (List Int) := (List.range h.toNat).map fun (r : Nat) => (List.range w.toNat).map fun (c : Nat) => count ns (8 + w * (r : Int) + (c : Int))
def colN (M : List (List Int)) (c : Nat) : List Int := M.map fun r => r.getD c 0
def rowS (M : List (List Int)) : List Int := M.map List.sum
def colS (M : List (List Int)) (w : Nat) : List Int := (List.range w).map fun c => (colN M c).sum
/-- a table of ints -/
structure Tab (M : List (List Int)) (w : Nat) : Prop where
  h1 : 1 ≤ M.length
  h8 : M.length ≤ 8
  w1 : 1 ≤ w
  w8 : w ≤ 8
  len : ∀ r ∈ M, r.length = w
  pos : ∀ r ∈ M, ∀ x ∈ r, 0 ≤ x
theorem head_len {M : List (List Int)} {w : Nat} (t : Tab M w) : lenD ((M.map eI).headD .none) = w := by
  cases M with
  | nil => have := t.h1; simp at this
  | cons r M =>
    show (r.map PyData.int).length = w
    rw [List.length_map]
    exact t.len r List.mem_cons_self
theorem grid_of {M : List (List Int)} {w : Nat} (t : Tab M w) : gridB (eM M) = true := by
  show ((decide (1 ≤ (M.map eI).length) && decide ((M.map eI).length ≤ 8)) && (M.map eI).all isL && ((decide (1 ≤ lenD ((M.map eI).headD .none)) && decide (lenD ((M.map eI).headD .none) ≤ 8)) && (M.map eI).all fun r => decide (lenD r = lenD ((M.map eI).headD .none)))) = true
  rw [head_len t, List.length_map, decide_eq_true t.h1, decide_eq_true t.h8, decide_eq_true t.w1, decide_eq_true t.w8, List.all_map, List.all_map]
  have a1 : M.all (isL ∘ eI) = true := List.all_eq_true.mpr fun r _ => rfl
  have a2 : (M.all ((fun r => decide (lenD r = w)) ∘ eI)) = true := List.all_eq_true.mpr fun r hr => by
    show decide ((r.map PyData.int).length = w) = true
    rw [List.length_map, t.len r hr]
    exact decide_eq_true rfl
  rw [a1, a2]
  rfl
theorem tab_of {M : List (List Int)} {w : Nat} (t : Tab M w) : tabB (eM M) = true := by
  unfold tabB
  rw [grid_of t, Bool.true_and]
  refine List.all_eq_true.mpr fun c hc => ?_
  obtain ⟨r, hr, hc⟩ := List.mem_flatMap.mp hc
  obtain ⟨row, hrow, rfl⟩ := List.mem_map.mp (show r ∈ M.map eI from hr)
  obtain ⟨x, hx, rfl⟩ := List.mem_map.mp (show c ∈ row.map PyData.int from hc)
  exact decide_eq_true (t.pos row hrow x hx)
theorem tab_len {M : List (List Int)} : (cellsD (eM M)).length = M.length := List.length_map ..
theorem count_nn (ns : List Int) (k : Int) : 0 ≤ count ns k := by
  unfold count
  have h0 := mix_lo ns k
  have hm : 0 ≤ mix ns k / 8 := Int.ediv_nonneg h0 (by decide)
  generalize mix ns k / 8 = m at hm
  by_cases h : mix ns k % 8 = 0
  · simp only [h, if_true]
    exact Int.le_refl _
  · simp only [h, if_false]
    have a1 : 0 ≤ m % 3 := Int.emod_nonneg _ (by decide)
    have a2 : 0 ≤ m % 5 := Int.emod_nonneg _ (by decide)
    have a3 : 0 ≤ m % 12 := Int.emod_nonneg _ (by decide)
    have a5 : 0 ≤ m % 1000 := Int.emod_nonneg _ (by decide)
    have a6 : 0 ≤ m * 10 ^ 11 + m % 7 := by
      have := Int.emod_nonneg m (show (7 : Int) ≠ 0 by decide)
      have : 0 ≤ m * 10 ^ 11 := Int.mul_nonneg hm (by decide)
      omega
    have a4 : ∀ i : Nat, 0 ≤ ([0, 1, 2, 40] : List Int).getD i 0 := fun i => by
      match i with
      | 0 => decide
      | 1 => decide
      | 2 => decide
      | 3 => decide
      | n + 4 => simp
    match (mix ns 2 % 6).toNat with
    | 0 => exact a1
    | 1 => exact a2
    | 2 => exact a3
    | 3 => exact a4 _
    | 4 => exact a5
    | 5 => exact a6
    | n + 6 => simp
theorem tabl_tab (ns : List Int) {h w : Int} (h1 : 1 ≤ h) (h8 : h ≤ 8) (w1 : 1 ≤ w) (w8 : w ≤ 8) : Tab (tabl ns h w) w.toNat where
  h1 := by simp [tabl]; omega
  h8 := by simp [tabl]; omega
  w1 := by omega
  w8 := by omega
  len := fun r hr => by
    obtain ⟨i, _, rfl⟩ := List.mem_map.mp hr
    simp
  pos := fun r hr x hx => by
    obtain ⟨i, _, rfl⟩ := List.mem_map.mp hr
    obtain ⟨j, _, rfl⟩ := List.mem_map.mp hx
    exact count_nn _ _
theorem grid_parts {rows : List PyData} (h : gridB (.list rows) = true) : 1 ≤ rows.length ∧ rows.length ≤ 8 ∧ rows.all isL = true ∧ ∀ r ∈ rows, (cellsD r).length ≤ 8 := by
  unfold gridB at h
  simp only [Bool.and_eq_true, decide_eq_true_eq] at h
  obtain ⟨⟨⟨h1, h2⟩, h3⟩, ⟨h4, h5⟩, h6⟩ := h
  refine ⟨h1, h2, h3, fun r hr => ?_⟩
  have e := of_decide_eq_true (List.all_eq_true.mp h6 r hr)
  have e2 : (cellsD r).length = lenD r := by cases r <;> rfl
  omega
theorem flat_le {A B : Type} {f : A → List B} {k : Nat} : ∀ l : List A, (∀ x ∈ l, (f x).length ≤ k) → (l.flatMap f).length ≤ l.length * k
  | [], _ => by simp
  | x :: l, h => by
    have ih := flat_le (f := f) (k := k) l fun y hy => h y (List.mem_cons_of_mem _ hy)
    have h1 := h x List.mem_cons_self
    rw [List.flatMap_cons, List.length_append, List.length_cons, Nat.succ_mul]
    omega
theorem grid_few {rows : List PyData} (h : gridB (.list rows) = true) : (rows.flatMap cellsD).length < 100000 := by
  obtain ⟨h1, h2, h3, h4⟩ := grid_parts h
  have := flat_le rows h4
  omega
theorem cut_take (xs : List PyData) (c : Int) (h : 0 ≤ c) : DL.cutD xs none (some c) = xs.take c.toNat := by
  unfold DL.cutD
  have e : c = ((c.toNat : Nat) : Int) := by omega
  rw [HT.sIx_none]
  rw [e, HT.sIx_nat, Int.toNat_natCast]
  simp [List.take_eq_take_iff]
theorem cut_drop (xs : List PyData) (c : Int) (h : 0 ≤ c) : DL.cutD xs (some c) none = xs.drop c.toNat := by
  unfold DL.cutD
  have e : c = ((c.toNat : Nat) : Int) := by omega
  rw [HT.sIx_none]
  rw [e, HT.sIx_nat, Int.toNat_natCast]
  by_cases z : c.toNat ≤ xs.length
  · rw [Nat.min_eq_left z]
    exact List.take_of_length_le (by simp)
  · rw [Nat.min_eq_right (by omega), List.drop_length, List.drop_of_length_le (by omega)]
    simp
theorem spliced_set (xs : List Int) (c x : Int) (h0 : 0 ≤ c) (h1 : c < xs.length) : DL.cutD (xs.map PyData.int) none (some c) ++ [PyData.int x] ++ DL.cutD (xs.map PyData.int) (some (c + 1)) none = (xs.set c.toNat x).map PyData.int := by
  rw [cut_take _ _ h0, cut_drop _ _ (by omega), List.set_eq_take_append_cons_drop, if_pos (by omega), List.map_append, List.map_cons, List.map_take, List.map_drop, show (c + 1).toNat = c.toNat + 1 by omega]
  simp
theorem sum_set1 : ∀ (l : List Int) (j : Nat) (y : Int), j < l.length → (l.set j y).sum = l.sum - l.getD j 0 + y
  | [], _, _, h => by simp at h
  | a :: l, 0, y, _ => by
    simp only [List.set_cons_zero, List.sum_cons, List.getD_cons_zero]
    omega
  | a :: l, j + 1, y, h => by
    have ih := sum_set1 l j y (by simpa using h)
    simp only [List.set_cons_succ, List.sum_cons, List.getD_cons_succ]
    omega
section
variable {M : List (List Int)} {w : Nat} {r c z : Int}
theorem setM_tab (t : Tab M w) (h1 : 0 ≤ r) (h2 : r < M.length) (z0 : 0 ≤ z) : Tab (setM M r c z) w where
  h1 := by rw [setM, List.length_set]; exact t.h1
  h8 := by rw [setM, List.length_set]; exact t.h8
  w1 := t.w1
  w8 := t.w8
  len := fun row hr => by
    rcases List.mem_or_eq_of_mem_set hr with h | h
    · exact t.len row h
    · rw [h, List.length_set]
      refine t.len _ ?_
      rw [List.getD_eq_getElem?_getD, List.getElem?_eq_getElem (by omega : r.toNat < M.length)]
      exact List.getElem_mem _
  pos := fun row hr x hx => by
    rcases List.mem_or_eq_of_mem_set hr with h | h
    · exact t.pos row h x hx
    · rw [h] at hx
      rcases List.mem_or_eq_of_mem_set hx with g | g
      · refine t.pos _ ?_ x g
        rw [List.getD_eq_getElem?_getD, List.getElem?_eq_getElem (by omega : r.toNat < M.length)]
        exact List.getElem_mem _
      · rw [g]
        exact z0
theorem row_at (h2 : r.toNat < M.length) : M[r.toNat]? = some (M.getD r.toNat []) := by
  rw [List.getD_eq_getElem?_getD, List.getElem?_eq_getElem h2]
  rfl
theorem rowS_set (h2 : r.toNat < M.length) (hc : c.toNat < (M.getD r.toNat []).length) : rowS (setM M r c z) = (rowS M).set r.toNat ((rowS M).getD r.toNat 0 - (M.getD r.toNat []).getD c.toNat 0 + z) := by
  unfold rowS setM
  rw [List.map_set, sum_set1 _ _ _ hc]
  congr 1
  rw [show (M.map List.sum).getD r.toNat 0 = (M.getD r.toNat []).sum by
    rw [List.getD_eq_getElem?_getD, List.getElem?_map, row_at h2]
    rfl]
theorem colN_set (h2 : r.toNat < M.length) (hc : c.toNat < (M.getD r.toNat []).length) (j : Nat) : colN (setM M r c z) j = if j = c.toNat then (colN M j).set r.toNat z else colN M j := by
  unfold colN setM
  rw [List.map_set]
  by_cases e : j = c.toNat
  · subst e
    rw [if_pos rfl]
    congr 1
    rw [List.getD_eq_getElem?_getD, List.getElem?_set_self hc]
    rfl
  · rw [if_neg e]
    refine List.ext_getElem? fun k => ?_
    by_cases g : r.toNat = k
    · subst g
      rw [List.getElem?_set_self (by rw [List.length_map]; exact h2), List.getElem?_map, row_at h2]
      show some _ = some _
      rw [List.getD_eq_getElem?_getD, List.getElem?_set_ne (fun q => e q.symm)]
      rfl
    · rw [List.getElem?_set_ne g]
theorem colS_set (t : Tab M w) (h2 : r.toNat < M.length) (hc : c.toNat < w) : colS (setM M r c z) w = (colS M w).set c.toNat ((colS M w).getD c.toNat 0 - (M.getD r.toNat []).getD c.toNat 0 + z) := by
  have hlen : (M.getD r.toNat []).length = w := t.len _ (by
    rw [List.getD_eq_getElem?_getD, List.getElem?_eq_getElem h2]
    exact List.getElem_mem _)
  have hat : (colS M w).getD c.toNat 0 = (colN M c.toNat).sum := by
    unfold colS
    rw [List.getD_eq_getElem?_getD, List.getElem?_map, List.getElem?_range hc]
    rfl
  have hcol : (colN M c.toNat).getD r.toNat 0 = (M.getD r.toNat []).getD c.toNat 0 := by
    unfold colN
    rw [List.getD_eq_getElem?_getD, List.getElem?_map, row_at h2]
    rfl
  rw [hat]
  refine List.ext_getElem? fun k => ?_
  by_cases hk : k < w
  · unfold colS
    rw [List.getElem?_map, List.getElem?_range hk]
    show some ((colN (setM M r c z) k).sum) = _
    rw [colN_set h2 (by omega)]
    by_cases e : k = c.toNat
    · subst e
      rw [if_pos rfl, List.getElem?_set_self (by simpa using hk), sum_set1 _ _ _ (by simp [colN]; exact h2), hcol]
    · rw [if_neg e, List.getElem?_set_ne (fun q => e q.symm), List.getElem?_map, List.getElem?_range hk]
      rfl
  · rw [List.getElem?_eq_none (by simp [colS]; omega), List.getElem?_eq_none (by simp [colS]; omega)]
end
def spLaw : Sp := fun vs H Q _ => ∃ (a : Addr) (ns : List Int), vs = [.ref a] ∧ SqL KK H a (ns.map V.int) ∧ ns.length ≤ 63 ∧ ∀ H', Q (.bl true) H'
def R_is_whole (es : List PyData) (d : PyData) : Prop := ∃ (t : PyData) (l : Int), es = [t, .int l] ∧ d = .bool (wholeB t l)
def R_is_grid (es : List PyData) (d : PyData) : Prop := ∃ t : PyData, es = [t] ∧ (cellsD t).length < 100000 ∧ d = .bool (gridB t)
def R_is_table (es : List PyData) (d : PyData) : Prop := ∃ t : PyData, es = [t] ∧ (cellsD t).length < 100000 ∧ d = .bool (tabB t)
def R__law_mix (es : List PyData) (d : PyData) : Prop := ∃ (ns : List Int) (k : Int), es = [eI ns, .int k] ∧ ns.length ≤ 63 ∧ d = .int (mix ns k)
def R__law_count (es : List PyData) (d : PyData) : Prop := ∃ (ns : List Int) (k : Int), es = [eI ns, .int k] ∧ ns.length ≤ 63 ∧ d = .int (count ns k)
def R__law_table (es : List PyData) (d : PyData) : Prop := ∃ (ns : List Int) (h w : Int), es = [eI ns, .int h, .int w] ∧ ns.length ≤ 63 ∧ (1 ≤ h ∧ h ≤ 8) ∧ (1 ≤ w ∧ w ≤ 8) ∧ d = eM (tabl ns h w)

theorem at_getD {ts : List PyData} {k : Int} (h0 : 0 ≤ k) (h1 : k < ts.length) : atI ts k = some (ts.getD k.toNat .none) := by
  have e : k = ((k.toNat : Nat) : Int) := by omega
  have h2 : k.toNat < ts.length := by omega
  have q : ts[k.toNat]? = some (ts.getD k.toNat .none) := by
    rw [List.getD_eq_getElem?_getD, List.getElem?_eq_getElem h2]
    rfl
  have q2 := atI_nat q
  rw [← e] at q2
  exact q2
def oddL : List PyData := [.bool true, .bool false, .none, .int (-1), .str "1", .list [.int 1], .tuple [.int 1], .dict [], .str "", .list [], .int (0 - 10 ^ 30), .list [.list [.int 1]], .str "0"]
def oddD (n : Int) : PyData := oddL.getD (n % 13).toNat .none
def rowL : List PyData := [.list [], .str "12", .none]
def rowOdd (row : List Int) (n : Int) : PyData := if n % 6 = 0 then .list (cutD (row.map .int) none (some (-1))) else if n % 6 = 1 then .list (row.map .int ++ [.int 1]) else if n % 6 = 2 then .tuple (row.map .int) else rowL.getD (n % 6 - 3).toNat .none
def othL (M : List (List Int)) : List PyData := [.tuple (M.map eI), .list [], .list [.list []], .none, .int 7, .str "table", .dict [(.int 0, .list [.int 1])], .tuple [], .bool true, .list [eM M], .dict [], .list [.int 7], .list [.tuple [.int 1]]] ++ (List.replicate (5 : Int).toNat [.tuple (M.map eI)]).flatten
def othD (M : List (List Int)) (n : Int) : PyData := (othL M).getD (n % 18).toNat .none
def spoilt (ns : List Int) (M : List (List Int)) (w : Nat) : PyData :=
  let way := mix ns 3 % 8
  let r := mix ns 4 % (M.length : Int)
  let n := mix ns 6
  if way < 2 then eM M else if way < 4 then setC M r (mix ns 5 % (w : Int)) (oddD n) else if way = 4 then .list ((M.map eI).set r.toNat (rowOdd (M.getD r.toNat []) n))
  else if way = 5 then .list (cutD (List.replicate (9 : Int).toNat (M.map eI)).flatten none (some (8 + n % 2))) else if way = 6 then .list (M.map fun row => .list (cutD (List.replicate (9 : Int).toNat (row.map PyData.int)).flatten none (some (8 + n % 2)))) else othD M n
def R__law_odd (es : List PyData) (d : PyData) : Prop := ∃ n : Int, es = [.int n] ∧ 0 ≤ n ∧ d = oddD n
def R__law_row (es : List PyData) (d : PyData) : Prop := ∃ (row : List Int) (n : Int), es = [eI row, .int n] ∧ 0 ≤ n ∧ row.length ≤ 8 ∧ d = rowOdd row n
def R__law_other (es : List PyData) (d : PyData) : Prop := ∃ (M : List (List Int)) (n : Int), es = [eM M, .int n] ∧ 0 ≤ n ∧ d = othD M n
def R__law_spoilt (es : List PyData) (d : PyData) : Prop := ∃ (ns : List Int) (M : List (List Int)) (w : Nat), es = [eI ns, eM M] ∧ ns.length ≤ 63 ∧ Tab M w ∧ d = spoilt ns M w
def R__law_is_table (es : List PyData) (d : PyData) : Prop := ∃ t : PyData, es = [t] ∧ (cellsD t).length < 100000 ∧ d = .bool (tabB t)
theorem row_len {M : List (List Int)} {w r : Nat} (t : Tab M w) (h : r < M.length) : (M.getD r []).length = w := t.len _ (by
  rw [List.getD_eq_getElem?_getD, List.getElem?_eq_getElem h]
  exact List.getElem_mem _)
theorem at_row {M : List (List Int)} {r : Nat} (h : r < M.length) : atI (M.map eI) (r : Int) = some (eI (M.getD r [])) := atI_nat (by
  rw [List.getElem?_map, List.getD_eq_getElem?_getD, List.getElem?_eq_getElem h]
  rfl)
def rowB : PyData → Bool
  | .list cs => decide (1 ≤ cs.length) && decide (cs.length ≤ 8)
  | _ => false
def goodR (r : PyData) : Bool := rowB r && (cellsD r).all fun c => wholeB c 0
theorem row_bad {tt uu : TT} {ds : De} {t : PyData} (h1 : EvB tt ds (isT "list" t)) (h2 : ∀ cs, t = .list cs → EvB uu ds (decide (1 ≤ cs.length) && decide (cs.length ≤ 8))) : EvB (tOr (tNot tt) (tNot uu)) ds (!rowB t) := by
  cases t with
  | list cs => exact eb_is (eb_or (a := false) (eb_is (eb_not h1) rfl) fun _ => eb_not (h2 cs rfl)) rfl
  | none => exact eb_is (eb_or (a := true) (b := true) (eb_is (eb_not h1) rfl) fun z => nomatch z) rfl
  | bool x => exact eb_is (eb_or (a := true) (b := true) (eb_is (eb_not h1) rfl) fun z => nomatch z) rfl
  | int x => exact eb_is (eb_or (a := true) (b := true) (eb_is (eb_not h1) rfl) fun z => nomatch z) rfl
  | str x => exact eb_is (eb_or (a := true) (b := true) (eb_is (eb_not h1) rfl) fun z => nomatch z) rfl
  | tuple x => exact eb_is (eb_or (a := true) (b := true) (eb_is (eb_not h1) rfl) fun z => nomatch z) rfl
  | dict x => exact eb_is (eb_or (a := true) (b := true) (eb_is (eb_not h1) rfl) fun z => nomatch z) rfl
theorem cell_bad {tt uu vv : TT} {ds : De} {c : PyData} (h1 : EvB tt ds (isT "int" c)) (h2 : EvB uu ds (isT "bool" c)) (h3 : ∀ i, c = .int i → EvB vv ds (decide (i < 0))) : EvB (tOr (tNot tt) (tOr uu vv)) ds (!wholeB c 0) := by
  cases c with
  | int i =>
    refine eb_is (eb_or (a := false) (eb_is (eb_not h1) rfl) fun _ => eb_or (a := false) (eb_is h2 rfl) fun _ => h3 i rfl) ?_
    show decide (i < 0) = !decide (0 ≤ i)
    by_cases h : i < 0
    · rw [decide_eq_true h, decide_eq_false (by omega)]
      rfl
    · rw [decide_eq_false h, decide_eq_true (by omega)]
      rfl
  | bool x => exact eb_is (eb_or (a := false) (b := true) (eb_is (eb_not h1) rfl) fun _ => eb_or (a := true) (b := true) (eb_is h2 rfl) fun z => nomatch z) rfl
  | none => exact eb_is (eb_or (a := true) (b := true) (eb_is (eb_not h1) rfl) fun z => nomatch z) rfl
  | list x => exact eb_is (eb_or (a := true) (b := true) (eb_is (eb_not h1) rfl) fun z => nomatch z) rfl
  | str x => exact eb_is (eb_or (a := true) (b := true) (eb_is (eb_not h1) rfl) fun z => nomatch z) rfl
  | tuple x => exact eb_is (eb_or (a := true) (b := true) (eb_is (eb_not h1) rfl) fun z => nomatch z) rfl
  | dict x => exact eb_is (eb_or (a := true) (b := true) (eb_is (eb_not h1) rfl) fun z => nomatch z) rfl
theorem first_bad {A : Type} (p : A → Bool) : ∀ xs : List A, (∀ x ∈ xs, p x = true) ∨ ∃ (k : Nat) (x : A), xs[k]? = some x ∧ p x = false ∧ ∀ (i : Nat) (y : A), i < k → xs[i]? = some y → p y = true
  | [] => .inl fun x h => nomatch h
  | x :: xs => by
    cases e : p x with
    | false => exact .inr ⟨0, x, rfl, e, fun i y h => absurd h (Nat.not_lt_zero i)⟩
    | true =>
      rcases first_bad p xs with h | ⟨k, y, h1, h2, h3⟩
      · exact .inl fun z hz => (List.mem_cons.mp hz).elim (fun q => by rw [q]; exact e) (h z)
      · refine .inr ⟨k + 1, y, h1, h2, fun i z hi hz => ?_⟩
        cases i with
        | zero =>
          have q : x = z := Option.some.inj hz
          rw [← q]
          exact e
        | succ i => exact h3 i z (by omega) hz
theorem lenD_cells (r : PyData) : (cellsD r).length = lenD r := by cases r <;> rfl
theorem rowB_of {r : PyData} (h1 : isL r = true) (h2 : 1 ≤ lenD r) (h3 : lenD r ≤ 8) : rowB r = true := by
  cases r with
  | list cs =>
    show (decide (1 ≤ cs.length) && decide (cs.length ≤ 8)) = true
    rw [decide_eq_true (show 1 ≤ cs.length from h2), decide_eq_true (show cs.length ≤ 8 from h3)]
    rfl
  | _ => cases h1
theorem rowB_is {r : PyData} (h : rowB r = true) : isL r = true ∧ 1 ≤ lenD r ∧ lenD r ≤ 8 := by
  cases r with
  | list cs =>
    obtain ⟨a, b⟩ := (Bool.and_eq_true _ _).mp (show (decide (1 ≤ cs.length) && decide (cs.length ≤ 8)) = true from h)
    exact ⟨rfl, of_decide_eq_true a, of_decide_eq_true b⟩
  | _ => cases h
theorem tab_bad {rows : List PyData} {r : PyData} (hm : r ∈ rows) (hb : goodR r = false) : tabB (.list rows) = false := by
  cases e : tabB (.list rows) with
  | false => rfl
  | true =>
    obtain ⟨hg, hc⟩ := (Bool.and_eq_true _ _).mp (show (gridB (.list rows) && ((cellsD (.list rows)).flatMap cellsD).all fun c => wholeB c 0) = true from e)
    obtain ⟨a, b⟩ := (Bool.and_eq_true _ _).mp (show ((decide (1 ≤ rows.length) && decide (rows.length ≤ 8)) && rows.all isL && ((decide (1 ≤ lenD (rows.headD .none)) && decide (lenD (rows.headD .none) ≤ 8)) && rows.all fun r => decide (lenD r = lenD (rows.headD .none)))) = true from hg)
    obtain ⟨_, a2⟩ := (Bool.and_eq_true _ _).mp a
    obtain ⟨b1, b2⟩ := (Bool.and_eq_true _ _).mp b
    obtain ⟨b3, b4⟩ := (Bool.and_eq_true _ _).mp b1
    have q := of_decide_eq_true (List.all_eq_true.mp b2 r hm)
    have g : goodR r = true := by
      unfold goodR
      rw [rowB_of (List.all_eq_true.mp a2 r hm) (by rw [q]; exact of_decide_eq_true b3) (by rw [q]; exact of_decide_eq_true b4), Bool.true_and]
      exact List.all_eq_true.mpr fun c hcc => List.all_eq_true.mp hc c (List.mem_flatMap.mpr ⟨r, hm, hcc⟩)
    rw [g] at hb
    cases hb
theorem tab_good {rows : List PyData} (h1 : 1 ≤ rows.length) (h8 : rows.length ≤ 8) (hg : ∀ r ∈ rows, goodR r = true) : tabB (.list rows) = rows.all fun r => decide (lenD r = lenD (rows.headD .none)) := by
  have each : ∀ r ∈ rows, isL r = true ∧ 1 ≤ lenD r ∧ lenD r ≤ 8 := fun r hr => rowB_is ((Bool.and_eq_true _ _).mp (hg r hr)).1
  have cells : (((cellsD (.list rows)).flatMap cellsD).all fun c => wholeB c 0) = true := List.all_eq_true.mpr fun c hc => by
    obtain ⟨r, hr, hc⟩ := List.mem_flatMap.mp hc
    exact List.all_eq_true.mp ((Bool.and_eq_true _ _).mp (hg r hr)).2 c hc
  show (gridB (.list rows) && ((cellsD (.list rows)).flatMap cellsD).all fun c => wholeB c 0) = _
  rw [cells, Bool.and_true]
  show ((decide (1 ≤ rows.length) && decide (rows.length ≤ 8)) && rows.all isL && ((decide (1 ≤ lenD (rows.headD .none)) && decide (lenD (rows.headD .none) ≤ 8)) && rows.all fun r => decide (lenD r = lenD (rows.headD .none)))) = _
  have hd : rows.headD .none ∈ rows := by
    cases rows with
    | nil => simp at h1
    | cons a b => exact List.mem_cons_self
  obtain ⟨_, q1, q2⟩ := each _ hd
  rw [decide_eq_true h1, decide_eq_true h8, List.all_eq_true.mpr fun r hr => (each r hr).1, decide_eq_true q1, decide_eq_true q2]
  rfl
theorem fineAll_of : ∀ ds : List PyData, (∀ d ∈ ds, fine d = true) → fineAll ds = true
  | [], _ => rfl
  | d :: ds, h => by
    show (fine d && fineAll ds) = true
    rw [h d List.mem_cons_self, fineAll_of ds fun x hx => h x (List.mem_cons_of_mem _ hx)]
    rfl
theorem nestAll_of (k : Nat) : ∀ ds : List PyData, (∀ d ∈ ds, nest d ≤ k) → nestAll ds ≤ k
  | [], _ => Nat.zero_le _
  | d :: ds, h => by
    have a := h d List.mem_cons_self
    have b := nestAll_of k ds fun x hx => h x (List.mem_cons_of_mem _ hx)
    show max (nest d) (nestAll ds) ≤ k
    omega
/-- plain and not deep -/
def tame (d : PyData) : Prop := fine d = true ∧ nest d ≤ 10
theorem tame_l {ds : List PyData} (h : ∀ d ∈ ds, fine d = true ∧ nest d ≤ 9) : tame (.list ds) := ⟨fineAll_of ds fun d hd => (h d hd).1, by
  have := nestAll_of 9 ds fun d hd => (h d hd).2
  show nestAll ds + 1 ≤ 10
  omega⟩
theorem ok_l {ds : List PyData} (h : ∀ d ∈ ds, tame d) : okN (.list ds) = true := by
  have a := fineAll_of ds fun d hd => (h d hd).1
  have b := nestAll_of 10 ds fun d hd => (h d hd).2
  show (fineAll ds && decide (nestAll ds ≤ 50)) = true
  rw [a, decide_eq_true (by omega)]
  rfl
theorem ints_in {ns : List Int} {d : PyData} (h : d ∈ ns.map PyData.int) : fine d = true ∧ nest d ≤ 9 := by
  obtain ⟨i, _, rfl⟩ := List.mem_map.mp h
  exact ⟨rfl, Nat.zero_le _⟩
theorem tame_eI (ns : List Int) : tame (eI ns) := tame_l fun d hd => ints_in hd
theorem rows_in {M : List (List Int)} {d : PyData} (h : d ∈ M.map eI) : tame d := by
  obtain ⟨r, _, rfl⟩ := List.mem_map.mp h
  exact tame_eI r
theorem cut_in {xs : List PyData} {lo hi : Option Int} {d : PyData} (h : d ∈ cutD xs lo hi) : d ∈ xs := by
  unfold DL.cutD at h
  first
    | exact List.mem_of_mem_drop (List.mem_of_mem_take h)
    | exact List.mem_of_mem_take (List.mem_of_mem_drop h)
theorem cut_len (xs : List PyData) (lo hi : Option Int) : (cutD xs lo hi).length ≤ xs.length := by
  unfold DL.cutD
  simp only [List.length_take, List.length_drop]
  omega
theorem rep_in {xs : List PyData} {k : Nat} {d : PyData} (h : d ∈ (List.replicate k xs).flatten) : d ∈ xs := by
  obtain ⟨l, hl, hd⟩ := List.mem_flatten.mp h
  rw [(List.mem_replicate.mp hl).2] at hd
  exact hd
theorem rep_len (xs : List PyData) : ∀ k : Nat, (List.replicate k xs).flatten.length = k * xs.length
  | 0 => by simp
  | k + 1 => by
    rw [List.replicate_succ, List.flatten_cons, List.length_append, rep_len xs k, Nat.succ_mul]
    omega
theorem getD_in {ts : List PyData} {P : PyData → Prop} (h : ∀ d ∈ ts, P d) (h0 : P .none) (k : Nat) : P (ts.getD k .none) := by
  rw [List.getD_eq_getElem?_getD]
  cases e : ts[k]? with
  | none => exact h0
  | some x => exact h x (List.mem_of_getElem? e)
theorem odd_tame (n : Int) : fine (oddD n) = true ∧ nest (oddD n) ≤ 9 := by
  refine getD_in (P := fun d => fine d = true ∧ nest d ≤ 9) (fun d hd => ?_) ⟨rfl, Nat.zero_le _⟩ _
  simp only [oddL, List.mem_cons, List.not_mem_nil, or_false] at hd
  rcases hd with rfl | rfl | rfl | rfl | rfl | rfl | rfl | rfl | rfl | rfl | rfl | rfl | rfl <;> simp [fine, fineAll, fineD, DL.nest, nestAll, nestD]
theorem row_tame (row : List Int) (n : Int) : tame (rowOdd row n) := by
  unfold rowOdd
  split
  · exact tame_l fun d hd => ints_in (cut_in hd)
  split
  · exact tame_l fun d hd => by
      rcases List.mem_append.mp hd with h | h
      · exact ints_in h
      · rw [List.mem_singleton.mp h]
        exact ⟨rfl, Nat.zero_le _⟩
  split
  · have q := tame_l (ds := row.map PyData.int) fun d hd => ints_in hd
    exact ⟨q.1, q.2⟩
  · refine getD_in (P := tame) (fun d hd => ?_) ⟨rfl, Nat.zero_le _⟩ _
    simp only [rowL, List.mem_cons, List.not_mem_nil, or_false] at hd
    rcases hd with rfl | rfl | rfl <;> simp [tame, fine, fineAll, DL.nest, nestAll]
theorem oth_ok {M : List (List Int)} (hM : M.length ≤ 8) (n : Int) : okN (othD M n) = true ∧ (cellsD (othD M n)).length ≤ 8 := by
  have tp : okN (.tuple (M.map eI)) = true := by
    show (noDict (eM M) && SeqAt.shaped (eM M)) = true
    rw [noDict_eM, shaped_eM]
    rfl
  refine getD_in (P := fun d => okN d = true ∧ (cellsD d).length ≤ 8) (fun d hd => ?_) ⟨rfl, Nat.zero_le _⟩ _
  rcases List.mem_append.mp hd with hd | hd
  · simp only [List.mem_cons, List.not_mem_nil, or_false] at hd
    rcases hd with rfl | rfl | rfl | rfl | rfl | rfl | rfl | rfl | rfl | rfl | rfl | rfl | rfl
    · exact ⟨tp, Nat.zero_le _⟩
    · exact ⟨by decide +kernel, Nat.zero_le _⟩
    · exact ⟨by decide +kernel, by decide⟩
    · exact ⟨by decide +kernel, by decide⟩
    · exact ⟨by decide +kernel, by decide⟩
    · exact ⟨by decide +kernel, by decide⟩
    · exact ⟨by decide +kernel, by decide⟩
    · exact ⟨by decide +kernel, by decide⟩
    · exact ⟨by decide +kernel, by decide⟩
    · refine ⟨ok_l fun d hd => ?_, by show 1 ≤ 8; decide⟩
      rw [List.mem_singleton.mp hd]
      exact tame_l fun d hd => by
        obtain ⟨r, _, rfl⟩ := List.mem_map.mp hd
        have q := nestAll_of 0 (r.map PyData.int) fun d hd => by
          obtain ⟨i, _, rfl⟩ := List.mem_map.mp hd
          exact Nat.le_refl 0
        exact ⟨(tame_eI r).1, by show nestAll (r.map PyData.int) + 1 ≤ 9; omega⟩
    · exact ⟨by decide +kernel, by decide⟩
    · exact ⟨by decide +kernel, by decide⟩
    · exact ⟨by decide +kernel, by decide⟩
  · have q := rep_in hd
    rw [List.mem_singleton.mp q]
    exact ⟨tp, Nat.zero_le _⟩
theorem spoilt_ok {ns : List Int} {M : List (List Int)} {w : Nat} (hM : M.length ≤ 8) : okN (spoilt ns M w) = true ∧ (cellsD (spoilt ns M w)).length < 100000 := by
  unfold spoilt
  dsimp only
  split
  · exact ⟨ok_l fun d hd => rows_in hd, by show (M.map eI).length < _; rw [List.length_map]; omega⟩
  split
  · refine ⟨ok_l fun d hd => ?_, by show ((M.map eI).set _ _).length < _; rw [List.length_set, List.length_map]; omega⟩
    rcases List.mem_or_eq_of_mem_set hd with h | h
    · exact rows_in h
    · rw [h]
      refine tame_l fun d hd => ?_
      rcases List.mem_or_eq_of_mem_set hd with h | h
      · exact ints_in h
      · rw [h]
        exact odd_tame _
  split
  · refine ⟨ok_l fun d hd => ?_, by show ((M.map eI).set _ _).length < _; rw [List.length_set, List.length_map]; omega⟩
    rcases List.mem_or_eq_of_mem_set hd with h | h
    · exact rows_in h
    · rw [h]
      exact row_tame _ _
  split
  · refine ⟨ok_l fun d hd => rows_in (rep_in (cut_in hd)), Nat.lt_of_le_of_lt (cut_len _ _ _) ?_⟩
    rw [rep_len, List.length_map]
    show 9 * M.length < _
    omega
  split
  · refine ⟨ok_l fun d hd => ?_, by show (M.map _).length < _; rw [List.length_map]; omega⟩
    obtain ⟨r, _, rfl⟩ := List.mem_map.mp hd
    exact tame_l fun d hd => ints_in (rep_in (cut_in hd))
  · have q := oth_ok hM (mix ns 6)
    exact ⟨q.1, Nat.lt_of_le_of_lt q.2 (by decide)⟩
def R_need_table (c : Addr) (es : List PyData) (r : Res) : Prop := ∃ t : PyData, es = [t] ∧ (cellsD t).length < 100000 ∧ ((tabB t = true ∧ r = .ok .none) ∨ (tabB t = false ∧ r = .er (.ref c)))
def R_need_number (es : List PyData) (r : Res) : Prop := ∃ t : PyData, es = [t] ∧ r = r ∧ False
def R_row_sums (c : Addr) (es : List PyData) (r : Res) : Prop := ∃ t : PyData, es = [t] ∧ (cellsD t).length < 100000 ∧ tabB t = false ∧ r = .er (.ref c)
def R_column_sums (c : Addr) (es : List PyData) (r : Res) : Prop := ∃ t : PyData, es = [t] ∧ (cellsD t).length < 100000 ∧ tabB t = false ∧ r = .er (.ref c)
def R_small_places (c : Addr) (es : List PyData) (r : Res) : Prop := ∃ t b : PyData, es = [t, b] ∧ (cellsD t).length < 100000 ∧ tabB t = false ∧ r = .er (.ref c)
def R__law_alone (c : Addr) (C : Addr) (d : PyData) : Prop := c = C ∧ d = .bool true
def R__law_refused (es : List PyData) (d : PyData) : Prop := ∃ (k : Int) (t : PyData), es = [.int k, t] ∧ (cellsD t).length < 100000 ∧ tabB t = false ∧ d = .bool true

section
variable {P : Program} {w : World} {mg : Str → Option Value} {base : Heap} {t_MOST : Tok} {c_BadNumber : Addr} {c_BadPlace : Addr} {c_BadTable : Addr} {c_BadView : Addr} {c_NoTable : Addr} {c_NotHidden : Addr} {c_VeilError : Addr}
theorem ok_is_whole {f : Addr} {fd : FuncData} (T : Txt mg t_MOST c_BadNumber c_BadPlace c_BadTable c_BadView c_NoTable c_NotHidden c_VeilError) (D : Dfn KK mg "is_whole" s_is_whole ["thing", "least"] f fd) : FnOk P w KK mg base CX0 1 f fd ["thing", "least"] (spF R_is_whole) := by
  refine D.F.ok sc_is_whole (len_of fun es d h => by obtain ⟨_, _, rfl, _⟩ := h <;> rfl) (fun cdv A outer s H vs Q E hr h => ?_)
  refine ⟨_, (pss_one (ps_ret (pe_and (pe_cmpR op_eqTy (pe_callTy (T := "type") call_typeD (by rfl) T.no_type (by decide +kernel) (pa_cons (pv 0) pa_nil)) (pe_bltn (v := .ty "int") (by rfl) T.no_int (by decide +kernel) rfl) (nomark _)) (pe_one (pe_cmpR op_ge (pv 0) (pv 1) (nomark _)))))), ?_⟩
  refine body_ret h fun es d hR => ?_
  obtain ⟨t, l, rfl, rfl⟩ := hR
  refine es_ret (ev_is (ev_andV (a := decide (tyName t = "int")) (b := wholeB t l) (ev_tyEq (ev_var rfl) (by decide)) fun e => ?_) ?_)
  · cases t with
    | int i => exact ev_ge (ev_var rfl) (ev_var rfl)
    | none => exact absurd e (by decide)
    | bool b => exact absurd e (by simp [tyName])
    | str x => exact absurd e (by simp [tyName])
    | list x => exact absurd e (by simp [tyName])
    | tuple x => exact absurd e (by simp [tyName])
    | dict x => exact absurd e (by simp [tyName])
  · cases t <;> simp [tyName, wholeB]
theorem ok_is_grid {f : Addr} {fd : FuncData} (T : Txt mg t_MOST c_BadNumber c_BadPlace c_BadTable c_BadView c_NoTable c_NotHidden c_VeilError) (D : Dfn KK mg "is_grid" s_is_grid ["thing"] f fd) : FnOk P w KK mg base CX0 1 f fd ["thing"] (spF R_is_grid) := by
  refine D.F.ok sc_is_grid (len_of fun es d h => by obtain ⟨_, rfl, _⟩ := h <;> rfl) (fun cdv A outer s H vs Q E hr h => ?_)
  refine ⟨_, (pss_cons (ps_if (PW.pt (pw_or (pt_cmpR op_neTy (pe_callTy (T := "type") call_typeD (by rfl) T.no_type (by decide +kernel) (pa_cons (pv 0) pa_nil)) (pe_bltn (v := .ty "list") (by rfl) T.no_list (by decide +kernel) rfl) (nomark _)) (pw_or1 (pt_not (pt_chain op_le op_le pe_int (pe_callB (id := "len") (k_len (K := KK)) (by rfl) T.no_len (by decide +kernel) (pa_cons (pv 0) pa_nil)) (pe_glob (v := .int 8) rfl T.mg_MOST ⟨_, rfl⟩)))))) (pss_one (ps_ret pe_bl)) pss_nil)
    (pss_cons (ps_if (pt_val (pe_callB (id := "any") (k_any (K := KK) rfl) (by rfl) T.no_any (by decide +kernel) (pa_cons (pe_lc (own := [("row", 2)]) rfl sc_is_grid.nd (k_pi_list (K := KK) (pv 0)) (blkOk_by (N := n_is_grid) (sc := defScope s_is_grid) (by decide +kernel))
      (fun _ _ _ _ _ => (pg_name (i := 2) sc_is_grid.nd rfl (.inl rfl))) (fun _ _ _ _ _ => pts_nil) (fun _ _ _ _ _ => (pe_cmpR op_neTy (pe_callTy (T := "type") call_typeD (by rfl) T.no_type (by decide +kernel) (pa_cons (pv 2) pa_nil)) (pe_bltn (v := .ty "list") (by rfl) T.no_list (by decide +kernel) rfl) (nomark _)))) pa_nil))) (pss_one (ps_ret pe_bl)) pss_nil)
    (pss_cons (ps_set (i := 1) sc_is_grid.nd rfl (.inr rfl) (pe_callB (id := "len") (k_len (K := KK)) (by rfl) T.no_len (by decide +kernel) (pa_cons (pe_ix (k_ixL (K := KK)) (pv 0) pe_int (fun _ _ => rfl)) pa_nil)))
    (pss_one (ps_ret (pe_and (pe_chain op_le op_le pe_int (pv 1) (pe_glob (v := .int 8) rfl T.mg_MOST ⟨_, rfl⟩)) (pe_one (pe_callB (id := "all") (k_all (K := KK) rfl) (by rfl) T.no_all (by decide +kernel) (pa_cons (pe_lc (own := [("row", 2)]) rfl sc_is_grid.nd (k_pi_list (K := KK) (pv 0)) (blkOk_by (N := n_is_grid) (sc := defScope s_is_grid) (by decide +kernel))
      (fun _ _ _ _ _ => (pg_name (i := 2) sc_is_grid.nd rfl (.inl rfl))) (fun _ _ _ _ _ => pts_nil) (fun _ _ _ _ _ => (pe_cmpR op_eq (pe_callB (id := "len") (k_len (K := KK)) (by rfl) T.no_len (by decide +kernel) (pa_cons (pv 2) pa_nil)) (pv 1) (nomark _)))) pa_nil))))))))), ?_⟩
  refine body_ret h fun es d hR => ?_
  obtain ⟨t, rfl, hlen, rfl⟩ := hR
  by_cases hL : tyName t = "list"
  · cases t with
    | list rows =>
      by_cases h1 : 1 ≤ rows.length ∧ rows.length ≤ 8
      · by_cases h2 : rows.all isL = true
        · refine es_seq (es_if (b := false) (eb_or (a := false) (b := false) (eb_is (eb_test (ev_tyNe (ev_var rfl) (by decide))) rfl) fun _ => eb_is (eb_not (eb_test (ev_chainLe ev_int (e_len (ev_var rfl)) ev_int))) ?_) (fun z => nomatch z) fun _ => es_next) ?_
          · rw [decide_eq_true (show (1 : Int) ≤ rows.length by omega), decide_eq_true (show (rows.length : Int) ≤ 8 by omega)]
            rfl
          refine es_seq (es_if (b := false) (eb_is (eb_B (ev_anyF (b := fun r => !isL r) (ev_lcD (ev_var rfl) hlen fun r hr => ev_tyNe (ev_var rfl) (by decide)))) ?_) (fun z => nomatch z) fun _ => es_next) ?_
          · rw [List.any_eq_not_all_not]
            simp only [Bool.not_not]
            rw [h2]
            rfl
          cases rows with
          | nil => exact absurd h1.1 (by decide)
          | cons r0 rest =>
            have hr0 : isL r0 = true := List.all_eq_true.mp h2 r0 List.mem_cons_self
            cases r0 with
            | list cs =>
              refine es_seq (es_asg (e_len (ts := cs) (ev_ixL (ev_var rfl) ev_int (atI_nat (j := 0) rfl)))) ?_
              refine es_ret (ev_is (ev_andV (a := decide (1 ≤ cs.length) && decide (cs.length ≤ 8)) (b := (PyData.list cs :: rest).all fun r => decide (lenD r = cs.length)) (ev_is (ev_chainLe ev_int (ev_var rfl) ev_int) ?_) fun _ => ev_allF (ev_lcD (ev_var rfl) hlen fun r hr => ?_)) ?_)
              · congr 2
                · exact decide_eq_decide.mpr (by omega)
                · exact decide_eq_decide.mpr (by omega)
              · have hr' := List.all_eq_true.mp h2 r hr
                cases r with
                | list es => exact ev_is (ev_eqI (e_len (ev_var rfl)) (ev_var rfl)) (congrArg PyData.bool (decide_eq_decide.mpr (by show ((es.length : Int) = cs.length ↔ es.length = cs.length); omega)))
                | _ => cases hr'
              · refine congrArg PyData.bool ?_
                show _ = ((decide (1 ≤ (PyData.list cs :: rest).length) && decide ((PyData.list cs :: rest).length ≤ 8)) && (PyData.list cs :: rest).all isL && ((decide (1 ≤ cs.length) && decide (cs.length ≤ 8)) && (PyData.list cs :: rest).all fun r => decide (lenD r = cs.length)))
                rw [h2, decide_eq_true h1.1, decide_eq_true h1.2]
                rfl
            | _ => cases hr0
        · refine es_seq (es_if (b := false) (eb_or (a := false) (b := false) (eb_is (eb_test (ev_tyNe (ev_var rfl) (by decide))) rfl) fun _ => eb_is (eb_not (eb_test (ev_chainLe ev_int (e_len (ev_var rfl)) ev_int))) ?_) (fun z => nomatch z) fun _ => es_next) ?_
          · rw [decide_eq_true (show (1 : Int) ≤ rows.length by omega), decide_eq_true (show (rows.length : Int) ≤ 8 by omega)]
            rfl
          refine es_seqR (es_if (b := true) (eb_is (eb_B (ev_anyF (b := fun r => !isL r) (ev_lcD (ev_var rfl) hlen fun r hr => ev_tyNe (ev_var rfl) (by decide)))) ?_) (fun _ => es_ret (ev_is ev_bl ?_)) fun z => nomatch z)
          · rw [List.any_eq_not_all_not]
            simp only [Bool.not_not]
            rw [Bool.not_eq_true] at h2
            rw [h2]
            rfl
          · refine congrArg PyData.bool ?_
            show false = ((decide (1 ≤ rows.length) && decide (rows.length ≤ 8)) && rows.all isL && _)
            rw [Bool.not_eq_true] at h2
            rw [h2, Bool.and_false, Bool.false_and]
      · refine es_seqR (es_if (b := true) (eb_or (a := false) (b := true) (eb_is (eb_test (ev_tyNe (ev_var rfl) (by decide))) rfl) fun _ => eb_is (eb_not (eb_test (ev_chainLe ev_int (e_len (ev_var rfl)) ev_int))) ?_) (fun _ => es_ret (ev_is ev_bl ?_)) fun z => nomatch z)
        · by_cases a : 1 ≤ rows.length
          · have b : ¬ rows.length ≤ 8 := fun z => h1 ⟨a, z⟩
            rw [decide_eq_false (show ¬ (rows.length : Int) ≤ 8 by omega), Bool.and_false]
            rfl
          · rw [decide_eq_false (show ¬ (1 : Int) ≤ rows.length by omega), Bool.false_and]
            rfl
        · refine congrArg PyData.bool ?_
          show false = ((decide (1 ≤ rows.length) && decide (rows.length ≤ 8)) && rows.all isL && _)
          by_cases a : 1 ≤ rows.length
          · have b : ¬ rows.length ≤ 8 := fun z => h1 ⟨a, z⟩
            rw [decide_eq_false b, Bool.and_false, Bool.false_and, Bool.false_and]
          · rw [decide_eq_false a, Bool.false_and, Bool.false_and, Bool.false_and]
    | _ => exact absurd hL (by simp [tyName])
  · refine es_seqR (es_if (b := true) (eb_or (a := true) (b := true) (eb_is (eb_test (ev_tyNe (ev_var rfl) (by decide))) ?_) fun z => nomatch z) (fun _ => es_ret (ev_is ev_bl ?_)) fun z => nomatch z)
    · rw [decide_eq_false hL]
      rfl
    · cases t with
      | list rows => exact absurd rfl hL
      | _ => rfl
theorem ok_is_table {f : Addr} {fd : FuncData} (T : Txt mg t_MOST c_BadNumber c_BadPlace c_BadTable c_BadView c_NoTable c_NotHidden c_VeilError) (D : Dfn KK mg "is_table" s_is_table ["thing"] f fd) {f_is_grid : Addr} {fd_is_grid : FuncData} (D_is_grid : Dfn KK mg "is_grid" s_is_grid ["thing"] f_is_grid fd_is_grid) (G_is_grid : FnOk P w KK mg base CX0 1 f_is_grid fd_is_grid ["thing"] (spF R_is_grid)) {f_is_whole : Addr} {fd_is_whole : FuncData} (D_is_whole : Dfn KK mg "is_whole" s_is_whole ["thing", "least"] f_is_whole fd_is_whole) (G_is_whole : FnOk P w KK mg base CX0 1 f_is_whole fd_is_whole ["thing", "least"] (spF R_is_whole)) : FnOk P w KK mg base CX0 2 f fd ["thing"] (spF R_is_table) := by
  refine D.F.ok sc_is_table (len_of fun es d h => by obtain ⟨_, rfl, _⟩ := h <;> rfl) (fun cdv A outer s H vs Q E hr h => ?_)
  refine ⟨_, (pss_one (ps_ret (pe_and (pe_call G_is_grid hr rfl D_is_grid.g D_is_grid.F.kp D_is_grid.b .nil pass0 (pa_cons (pv 0) pa_nil)) (pe_one (pe_callB (id := "all") (k_all (K := KK) rfl) (by rfl) T.no_all (by decide +kernel) (pa_cons (pe_lc2 (own := [("row", 1), ("count", 2)]) (vs1 := [2]) rfl sc_is_table.nd (k_pi_list (K := KK) (pv 0)) (blkOk_by (N := n_is_table) (sc := defScope s_is_table) (by decide +kernel)) (by decide)
      (fun _ _ _ _ _ => (pg_name (i := 1) sc_is_table.nd rfl (.inl rfl))) (fun _ _ _ _ _ => pts_nil) (fun _ _ _ _ _ => (k_pi_list (K := KK) (pv 1))) (fun _ _ _ _ _ => (pg_name (i := 2) sc_is_table.nd rfl (.inl rfl))) (fun _ _ _ _ _ => pts_nil) (fun _ _ _ _ _ => (pe_call G_is_whole hr rfl D_is_whole.g D_is_whole.F.kp D_is_whole.b .nil pass0 (pa_cons (pv 2) (pa_cons pe_int pa_nil))))) pa_nil)))))), ?_⟩
  refine body_ret h fun es d hR => ?_
  obtain ⟨t, rfl, hlen, rfl⟩ := hR
  refine es_ret (ev_is (ev_andV (a := gridB t) (b := ((cellsD t).flatMap cellsD).all fun c => wholeB c 0) (ev_call (ea_cons (ev_var rfl) ea_nil) ⟨t, rfl, hlen, rfl⟩) fun hg => ?_) rfl)
  cases t with
  | list rows =>
    obtain ⟨h1, h8, hl, hs⟩ := grid_parts hg
    refine ev_is (ev_allF (b := fun c => wholeB c 0) (ev_is (ev_lc2L (p := fun _ _ => true) (f := fun _ c => .bool (wholeB c 0)) (ga := fun x => x) (ys := cellsD) (gb := fun x => x) (by decide) (by rw [List.map_id']; exact ev_var rfl) hlen (grid_few hg) (fun r hr => ?_) (fun _ _ _ _ => eb_yes) (fun r hr c hc _ => ev_call (ea_cons (ev_var rfl) (ea_cons ev_int ea_nil)) ⟨_, _, rfl, rfl⟩)) ?_)) rfl
    · have hr' := List.all_eq_true.mp hl r hr
      cases r with
      | list cs =>
        rw [List.map_id']
        exact ev_var rfl
      | _ => cases hr'
    · rw [List.map_flatMap]
      congr 1
      refine congrArg (fun f => List.flatMap f rows) (funext fun r => ?_)
      rw [List.filter_eq_self.mpr (fun _ _ => rfl)]
  | _ => cases hg
theorem ok_need_table {f : Addr} {fd : FuncData} (T : Txt mg t_MOST c_BadNumber c_BadPlace c_BadTable c_BadView c_NoTable c_NotHidden c_VeilError) (D : Dfn KK mg "need_table" s_need_table ["thing"] f fd) {f_is_table : Addr} {fd_is_table : FuncData} (D_is_table : Dfn KK mg "is_table" s_is_table ["thing"] f_is_table fd_is_table) (G_is_table : FnOk P w KK mg base CX0 2 f_is_table fd_is_table ["thing"] (spF R_is_table)) : FnOk P w KK mg base (L2.CX P w) 3 f fd ["thing"] (spX (R_need_table c_BadTable)) := by
  refine D.F.okX sc_need_table (lenX_of fun es r h => by obtain ⟨_, rfl, _⟩ := h <;> rfl) (fun cdv A outer s H vs Q E hr h => ?_)
  refine ⟨_, (pss_one (ps_if (pt_not (pt_val (pe_call G_is_table hr rfl D_is_table.g D_is_table.F.kp D_is_table.b .nil pass0 (pa_cons (pv 0) pa_nil)))) (pss_one (ps_raise rfl (takes_of rfl rfl rfl rfl) (pmk_own PySem.F.excBase_ValueError T.e_BadTable.x T.mg_BadTable T.e_BadTable.k (raises_own T.e_BadTable.s T.e_BadTable.t) rfl))) pss_nil)), ?_⟩
  refine body_retX h fun es r hR => ?_
  obtain ⟨t, rfl, hlen, ⟨ht, rfl⟩ | ⟨ht, rfl⟩⟩ := hR
  · exact .inr ⟨rfl, _, es_if (b := false) (eb_is (eb_not (eb_B (ev_call (ea_cons (ev_var rfl) ea_nil) ⟨t, rfl, hlen, rfl⟩))) (by rw [ht]; rfl)) (fun z => nomatch z) fun _ => es_next⟩
  · exact .inl (es_x (x_if (b := true) (eb_is (eb_not (eb_B (ev_call (ea_cons (ev_var rfl) ea_nil) ⟨t, rfl, hlen, rfl⟩))) (by rw [ht]; rfl)) (fun _ => x_raise) (fun z => nomatch z)))
theorem ok_need_number {f : Addr} {fd : FuncData} (T : Txt mg t_MOST c_BadNumber c_BadPlace c_BadTable c_BadView c_NoTable c_NotHidden c_VeilError) (D : Dfn KK mg "need_number" s_need_number ["thing"] f fd) {f_is_whole : Addr} {fd_is_whole : FuncData} (D_is_whole : Dfn KK mg "is_whole" s_is_whole ["thing", "least"] f_is_whole fd_is_whole) (G_is_whole : FnOk P w KK mg base CX0 1 f_is_whole fd_is_whole ["thing", "least"] (spF R_is_whole)) : FnOk P w KK mg base (L2.CX P w) 2 f fd ["thing"] (spX R_need_number) := by
  refine D.F.okX sc_need_number (lenX_of fun es r h => by obtain ⟨_, rfl, _⟩ := h <;> rfl) (fun cdv A outer s H vs Q E hr h => ?_)
  refine ⟨_, (pss_one (ps_if (pt_not (pt_val (pe_call G_is_whole hr rfl D_is_whole.g D_is_whole.F.kp D_is_whole.b .nil pass0 (pa_cons (pv 0) (pa_cons pe_int pa_nil))))) (pss_one (ps_raise rfl (takes_of rfl rfl rfl rfl) (pmk_own PySem.F.excBase_ValueError T.e_BadNumber.x T.mg_BadNumber T.e_BadNumber.k (raises_own T.e_BadNumber.s T.e_BadNumber.t) rfl))) pss_nil)), ?_⟩
  refine body_retX h fun es r hR => ?_
  obtain ⟨_, _, _, h⟩ := hR
  exact h.elim
theorem ok_row_sums {f : Addr} {fd : FuncData} (T : Txt mg t_MOST c_BadNumber c_BadPlace c_BadTable c_BadView c_NoTable c_NotHidden c_VeilError) (D : Dfn KK mg "row_sums" s_row_sums ["table"] f fd) {f_need_table : Addr} {fd_need_table : FuncData} (D_need_table : Dfn KK mg "need_table" s_need_table ["thing"] f_need_table fd_need_table) (G_need_table : FnOk P w KK mg base (L2.CX P w) 3 f_need_table fd_need_table ["thing"] (spX (R_need_table c_BadTable))) : FnOk P w KK mg base (L2.CX P w) 4 f fd ["table"] (spX (R_row_sums c_BadTable)) := by
  refine D.F.okX sc_row_sums (lenX_of fun es r h => by obtain ⟨_, rfl, _⟩ := h <;> rfl) (fun cdv A outer s H vs Q E hr h => ?_)
  refine ⟨_, (pss_cons (ps_expr (pe_callS G_need_table hr rfl D_need_table.g D_need_table.F.kp D_need_table.b (fun σ => passAt (takes_of rfl rfl rfl rfl) σ) (pa_cons (pv 0) pa_nil)))
    (pss_one (ps_ret (pe_lc (own := [("row", 1)]) rfl sc_row_sums.nd (k_pi_list (K := KK) (pv 0)) (blkOk_by (N := n_row_sums) (sc := defScope s_row_sums) (by decide +kernel))
      (fun _ _ _ _ _ => (pg_name (i := 1) sc_row_sums.nd rfl (.inl rfl))) (fun _ _ _ _ _ => pts_nil) (fun _ _ _ _ _ => (pe_callB (id := "sum") (k_sumX (K := KK) rfl) (by rfl) T.no_sum (by decide +kernel) (pa_cons (pv 1) pa_nil))))))), ?_⟩
  refine body_retX h fun es r hR => ?_
  obtain ⟨t, rfl, hlen, ht, rfl⟩ := hR
  exact .inl (es_x (x_seqE (x_drop (ee_call (ea_cons (ev_var rfl) ea_nil) ⟨t, rfl, hlen, .inr ⟨ht, rfl⟩⟩))))
theorem ok_column_sums {f : Addr} {fd : FuncData} (T : Txt mg t_MOST c_BadNumber c_BadPlace c_BadTable c_BadView c_NoTable c_NotHidden c_VeilError) (D : Dfn KK mg "column_sums" s_column_sums ["table"] f fd) {f_need_table : Addr} {fd_need_table : FuncData} (D_need_table : Dfn KK mg "need_table" s_need_table ["thing"] f_need_table fd_need_table) (G_need_table : FnOk P w KK mg base (L2.CX P w) 3 f_need_table fd_need_table ["thing"] (spX (R_need_table c_BadTable))) : FnOk P w KK mg base (L2.CX P w) 4 f fd ["table"] (spX (R_column_sums c_BadTable)) := by
  refine D.F.okX sc_column_sums (lenX_of fun es r h => by obtain ⟨_, rfl, _⟩ := h <;> rfl) (fun cdv A outer s H vs Q E hr h => ?_)
  refine ⟨_, (pss_cons (ps_expr (pe_callS G_need_table hr rfl D_need_table.g D_need_table.F.kp D_need_table.b (fun σ => passAt (takes_of rfl rfl rfl rfl) σ) (pa_cons (pv 0) pa_nil)))
    (pss_one (ps_ret (pe_lc (own := [("column", 1)]) rfl sc_column_sums.nd (k_pi_zipS (K := KK) (by rfl) T.no_zip (pv 0)) (blkOk_by (N := n_column_sums) (sc := defScope s_column_sums) (by decide +kernel))
      (fun _ _ _ _ _ => (pg_name (i := 1) sc_column_sums.nd rfl (.inl rfl))) (fun _ _ _ _ _ => pts_nil) (fun _ _ _ _ _ => (pe_callB (id := "sum") (k_sumX (K := KK) rfl) (by rfl) T.no_sum (by decide +kernel) (pa_cons (pv 1) pa_nil))))))), ?_⟩
  refine body_retX h fun es r hR => ?_
  obtain ⟨t, rfl, hlen, ht, rfl⟩ := hR
  exact .inl (es_x (x_seqE (x_drop (ee_call (ea_cons (ev_var rfl) ea_nil) ⟨t, rfl, hlen, .inr ⟨ht, rfl⟩⟩))))
theorem ok_small_places {f : Addr} {fd : FuncData} (T : Txt mg t_MOST c_BadNumber c_BadPlace c_BadTable c_BadView c_NoTable c_NotHidden c_VeilError) (D : Dfn KK mg "small_places" s_small_places ["table", "bound"] f fd) {f_need_table : Addr} {fd_need_table : FuncData} (D_need_table : Dfn KK mg "need_table" s_need_table ["thing"] f_need_table fd_need_table) (G_need_table : FnOk P w KK mg base (L2.CX P w) 3 f_need_table fd_need_table ["thing"] (spX (R_need_table c_BadTable))) {f_need_number : Addr} {fd_need_number : FuncData} (D_need_number : Dfn KK mg "need_number" s_need_number ["thing"] f_need_number fd_need_number) (G_need_number : FnOk P w KK mg base (L2.CX P w) 2 f_need_number fd_need_number ["thing"] (spX R_need_number)) : FnOk P w KK mg base (L2.CX P w) 4 f fd ["table", "bound"] (spX (R_small_places c_BadTable)) := by
  refine D.F.okX sc_small_places (lenX_of fun es r h => by obtain ⟨_, _, rfl, _⟩ := h <;> rfl) (fun cdv A outer s H vs Q E hr h => ?_)
  refine ⟨_, (pss_cons (ps_expr (pe_callS G_need_table hr rfl D_need_table.g D_need_table.F.kp D_need_table.b (fun σ => passAt (takes_of rfl rfl rfl rfl) σ) (pa_cons (pv 0) pa_nil)))
    (pss_cons (ps_expr (pe_callS G_need_number (hr.mono (by decide)) rfl D_need_number.g D_need_number.F.kp D_need_number.b (fun σ => passAt (takes_of rfl rfl rfl rfl) σ) (pa_cons (pv 1) pa_nil)))
    (pss_one (ps_ret (pe_lc2 (own := [("at", 2), ("row", 3), ("across", 4), ("count", 5)]) (vs1 := [4, 5]) rfl sc_small_places.nd (k_pi_enum (K := KK) (by rfl) T.no_enumerate (pa_cons (pv 0) pa_nil)) (blkOk_by (N := n_small_places) (sc := defScope s_small_places) (by decide +kernel)) (by decide)
      (fun _ _ _ _ _ => (k_pg_tup (K := KK) (n := 2) rfl (pgs_cons (pg_name (i := 2) sc_small_places.nd rfl (.inl rfl)) (pgs_cons (pg_name (i := 3) sc_small_places.nd rfl (.inl rfl)) pgs_nil)))) (fun _ _ _ _ _ => pts_nil) (fun _ _ _ _ _ => (k_pi_enum (K := KK) (by rfl) T.no_enumerate (pa_cons (pv 3) pa_nil))) (fun _ _ _ _ _ => (k_pg_tup (K := KK) (n := 2) rfl (pgs_cons (pg_name (i := 4) sc_small_places.nd rfl (.inl rfl)) (pgs_cons (pg_name (i := 5) sc_small_places.nd rfl (.inl rfl)) pgs_nil)))) (fun _ _ _ _ _ => pts_one (pt_chain op_le op_le pe_int (pv 5) (pv 1))) (fun _ _ _ _ _ => (pe_tup (pa_cons (pv 2) (pa_cons (pv 4) pa_nil))))))))), ?_⟩
  refine body_retX h fun es r hR => ?_
  obtain ⟨t, b, rfl, hlen, ht, rfl⟩ := hR
  exact .inl (es_x (x_seqE (x_drop (ee_call (ea_cons (ev_var rfl) ea_nil) ⟨t, rfl, hlen, .inr ⟨ht, rfl⟩⟩))))
theorem ok__law_mix {f : Addr} {fd : FuncData} (T : Txt mg t_MOST c_BadNumber c_BadPlace c_BadTable c_BadView c_NoTable c_NotHidden c_VeilError) (D : Dfn KK mg "_law_mix" s__law_mix ["_law_script", "_law_k"] f fd) : FnOk P w KK mg base CX0 1 f fd ["_law_script", "_law_k"] (spF R__law_mix) := by
  refine D.F.ok sc__law_mix (len_of fun es d h => by obtain ⟨_, _, rfl, _⟩ := h <;> rfl) (fun cdv A outer s H vs Q E hr h => ?_)
  refine ⟨_, (pss_cons (ps_set (i := 2) sc__law_mix.nd rfl (.inl rfl) pe_int)
    (pss_cons (ps_if (pt_cmpR op_gt (pe_callB (id := "len") (k_len (K := KK)) (by rfl) T.no_len (by decide +kernel) (pa_cons (pv 0) pa_nil)) pe_int (nomark _)) (pss_one (ps_set (i := 2) sc__law_mix.nd rfl (.inl rfl) (pe_op op_add (pe_ix (k_ixL (K := KK)) (pv 0) (pe_op op_mod (pv 1) (pe_callB (id := "len") (k_len (K := KK)) (by rfl) T.no_len (by decide +kernel) (pa_cons (pv 0) pa_nil))) (fun _ _ => rfl)) (pe_op op_fdiv (pv 1) (pe_callB (id := "len") (k_len (K := KK)) (by rfl) T.no_len (by decide +kernel) (pa_cons (pv 0) pa_nil)))))) pss_nil)
    (pss_cons (ps_set (i := 3) sc__law_mix.nd rfl (.inl rfl) (pe_op op_mod (pe_op op_mul (pe_op op_add (pv 2) (pe_op op_mul pe_int (pe_op op_add (pv 1) pe_int))) pe_int) pe_int))
    (pss_one (ps_ret (pe_op op_mod (pe_op op_mul (pv 3) (pv 3)) pe_int)))))), ?_⟩
  refine body_ret h fun es d hR => ?_
  obtain ⟨ns, k, rfl, hlen, rfl⟩ := hR
  have hl : ((ns.map PyData.int).length : Int) = ns.length := by rw [List.length_map]
  refine es_seq (es_asg ev_int) (es_seq (ds1 := [some (eI ns), some (.int k), some (.int (if 0 < ns.length then ns.getD (k % (ns.length : Int)).toNat 0 + k / (ns.length : Int) else 0)), none]) ?_ (es_seq (es_asg (ev_mod (ev_mul (ev_add (ev_var rfl) (ev_mul ev_int (ev_add (ev_var rfl) ev_int) (.inl (by decide)))) ev_int (.inr (by decide))) ev_int (by decide))) (es_ret (ev_mod (ev_mul (ev_var rfl) (ev_var rfl) (.inl ⟨?_, ?_⟩)) ev_int (by decide)))))
  · by_cases h0 : 0 < ns.length
    · refine es_if (b := true) (eb_is (eb_test (ev_gt (e_len (ev_var rfl)) ev_int)) ?_) (fun _ => ?_) fun z => nomatch z
      · exact decide_eq_true (by rw [hl]; omega)
      rw [if_pos h0]
      have p0 : (0 : Int) < (ns.map PyData.int).length := by rw [hl]; omega
      refine es_is (es_asg (ev_add (ev_ixI (ns := ns) (ev_var rfl) (ev_mod (ev_var rfl) (e_len (ev_var rfl)) p0) (Int.emod_nonneg _ (by omega)) (by rw [hl]; exact Int.emod_lt_of_pos _ (by omega))) (ev_fdiv (ev_var rfl) (e_len (ev_var rfl)) ⟨p0, by rw [hl]; omega⟩))) ?_
      rw [hl]
      rfl
    · refine es_if (b := false) (eb_is (eb_test (ev_gt (e_len (ev_var rfl)) ev_int)) ?_) (fun z => nomatch z) fun _ => ?_
      · exact decide_eq_false (by rw [hl]; omega)
      rw [if_neg h0]
      exact es_next
  · have := Int.emod_nonneg (((if 0 < ns.length then ns.getD (k % (ns.length : Int)).toNat 0 + k / (ns.length : Int) else 0) + 7919 * (k + 1)) * 48271) (show (2147483647 : Int) ≠ 0 by decide)
    omega
  · have := Int.emod_lt_of_pos (((if 0 < ns.length then ns.getD (k % (ns.length : Int)).toNat 0 + k / (ns.length : Int) else 0) + 7919 * (k + 1)) * 48271) (show (0 : Int) < 2147483647 by decide)
    omega
theorem ok__law_count {f : Addr} {fd : FuncData} (T : Txt mg t_MOST c_BadNumber c_BadPlace c_BadTable c_BadView c_NoTable c_NotHidden c_VeilError) (D : Dfn KK mg "_law_count" s__law_count ["_law_script", "_law_k"] f fd) {f__law_mix : Addr} {fd__law_mix : FuncData} (D__law_mix : Dfn KK mg "_law_mix" s__law_mix ["_law_script", "_law_k"] f__law_mix fd__law_mix) (G__law_mix : FnOk P w KK mg base CX0 1 f__law_mix fd__law_mix ["_law_script", "_law_k"] (spF R__law_mix)) : FnOk P w KK mg base CX0 2 f fd ["_law_script", "_law_k"] (spF R__law_count) := by
  refine D.F.ok sc__law_count (len_of fun es d h => by obtain ⟨_, _, rfl, _⟩ := h <;> rfl) (fun cdv A outer s H vs Q E hr h => ?_)
  refine ⟨_, (pss_cons (ps_set (i := 2) sc__law_count.nd rfl (.inl rfl) (pe_call G__law_mix hr rfl D__law_mix.g D__law_mix.F.kp D__law_mix.b .nil pass0 (pa_cons (pv 0) (pa_cons (pv 1) pa_nil))))
    (pss_cons (ps_set (i := 3) sc__law_count.nd rfl (.inl rfl) (pe_op op_fdiv (pv 2) pe_int))
    (pss_cons (ps_if (pt_cmpR op_eq (pe_op op_mod (pv 2) pe_int) pe_int (nomark _)) (pss_one (ps_ret pe_int)) pss_nil)
    (pss_cons (ps_set (i := 4) sc__law_count.nd rfl (.inl rfl) (pe_lst (pa_cons (pe_op op_mod (pv 3) pe_int) (pa_cons (pe_op op_mod (pv 3) pe_int) (pa_cons (pe_op op_mod (pv 3) pe_int) (pa_cons (pe_ix (k_ixL (K := KK)) (pe_lst (pa_cons pe_int (pa_cons pe_int (pa_cons pe_int (pa_cons pe_int pa_nil))))) (pe_op op_mod (pv 3) pe_int) (fun _ _ => rfl)) (pa_cons (pe_op op_mod (pv 3) pe_int) (pa_cons (pe_op op_add (pe_op op_mul (pv 3) (pe_op op_pow pe_int pe_int)) (pe_op op_mod (pv 3) pe_int)) pa_nil))))))))
    (pss_one (ps_ret (pe_ix (k_ixL (K := KK)) (pv 4) (pe_op op_mod (pe_call G__law_mix hr rfl D__law_mix.g D__law_mix.F.kp D__law_mix.b .nil pass0 (pa_cons (pv 0) (pa_cons pe_int pa_nil))) pe_int) (fun _ _ => rfl)))))))), ?_⟩
  refine body_ret h fun es d hR => ?_
  obtain ⟨ns, k, rfl, hlen, rfl⟩ := hR
  have m0 := mix_lo ns k
  have m1 := mix_hi ns k
  have q0 : 0 ≤ mix ns k / 8 := Int.ediv_nonneg m0 (by decide)
  have q1 : mix ns k / 8 < 2147483629 := by omega
  refine es_seq (es_asg (ev_call (ea_cons (ev_var rfl) (ea_cons (ev_var rfl) ea_nil)) ⟨ns, k, rfl, hlen, rfl⟩)) (es_seq (es_asg (ev_fdiv (ev_var rfl) ev_int ⟨by decide, by decide⟩)) ?_)
  by_cases h : mix ns k % 8 = 0
  · refine es_seqR (es_if (b := true) (eb_is (eb_test (ev_eqI (ev_mod (ev_var rfl) ev_int (by decide)) ev_int)) (decide_eq_true h)) (fun _ => es_ret (ev_is ev_int ?_)) fun z => nomatch z)
    refine congrArg PyData.int ?_
    unfold count
    simp only [h, if_true]
  · refine es_seq (es_if (b := false) (eb_is (eb_test (ev_eqI (ev_mod (ev_var rfl) ev_int (by decide)) ev_int)) (decide_eq_false h)) (fun z => nomatch z) fun _ => es_next) ?_
    refine es_seq (es_asg (d := eI [mix ns k / 8 % 3, mix ns k / 8 % 5, mix ns k / 8 % 12, ([0, 1, 2, 40] : List Int).getD (mix ns k / 8 % 4).toNat 0, mix ns k / 8 % 1000, mix ns k / 8 * 10 ^ 11 + mix ns k / 8 % 7]) (ev_lst (ea_cons (ev_mod (ev_var rfl) ev_int (by decide)) (ea_cons (ev_mod (ev_var rfl) ev_int (by decide)) (ea_cons (ev_mod (ev_var rfl) ev_int (by decide))
      (ea_cons (ev_ixI (ns := [0, 1, 2, 40]) (ev_lst (ea_cons ev_int (ea_cons ev_int (ea_cons ev_int (ea_cons ev_int ea_nil)))) (by decide)) (ev_mod (ev_var rfl) ev_int (by decide)) (Int.emod_nonneg _ (by decide)) (Int.emod_lt_of_pos _ (by decide)))
      (ea_cons (ev_mod (ev_var rfl) ev_int (by decide)) (ea_cons (ev_add (ev_mul (ev_var rfl) (ev_is (ev_pow ev_int ev_int ⟨by decide, by decide, by decide⟩) rfl) (.inl ⟨by omega, by omega⟩)) (ev_mod (ev_var rfl) ev_int (by decide))) ea_nil)))))) (by simp))) ?_
    refine es_ret (ev_is (ev_ixI (ns := [mix ns k / 8 % 3, mix ns k / 8 % 5, mix ns k / 8 % 12, ([0, 1, 2, 40] : List Int).getD (mix ns k / 8 % 4).toNat 0, mix ns k / 8 % 1000, mix ns k / 8 * 10 ^ 11 + mix ns k / 8 % 7]) (ev_var rfl) (ev_mod (ev_call (ea_cons (ev_var rfl) (ea_cons ev_int ea_nil)) ⟨ns, 2, rfl, hlen, rfl⟩) ev_int (by decide)) (Int.emod_nonneg _ (by decide)) (Int.emod_lt_of_pos _ (by decide))) ?_)
    refine congrArg PyData.int ?_
    unfold count
    simp only [h, if_false]
theorem ok__law_table {f : Addr} {fd : FuncData} (T : Txt mg t_MOST c_BadNumber c_BadPlace c_BadTable c_BadView c_NoTable c_NotHidden c_VeilError) (D : Dfn KK mg "_law_table" s__law_table ["_law_script", "_law_high", "_law_wide"] f fd) {f__law_count : Addr} {fd__law_count : FuncData} (D__law_count : Dfn KK mg "_law_count" s__law_count ["_law_script", "_law_k"] f__law_count fd__law_count) (G__law_count : FnOk P w KK mg base CX0 2 f__law_count fd__law_count ["_law_script", "_law_k"] (spF R__law_count)) : FnOk P w KK mg base CX0 3 f fd ["_law_script", "_law_high", "_law_wide"] (spF R__law_table) := by
  refine D.F.ok sc__law_table (len_of fun es d h => by obtain ⟨_, _, _, rfl, _⟩ := h <;> rfl) (fun cdv A outer s H vs Q E hr h => ?_)
  refine ⟨_, (pss_cons (ps_set (i := 3) sc__law_table.nd rfl (.inl rfl) (pe_lst pa_nil))
    (pss_cons (ps_for PassesOwn.never rfl (pi_range1 (by rfl) T.no_range (pa_cons (pv 1) pa_nil)) (pg_name (i := 4) sc__law_table.nd rfl (.inr rfl))
    (pss_one (ps_expr (pe_bm PySem.F.plainAttrs_list PySem.F.slot_list_append PySem.F.type_list_append mt_append (pv 3) (pa_cons (pe_lc (own := [("_law_column", 5)]) rfl sc__law_table.nd (pi_range1 (by rfl) T.no_range (pa_cons (pv 2) pa_nil)) (blkOk_by (N := n__law_table) (sc := defScope s__law_table) (by decide +kernel))
      (fun _ _ _ _ _ => (pg_name (i := 5) sc__law_table.nd rfl (.inl rfl))) (fun _ _ _ _ _ => pts_nil) (fun _ _ _ _ _ => (pe_call G__law_count hr rfl D__law_count.g D__law_count.F.kp D__law_count.b .nil pass0 (pa_cons (pv 0) (pa_cons (pe_op op_add (pe_op op_add pe_int (pe_op op_mul (pv 2) (pv 4))) (pv 5)) pa_nil))))) pa_nil)))))
    (pss_one (ps_ret (pv 3))))), ?_⟩
  refine body_ret h fun es d hR => ?_
  obtain ⟨ns, h, w, rfl, hlen, hh, hw, rfl⟩ := hR
  refine es_buildR (j := 4) (k := 3) (f := fun r => eI ((List.range w.toNat).map fun (c : Nat) => count ns (8 + w * (r : Int) + (c : Int)))) (by decide) (show (3 : Nat) < 6 from by decide) (ea_cons (ev_var rfl) ea_nil) (by omega) (by omega) (fun i hi => ev_is (ev_lcR1 (f := fun c => .int (count ns (8 + w * (i : Int) + (c : Int)))) (ea_cons (ev_var rfl) ea_nil) (by omega) (by omega) fun c hc => ev_call (ea_cons (ev_var rfl) (ea_cons (ev_add (ev_add ev_int (ev_mul (ev_var rfl) (ev_var rfl) (.inl ⟨by omega, by omega⟩))) (ev_var rfl)) ea_nil)) ⟨ns, _, rfl, hlen, rfl⟩) ?_) (es_ret (ev_is (ev_var rfl) ?_))
  · show PyData.list _ = PyData.list _
    rw [List.map_map]
    rfl
  · show PyData.list _ = PyData.list _
    rw [tabl, List.map_map]
    rfl
theorem ok__law_odd {f : Addr} {fd : FuncData} (T : Txt mg t_MOST c_BadNumber c_BadPlace c_BadTable c_BadView c_NoTable c_NotHidden c_VeilError) (D : Dfn KK mg "_law_odd" s__law_odd ["_law_number"] f fd) : FnOk P w KK mg base CX0 1 f fd ["_law_number"] (spF R__law_odd) := by
  refine D.F.ok sc__law_odd (len_of fun es d h => by obtain ⟨_, rfl, _⟩ := h <;> rfl) (fun cdv A outer s H vs Q E hr h => ?_)
  refine ⟨_, (pss_cons (ps_set (i := 1) sc__law_odd.nd rfl (.inl rfl) (pe_lst (pa_cons pe_bl (pa_cons pe_bl (pa_cons pe_non (pa_cons (pe_un un_neg pe_int) (pa_cons pe_str (pa_cons (pe_lst (pa_cons pe_int pa_nil)) (pa_cons (pe_tup (pa_cons pe_int pa_nil)) (pa_cons pe_dnewK (pa_cons pe_str (pa_cons (pe_lst pa_nil) (pa_cons (pe_op op_sub pe_int (pe_op op_pow pe_int pe_int)) (pa_cons (pe_lst (pa_cons (pe_lst (pa_cons pe_int pa_nil)) pa_nil)) (pa_cons pe_str pa_nil)))))))))))))))
    (pss_one (ps_ret (pe_ix (k_ixL (K := KK)) (pv 1) (pe_op op_mod (pv 0) pe_int) (fun _ _ => rfl))))), ?_⟩
  refine body_ret h fun es d hR => ?_
  obtain ⟨n, rfl, hn, rfl⟩ := hR
  have k0 : 0 ≤ n % 13 ∧ n % 13 < 13 := ⟨Int.emod_nonneg _ (by decide), Int.emod_lt_of_pos _ (by decide)⟩
  refine es_seq (es_asg (d := .list oddL) (ev_lst (ea_cons ev_bl (ea_cons ev_bl (ea_cons ev_non (ea_cons (ev_neg ev_int) (ea_cons ev_str (ea_cons (ev_lst (ea_cons ev_int ea_nil) (by simp)) (ea_cons (ev_tup (ea_cons ev_int ea_nil) (by simp)) (ea_cons ev_dict0 (ea_cons ev_str (ea_cons (ev_lst ea_nil (by simp)) (ea_cons (ev_sub ev_int (ev_is (ev_pow ev_int ev_int ⟨by decide, by decide, by decide⟩) rfl)) (ea_cons (ev_lst (ea_cons (ev_lst (ea_cons ev_int ea_nil) (by simp)) ea_nil) (by simp)) (ea_cons ev_str ea_nil))))))))))))) (show 13 ≤ 100000 by decide))) ?_
  exact es_ret (ev_ixL (ev_var rfl) (ev_mod (ev_var rfl) ev_int (by decide)) (at_getD k0.1 (show n % 13 < 13 from k0.2)))
theorem ok__law_row {f : Addr} {fd : FuncData} (T : Txt mg t_MOST c_BadNumber c_BadPlace c_BadTable c_BadView c_NoTable c_NotHidden c_VeilError) (D : Dfn KK mg "_law_row" s__law_row ["_law_row_here", "_law_number"] f fd) : FnOk P w KK mg base CX0 1 f fd ["_law_row_here", "_law_number"] (spF R__law_row) := by
  refine D.F.ok sc__law_row (len_of fun es d h => by obtain ⟨_, _, rfl, _⟩ := h <;> rfl) (fun cdv A outer s H vs Q E hr h => ?_)
  refine ⟨_, (pss_cons (ps_if (pt_cmpR op_eq (pe_op op_mod (pv 1) pe_int) pe_int (nomark _)) (pss_one (ps_ret (pe_slice (k_slL (K := KK)) (pv 0) po_none (po_some (pe_un un_neg pe_int))))) pss_nil)
    (pss_cons (ps_if (pt_cmpR op_eq (pe_op op_mod (pv 1) pe_int) pe_int (nomark _)) (pss_one (ps_ret (pe_op (k_cat (K := KK)) (pv 0) (pe_lst (pa_cons pe_int pa_nil))))) pss_nil)
    (pss_cons (ps_if (pt_cmpR op_eq (pe_op op_mod (pv 1) pe_int) pe_int (nomark _)) (pss_one (ps_ret (pe_callTy (T := "tuple") (k_tuple (K := KK)) (by rfl) T.no_tuple (by decide +kernel) (pa_cons (pv 0) pa_nil)))) pss_nil)
    (pss_one (ps_ret (pe_ix (k_ixL (K := KK)) (pe_lst (pa_cons (pe_lst pa_nil) (pa_cons pe_str (pa_cons pe_non pa_nil)))) (pe_op op_sub (pe_op op_mod (pv 1) pe_int) pe_int) (fun _ _ => rfl))))))), ?_⟩
  refine body_ret h fun es d hR => ?_
  obtain ⟨row, n, rfl, hn, hlen, rfl⟩ := hR
  have k0 : 0 ≤ n % 6 ∧ n % 6 < 6 := ⟨Int.emod_nonneg _ (by decide), Int.emod_lt_of_pos _ (by decide)⟩
  have md : EvE _ _ (.int (n % 6)) := ev_mod (ev_var (ds := startD 2 [eI row, .int n]) (i := 1) rfl) (ev_int (i := 6)) (by decide)
  have md := md
  by_cases h0 : n % 6 = 0
  · refine es_seqR (es_if (b := true) (eb_is (eb_test (ev_eqI (ev_mod (ev_var rfl) ev_int (by decide)) ev_int)) (decide_eq_true h0)) (fun _ => es_ret (ev_is (ev_slice (ev_var rfl) eo_non (eo_int (ev_neg ev_int))) ?_)) fun z => nomatch z)
    rw [rowOdd, if_pos h0]
  refine es_seq (es_if (b := false) (eb_is (eb_test (ev_eqI (ev_mod (ev_var rfl) ev_int (by decide)) ev_int)) (decide_eq_false h0)) (fun z => nomatch z) fun _ => es_next) ?_
  by_cases h1 : n % 6 = 1
  · refine es_seqR (es_if (b := true) (eb_is (eb_test (ev_eqI (ev_mod (ev_var rfl) ev_int (by decide)) ev_int)) (decide_eq_true h1)) (fun _ => es_ret (ev_is (ev_cat (ev_var rfl) (ev_lst (ea_cons ev_int ea_nil) (by simp)) (by simp; omega)) ?_)) fun z => nomatch z)
    rw [rowOdd, if_neg h0, if_pos h1]
  refine es_seq (es_if (b := false) (eb_is (eb_test (ev_eqI (ev_mod (ev_var rfl) ev_int (by decide)) ev_int)) (decide_eq_false h1)) (fun z => nomatch z) fun _ => es_next) ?_
  by_cases h2 : n % 6 = 2
  · refine es_seqR (es_if (b := true) (eb_is (eb_test (ev_eqI (ev_mod (ev_var rfl) ev_int (by decide)) ev_int)) (decide_eq_true h2)) (fun _ => es_ret (ev_is (ev_tupOf (ev_var rfl)) ?_)) fun z => nomatch z)
    rw [rowOdd, if_neg h0, if_neg h1, if_pos h2]
  refine es_seq (es_if (b := false) (eb_is (eb_test (ev_eqI (ev_mod (ev_var rfl) ev_int (by decide)) ev_int)) (decide_eq_false h2)) (fun z => nomatch z) fun _ => es_next) ?_
  refine es_ret (ev_is (ev_ixL (ts := rowL) (ev_lst (ea_cons (ev_lst ea_nil (by simp)) (ea_cons ev_str (ea_cons ev_non ea_nil))) (show 3 ≤ 100000 by decide)) (ev_sub (ev_mod (ev_var rfl) ev_int (by decide)) ev_int) (at_getD (by omega) (show n % 6 - 3 < 3 by omega))) ?_)
  rw [rowOdd, if_neg h0, if_neg h1, if_neg h2]
theorem ok__law_other {f : Addr} {fd : FuncData} (T : Txt mg t_MOST c_BadNumber c_BadPlace c_BadTable c_BadView c_NoTable c_NotHidden c_VeilError) (D : Dfn KK mg "_law_other" s__law_other ["_law_table_here", "_law_number"] f fd) : FnOk P w KK mg base CX0 1 f fd ["_law_table_here", "_law_number"] (spF R__law_other) := by
  refine D.F.ok sc__law_other (len_of fun es d h => by obtain ⟨_, _, rfl, _⟩ := h <;> rfl) (fun cdv A outer s H vs Q E hr h => ?_)
  refine ⟨_, (pss_cons (ps_set (i := 2) sc__law_other.nd rfl (.inl rfl) (pe_lst (pa_cons (pe_callTy (T := "tuple") (k_tuple (K := KK)) (by rfl) T.no_tuple (by decide +kernel) (pa_cons (pv 0) pa_nil)) (pa_cons (pe_lst pa_nil) (pa_cons (pe_lst (pa_cons (pe_lst pa_nil) pa_nil)) (pa_cons pe_non (pa_cons pe_int (pa_cons pe_str (pa_cons (pe_disp (pps_cons pe_int (pe_lst (pa_cons pe_int pa_nil)) pps_nil) rfl rfl (by simp) (by decide)) (pa_cons (pe_tup pa_nil) (pa_cons pe_bl (pa_cons (pe_lst (pa_cons (pv 0) pa_nil)) (pa_cons pe_dnewK (pa_cons (pe_lst (pa_cons pe_int pa_nil)) (pa_cons (pe_lst (pa_cons (pe_tup (pa_cons pe_int pa_nil)) pa_nil)) pa_nil)))))))))))))))
    (pss_one (ps_ret (pe_ix (k_ixL (K := KK)) (pe_op (k_cat (K := KK)) (pv 2) (pe_op (k_rep (K := KK)) (pe_lst (pa_cons (pe_callTy (T := "tuple") (k_tuple (K := KK)) (by rfl) T.no_tuple (by decide +kernel) (pa_cons (pv 0) pa_nil)) pa_nil)) pe_int)) (pe_op op_mod (pv 1) pe_int) (fun _ _ => rfl))))), ?_⟩
  refine body_ret h fun es d hR => ?_
  obtain ⟨M, n, rfl, hn, rfl⟩ := hR
  have k0 : 0 ≤ n % 18 ∧ n % 18 < 18 := ⟨Int.emod_nonneg _ (by decide), Int.emod_lt_of_pos _ (by decide)⟩
  refine es_seq (es_asg (ev_lst (ea_cons (ev_tupOf (ev_var rfl)) (ea_cons (ev_lst ea_nil (by simp)) (ea_cons (ev_lst (ea_cons (ev_lst ea_nil (by simp)) ea_nil) (by simp)) (ea_cons ev_non (ea_cons ev_int (ea_cons ev_str (ea_cons (ev_dict1 ev_int (ev_lst (ea_cons ev_int ea_nil) (by simp))) (ea_cons (ev_tup ea_nil (by simp)) (ea_cons ev_bl (ea_cons (ev_lst (ea_cons (ev_var rfl) ea_nil) (by simp)) (ea_cons ev_dict0 (ea_cons (ev_lst (ea_cons ev_int ea_nil) (by simp)) (ea_cons (ev_lst (ea_cons (ev_tup (ea_cons ev_int ea_nil) (by simp)) ea_nil) (by simp)) ea_nil))))))))))))) (show 13 ≤ 100000 by decide))) ?_
  exact es_ret (ev_ixL (ts := othL M) (ev_cat (ev_var rfl) (ev_rep (ev_lst (ea_cons (ev_tupOf (ev_var rfl)) ea_nil) (by simp)) ev_int (by decide) (by decide) (show 1 * 5 ≤ 100000 by decide)) (show 13 + 5 ≤ 100000 by decide)) (ev_mod (ev_var rfl) ev_int (by decide)) (at_getD k0.1 (show n % 18 < 18 from k0.2)))
theorem ok__law_spoilt {f : Addr} {fd : FuncData} (T : Txt mg t_MOST c_BadNumber c_BadPlace c_BadTable c_BadView c_NoTable c_NotHidden c_VeilError) (D : Dfn KK mg "_law_spoilt" s__law_spoilt ["_law_script", "_law_table_here"] f fd) {f__law_mix : Addr} {fd__law_mix : FuncData} (D__law_mix : Dfn KK mg "_law_mix" s__law_mix ["_law_script", "_law_k"] f__law_mix fd__law_mix) (G__law_mix : FnOk P w KK mg base CX0 1 f__law_mix fd__law_mix ["_law_script", "_law_k"] (spF R__law_mix)) {f__law_other : Addr} {fd__law_other : FuncData} (D__law_other : Dfn KK mg "_law_other" s__law_other ["_law_table_here", "_law_number"] f__law_other fd__law_other) (G__law_other : FnOk P w KK mg base CX0 1 f__law_other fd__law_other ["_law_table_here", "_law_number"] (spF R__law_other)) {f__law_odd : Addr} {fd__law_odd : FuncData} (D__law_odd : Dfn KK mg "_law_odd" s__law_odd ["_law_number"] f__law_odd fd__law_odd) (G__law_odd : FnOk P w KK mg base CX0 1 f__law_odd fd__law_odd ["_law_number"] (spF R__law_odd)) {f__law_row : Addr} {fd__law_row : FuncData} (D__law_row : Dfn KK mg "_law_row" s__law_row ["_law_row_here", "_law_number"] f__law_row fd__law_row) (G__law_row : FnOk P w KK mg base CX0 1 f__law_row fd__law_row ["_law_row_here", "_law_number"] (spF R__law_row)) : FnOk P w KK mg base CX0 2 f fd ["_law_script", "_law_table_here"] (spF R__law_spoilt) := by
  refine D.F.ok sc__law_spoilt (len_of fun es d h => by obtain ⟨_, _, _, rfl, _⟩ := h <;> rfl) (fun cdv A outer s H vs Q E hr h => ?_)
  refine ⟨_, (pss_cons (ps_set (i := 2) sc__law_spoilt.nd rfl (.inl rfl) (pe_op op_mod (pe_call G__law_mix hr rfl D__law_mix.g D__law_mix.F.kp D__law_mix.b .nil pass0 (pa_cons (pv 0) (pa_cons pe_int pa_nil))) pe_int))
    (pss_cons (ps_set (i := 3) sc__law_spoilt.nd rfl (.inl rfl) (pe_op op_mod (pe_call G__law_mix hr rfl D__law_mix.g D__law_mix.F.kp D__law_mix.b .nil pass0 (pa_cons (pv 0) (pa_cons pe_int pa_nil))) (pe_callB (id := "len") (k_len (K := KK)) (by rfl) T.no_len (by decide +kernel) (pa_cons (pv 1) pa_nil))))
    (pss_cons (ps_set (i := 4) sc__law_spoilt.nd rfl (.inr rfl) (pe_call G__law_mix hr rfl D__law_mix.g D__law_mix.F.kp D__law_mix.b .nil pass0 (pa_cons (pv 0) (pa_cons pe_int pa_nil))))
    (pss_cons (ps_setLc (i := 5) (own := [("_law_one", 6)]) rfl sc__law_spoilt.nd rfl rfl (sw_true rfl rfl rfl (by decide +kernel)) (k_pi_list (K := KK) (pv 1)) (blkOk_by (N := n__law_spoilt) (sc := defScope s__law_spoilt) (by decide +kernel))
      (fun _ _ _ _ _ => (pg_name (i := 6) sc__law_spoilt.nd rfl (.inl rfl))) (fun _ _ _ _ _ => pts_nil) (fun _ _ _ _ _ => (pe_callTy (T := "list") (k_list (K := KK)) (by rfl) T.no_list (by decide +kernel) (pa_cons (pv 6) pa_nil))))
    (pss_cons (ps_if (pt_cmpR op_lt (pv 2) pe_int (nomark _)) (pss_one (ps_ret (pv 5))) pss_nil)
    (pss_cons (ps_if (pt_cmpR op_lt (pv 2) pe_int (nomark _)) (pss_cons (ps_asg (pe_call G__law_odd hr rfl D__law_odd.g D__law_odd.F.kp D__law_odd.b .nil pass0 (pa_cons (pv 4) pa_nil)) (pg_sub (pe_ix (k_ixL (K := KK)) (pv 5) (pv 3) (fun _ _ => rfl)) (pe_op op_mod (pe_call G__law_mix hr rfl D__law_mix.g D__law_mix.F.kp D__law_mix.b .nil pass0 (pa_cons (pv 0) (pa_cons pe_int pa_nil))) (pe_callB (id := "len") (k_len (K := KK)) (by rfl) T.no_len (by decide +kernel) (pa_cons (pe_ix (k_ixL (K := KK)) (pv 1) pe_int (fun _ _ => rfl)) pa_nil))) set_list))
    (pss_one (ps_ret (pv 5)))) pss_nil)
    (pss_cons (ps_if (pt_cmpR op_eq (pv 2) pe_int (nomark _)) (pss_cons (ps_asg (pe_call G__law_row hr rfl D__law_row.g D__law_row.F.kp D__law_row.b .nil pass0 (pa_cons (pe_ix (k_ixL (K := KK)) (pv 5) (pv 3) (fun _ _ => rfl)) (pa_cons (pv 4) pa_nil))) (pg_sub (pv 5) (pv 3) set_list))
    (pss_one (ps_ret (pv 5)))) pss_nil)
    (pss_cons (ps_if (pt_cmpR op_eq (pv 2) pe_int (nomark _)) (pss_one (ps_ret (pe_slice (k_slL (K := KK)) (pe_op (k_rep (K := KK)) (pv 5) pe_int) po_none (po_some (pe_op op_add pe_int (pe_op op_mod (pv 4) pe_int)))))) pss_nil)
    (pss_cons (ps_if (pt_cmpR op_eq (pv 2) pe_int (nomark _)) (pss_one (ps_ret (pe_lc (own := [("_law_one", 6)]) rfl sc__law_spoilt.nd (k_pi_list (K := KK) (pv 5)) (blkOk_by (N := n__law_spoilt) (sc := defScope s__law_spoilt) (by decide +kernel))
      (fun _ _ _ _ _ => (pg_name (i := 6) sc__law_spoilt.nd rfl (.inl rfl))) (fun _ _ _ _ _ => pts_nil) (fun _ _ _ _ _ => (pe_slice (k_slL (K := KK)) (pe_op (k_rep (K := KK)) (pv 6) pe_int) po_none (po_some (pe_op op_add pe_int (pe_op op_mod (pv 4) pe_int)))))))) pss_nil)
    (pss_one (ps_ret (pe_call G__law_other hr rfl D__law_other.g D__law_other.F.kp D__law_other.b .nil pass0 (pa_cons (pv 5) (pa_cons (pv 4) pa_nil)))))))))))))), ?_⟩
  refine body_ret h fun es d hR => ?_
  obtain ⟨ns, M, w, rfl, hlen, t, rfl⟩ := hR
  have h8 := t.h8
  have g1 := t.h1
  have w1 := t.w1
  have w8 := t.w8
  have lM : ((M.map eI).length : Int) = M.length := by rw [List.length_map]
  have e0 : (M.getD 0 []).length = w := row_len t (by omega)
  have lr : (((M.getD 0 []).map PyData.int).length : Int) = w := by rw [List.length_map, e0]
  have mixE : ∀ (ds : De) (k : Int), ds[0]? = some (some (eI ns)) → EvE (tCall (spF R__law_mix) [] E0 (tCons (tVar 0) (tCons (tC (.int k)) tNil))) ds (.int (mix ns k)) := fun ds k e => ev_call (ea_cons (ev_var e) (ea_cons ev_int ea_nil)) ⟨ns, k, rfl, hlen, rfl⟩
  have n0 := mix_lo ns 6
  have r0 : 0 ≤ mix ns 4 % (M.length : Int) ∧ mix ns 4 % (M.length : Int) < M.length := ⟨Int.emod_nonneg _ (by omega), Int.emod_lt_of_pos _ (by omega)⟩
  have c0 : 0 ≤ mix ns 5 % (w : Int) ∧ mix ns 5 % (w : Int) < w := ⟨Int.emod_nonneg _ (by omega), Int.emod_lt_of_pos _ (by omega)⟩
  have k0 : 0 ≤ mix ns 3 % 8 ∧ mix ns 3 % 8 < 8 := ⟨Int.emod_nonneg _ (by decide), Int.emod_lt_of_pos _ (by decide)⟩
  refine es_seq (es_asg (ev_mod (mixE _ _ rfl) ev_int (by decide))) ?_
  refine es_seq (es_asg (d := .int (mix ns 4 % (M.length : Int))) (ev_is (ev_mod (mixE _ _ rfl) (e_len (ev_var rfl)) (by omega)) (by rw [lM]))) ?_
  refine es_seq (es_asg (mixE _ _ rfl)) ?_
  refine wr_new (d := eM M) (en_lcL (g := eI) (f := eI) (ev_var rfl) (by omega) fun row hr => n_list (ev_var rfl) (by rw [List.all_map]; exact List.all_eq_true.mpr fun _ _ => rfl)) (show (5 : Nat) < 7 from by decide) ?_
  show EvWr _ [some (eI ns), some (eM M), some (.int (mix ns 3 % 8)), some (.int (mix ns 4 % (M.length : Int))), some (.int (mix ns 6)), none, none] 5 (eM M) _
  unfold spoilt
  dsimp only
  generalize mix ns 3 % 8 = way at k0
  generalize mix ns 4 % (M.length : Int) = r at r0
  generalize mix ns 6 = n at n0
  have q0 : 0 ≤ n % 2 ∧ n % 2 < 2 := ⟨Int.emod_nonneg _ (by decide), Int.emod_lt_of_pos _ (by decide)⟩
  by_cases a0 : way < 2
  · rw [if_pos a0]
    exact wr_if1 (eb_is (eb_test (ev_lt (ev_var rfl) ev_int)) (decide_eq_true a0)) (wr_done (E := E) (es_ret (ev_var rfl)))
  rw [if_neg a0]
  refine wr_if0 (eb_is (eb_test (ev_lt (ev_var rfl) ev_int)) (decide_eq_false a0)) ?_
  by_cases a1 : way < 4
  · rw [if_pos a1]
    refine wr_if1 (eb_is (eb_test (ev_lt (ev_var rfl) ev_int)) (decide_eq_true a1)) (wr_setC (E := E) (c := mix ns 5 % (w : Int)) (ev_call (ea_cons (ev_var rfl) ea_nil) ⟨n, rfl, n0, rfl⟩) (ev_var rfl) (ev_is (ev_mod (mixE _ _ rfl) (e_len (ev_ixL (ev_var rfl) ev_int (at_row (r := 0) (by omega)))) (by omega)) (by rw [lr])) r0.1 r0.2 c0.1 ?_ (es_ret (ev_var rfl)))
    rw [row_len t (by omega)]
    exact c0.2
  rw [if_neg a1]
  refine wr_if0 (eb_is (eb_test (ev_lt (ev_var rfl) ev_int)) (decide_eq_false a1)) ?_
  by_cases a2 : way = 4
  · rw [if_pos a2]
    refine wr_if1 (eb_is (eb_test (ev_eqI (ev_var rfl) ev_int)) (decide_eq_true a2)) (wr_setR (E := E) (ev_var rfl) (ev_var rfl) (ev_var rfl) r0.1 r0.2 ⟨_, n, rfl, n0, ?_, rfl⟩ (es_ret (ev_var rfl)))
    rw [row_len t (by omega)]
    exact w8
  rw [if_neg a2]
  refine wr_if0 (eb_is (eb_test (ev_eqI (ev_var rfl) ev_int)) (decide_eq_false a2)) ?_
  by_cases a3 : way = 5
  · rw [if_pos a3]
    exact wr_if1 (eb_is (eb_test (ev_eqI (ev_var rfl) ev_int)) (decide_eq_true a3)) (wr_done (E := E) (es_ret (ev_slice (ev_rep (ev_var rfl) ev_int (by decide) (by decide) (by rw [List.length_map]; show M.length * 9 ≤ 100000; omega)) eo_non (eo_int (ev_add ev_int (ev_mod (ev_var rfl) ev_int (by decide)))))))
  rw [if_neg a3]
  refine wr_if0 (eb_is (eb_test (ev_eqI (ev_var rfl) ev_int)) (decide_eq_false a3)) ?_
  by_cases a4 : way = 6
  · rw [if_pos a4]
    exact wr_if1 (eb_is (eb_test (ev_eqI (ev_var rfl) ev_int)) (decide_eq_true a4)) (wr_done (E := E) (es_ret (ev_lcL1 (xs := M) (g := eI) (f := fun row => .list (cutD (List.replicate (9 : Int).toNat (row.map PyData.int)).flatten none (some (8 + n % 2)))) (ev_var rfl) (by omega) fun row hr => ev_slice (ev_rep (ev_var rfl) ev_int (by decide) (by decide) (by rw [List.length_map, t.len row hr]; show w * 9 ≤ 100000; omega)) eo_non (eo_int (ev_add ev_int (ev_mod (ev_var rfl) ev_int (by decide)))))))
  rw [if_neg a4]
  refine wr_if0 (eb_is (eb_test (ev_eqI (ev_var rfl) ev_int)) (decide_eq_false a4)) ?_
  exact wr_done (E := E) (es_ret (ev_call (ea_cons (ev_var rfl) (ea_cons (ev_var rfl) ea_nil)) ⟨M, n, rfl, n0, rfl⟩))
theorem ok__law_is_table {f : Addr} {fd : FuncData} (T : Txt mg t_MOST c_BadNumber c_BadPlace c_BadTable c_BadView c_NoTable c_NotHidden c_VeilError) (D : Dfn KK mg "_law_is_table" s__law_is_table ["_law_thing"] f fd) : FnOk P w KK mg base CX0 1 f fd ["_law_thing"] (spF R__law_is_table) := by
  refine D.F.ok sc__law_is_table (len_of fun es d h => by obtain ⟨_, rfl, _⟩ := h <;> rfl) (fun cdv A outer s H vs Q E hr h => ?_)
  refine ⟨_, (pss_cons (ps_if (PW.pt (pw_or (pt_not (pt_val (pe_callB (id := "isinstance") (k_isi (K := KK)) (by rfl) T.no_isinstance (by decide +kernel) (pa_cons (pv 0) (pa_cons (pe_bltn (v := .ty "list") (by rfl) T.no_list (by decide +kernel) rfl) pa_nil))))) (pw_or1 (pt_not (pt_chain op_le op_le pe_int (pe_callB (id := "len") (k_len (K := KK)) (by rfl) T.no_len (by decide +kernel) (pa_cons (pv 0) pa_nil)) pe_int))))) (pss_one (ps_ret pe_bl)) pss_nil)
    (pss_cons (ps_for PassesOwn.never rfl (k_pi_list (K := KK) (pv 0)) (pg_name (i := 1) sc__law_is_table.nd rfl (.inl rfl))
    (pss_cons (ps_if (PW.pt (pw_or (pt_not (pt_val (pe_callB (id := "isinstance") (k_isi (K := KK)) (by rfl) T.no_isinstance (by decide +kernel) (pa_cons (pv 1) (pa_cons (pe_bltn (v := .ty "list") (by rfl) T.no_list (by decide +kernel) rfl) pa_nil))))) (pw_or1 (pt_not (pt_chain op_le op_le pe_int (pe_callB (id := "len") (k_len (K := KK)) (by rfl) T.no_len (by decide +kernel) (pa_cons (pv 1) pa_nil)) pe_int))))) (pss_one (ps_ret pe_bl)) pss_nil)
    (pss_one (ps_for PassesOwn.never rfl (k_pi_list (K := KK) (pv 1)) (pg_name (i := 2) sc__law_is_table.nd rfl (.inl rfl))
    (pss_one (ps_if (PW.pt (pw_or (pt_not (pt_val (pe_callB (id := "isinstance") (k_isi (K := KK)) (by rfl) T.no_isinstance (by decide +kernel) (pa_cons (pv 2) (pa_cons (pe_bltn (v := .ty "int") (by rfl) T.no_int (by decide +kernel) rfl) pa_nil))))) (pw_or (pt_val (pe_callB (id := "isinstance") (k_isi (K := KK)) (by rfl) T.no_isinstance (by decide +kernel) (pa_cons (pv 2) (pa_cons (pe_bltn (v := .ty "bool") (by rfl) T.no_bool (by decide +kernel) rfl) pa_nil)))) (pw_or1 (pt_cmpR op_lt (pv 2) pe_int (nomark _)))))) (pss_one (ps_ret pe_bl)) pss_nil))))))
    (pss_one (ps_ret (pe_callB (id := "all") (k_all (K := KK) rfl) (by rfl) T.no_all (by decide +kernel) (pa_cons (pe_lc (own := [("_law_row_here", 1)]) rfl sc__law_is_table.nd (k_pi_list (K := KK) (pv 0)) (blkOk_by (N := n__law_is_table) (sc := defScope s__law_is_table) (by decide +kernel))
      (fun _ _ _ _ _ => (pg_name (i := 1) sc__law_is_table.nd rfl (.inl rfl))) (fun _ _ _ _ _ => pts_nil) (fun _ _ _ _ _ => (pe_cmpR op_eq (pe_callB (id := "len") (k_len (K := KK)) (by rfl) T.no_len (by decide +kernel) (pa_cons (pv 1) pa_nil)) (pe_callB (id := "len") (k_len (K := KK)) (by rfl) T.no_len (by decide +kernel) (pa_cons (pe_ix (k_ixL (K := KK)) (pv 0) pe_int (fun _ _ => rfl)) pa_nil)) (nomark _)))) pa_nil)))))), ?_⟩
  refine body_ret h fun es d hR => ?_
  obtain ⟨t, rfl, hlen, rfl⟩ := hR
  by_cases hb : rowB t = true
  case neg =>
    refine es_is (es_seqR (es_if (b := true) (eb_is (row_bad (eb_test (ev_isi (ev_var rfl) (by decide))) fun cs e => by subst e; exact eb_test (ev_is (ev_chainLe ev_int (e_len (ev_var rfl)) ev_int) (congrArg PyData.bool (by congr 1 <;> exact decide_eq_decide.mpr (by omega))))) (by rw [Bool.not_eq_true] at hb; rw [hb]; rfl)) (fun _ => es_ret ev_bl) fun z => nomatch z)) ?_
    refine congrArg (fun b => Out.rt (.bool b)) ?_
    cases e : tabB t with
    | false => rfl
    | true =>
      exfalso
      refine hb ?_
      cases t with
      | list rows =>
        have hg := ((Bool.and_eq_true _ _).mp (show (gridB (.list rows) && ((cellsD (.list rows)).flatMap cellsD).all fun c => wholeB c 0) = true from e)).1
        obtain ⟨a, b, _, _⟩ := grid_parts hg
        exact rowB_of (r := .list rows) rfl a b
      | _ => cases e
  case pos =>
    obtain ⟨hL, h1, h8⟩ := rowB_is hb
    cases t with
    | list rows =>
      have h1 : 1 ≤ rows.length := h1
      have h8 : rows.length ≤ 8 := h8
      refine es_seq (es_if (b := false) (eb_is (row_bad (eb_test (ev_isi (ev_var rfl) (by decide))) fun cs e => by cases e; exact eb_test (ev_is (ev_chainLe ev_int (e_len (ev_var rfl)) ev_int) (congrArg PyData.bool (by congr 1 <;> exact decide_eq_decide.mpr (by omega))))) (by rw [hb]; rfl)) (fun z => nomatch z) fun _ => es_next) ?_
      have cellB : ∀ (ds : De) (c : PyData), ds[2]? = some (some c) → EvB _ ds (!wholeB c 0) := fun ds c h => cell_bad (eb_test (ev_isi (T := "int") (ev_var h) (by decide))) (eb_test (ev_isi (T := "bool") (ev_var h) (by decide))) fun i e => by subst e; exact eb_test (ev_lt (ev_var h) (ev_int (i := 0)))
      rcases first_bad goodR rows with hg | ⟨k, r, hk, hbad, hpre⟩
      · refine es_seq (es_forL (ts := rows) (ev_var rfl) (fun _ => [some (.list rows), none, none]) (Le.refl _) fun i r hr => ?_) ?_
        · have good : goodR r = true := hg r (List.mem_of_getElem? hr)
          obtain ⟨ga, gb⟩ := (Bool.and_eq_true _ _).mp good
          obtain ⟨gl, g1, g8⟩ := rowB_is ga
          cases r with
          | list cs =>
            refine es_gole (ds1 := [some (.list rows), some (.list cs), none]) ⟨rfl, fun i' d' q' => by match i', q' with | 0, q' => exact q' | 1, q' => cases q' | 2, q' => cases q' | n + 3, q' => simp at q'⟩ (es_go ?_)
            refine es_seq (es_if (b := false) (eb_is (row_bad (eb_test (ev_isi (ev_var rfl) (by decide))) fun cs' e => by cases e; exact eb_test (ev_is (ev_chainLe ev_int (e_len (ev_var rfl)) ev_int) (congrArg PyData.bool (by congr 1 <;> exact decide_eq_decide.mpr (by omega))))) (by rw [ga]; rfl)) (fun z => nomatch z) fun _ => es_next) ?_
            refine es_forL (ts := cs) (ev_var rfl) (fun _ => [some (.list rows), some (.list cs), none]) (Le.refl _) fun j c hc => ?_
            refine es_gole (ds1 := [some (.list rows), some (.list cs), some c]) ⟨rfl, fun i' d' q' => by match i', q' with | 0, q' => exact q' | 1, q' => exact q' | 2, q' => cases q' | n + 3, q' => simp at q'⟩ (es_go ?_)
            exact es_if (b := false) (eb_is (cellB _ c rfl) (by rw [List.all_eq_true.mp gb c (List.mem_of_getElem? hc)]; rfl)) (fun z => nomatch z) fun _ => es_next
          | _ => cases gl
        · refine es_ret (ev_is (ev_allF (b := fun r => decide (lenD r = lenD (rows.headD .none))) (ev_lcD (ev_var rfl) hlen fun r hr => ?_)) (congrArg PyData.bool (tab_good h1 h8 hg).symm))
          have gl := (rowB_is ((Bool.and_eq_true _ _).mp (hg r hr)).1).1
          cases rows with
          | nil => simp at h1
          | cons r0 rest =>
            have gl0 := (rowB_is ((Bool.and_eq_true _ _).mp (hg r0 List.mem_cons_self)).1).1
            cases r0 with
            | list cs0 =>
              cases r with
              | list cs => exact ev_is (ev_eqI (e_len (ev_var rfl)) (e_len (ev_ixL (ev_var rfl) ev_int (atI_nat (j := 0) rfl)))) (congrArg PyData.bool (decide_eq_decide.mpr (by show ((cs.length : Int) = cs0.length ↔ cs.length = cs0.length); omega)))
              | _ => cases gl
            | _ => cases gl0
      · refine es_is (es_seqR (es_forLr (ts := rows) (k := k) (ev_var rfl) (fun _ => [some (.list rows), none, none]) (Le.refl _) (List.getElem?_eq_some_iff.mp hk).1 (fun i r hi hr => ?_) fun r' hr' => ?_)) (congrArg (fun b => Out.rt (.bool b)) (tab_bad (List.mem_of_getElem? hk) hbad).symm)
        · have good : goodR r = true := hpre i r hi hr
          obtain ⟨ga, gb⟩ := (Bool.and_eq_true _ _).mp good
          obtain ⟨gl, g1, g8⟩ := rowB_is ga
          cases r with
          | list cs =>
            refine es_gole (ds1 := [some (.list rows), some (.list cs), none]) ⟨rfl, fun i' d' q' => by match i', q' with | 0, q' => exact q' | 1, q' => cases q' | 2, q' => cases q' | n + 3, q' => simp at q'⟩ (es_go ?_)
            refine es_seq (es_if (b := false) (eb_is (row_bad (eb_test (ev_isi (ev_var rfl) (by decide))) fun cs' e => by cases e; exact eb_test (ev_is (ev_chainLe ev_int (e_len (ev_var rfl)) ev_int) (congrArg PyData.bool (by congr 1 <;> exact decide_eq_decide.mpr (by omega))))) (by rw [ga]; rfl)) (fun z => nomatch z) fun _ => es_next) ?_
            refine es_forL (ts := cs) (ev_var rfl) (fun _ => [some (.list rows), some (.list cs), none]) (Le.refl _) fun j c hc => ?_
            refine es_gole (ds1 := [some (.list rows), some (.list cs), some c]) ⟨rfl, fun i' d' q' => by match i', q' with | 0, q' => exact q' | 1, q' => exact q' | 2, q' => cases q' | n + 3, q' => simp at q'⟩ (es_go ?_)
            exact es_if (b := false) (eb_is (cellB _ c rfl) (by rw [List.all_eq_true.mp gb c (List.mem_of_getElem? hc)]; rfl)) (fun z => nomatch z) fun _ => es_next
          | _ => cases gl
        · rw [hk] at hr'
          cases hr'
          by_cases ga : rowB r = true
          · obtain ⟨gl, g1, g8⟩ := rowB_is ga
            cases r with
            | list cs =>
              have gb : (cs.all fun c => wholeB c 0) = false := by
                have q : (rowB (.list cs) && cs.all fun c => wholeB c 0) = false := hbad
                rw [ga, Bool.true_and] at q
                exact q
              refine es_seq (es_if (b := false) (eb_is (row_bad (eb_test (ev_isi (ev_var rfl) (by decide))) fun cs' e => by cases e; exact eb_test (ev_is (ev_chainLe ev_int (e_len (ev_var rfl)) ev_int) (congrArg PyData.bool (by congr 1 <;> exact decide_eq_decide.mpr (by omega))))) (by rw [ga]; rfl)) (fun z => nomatch z) fun _ => es_next) ?_
              rcases first_bad (fun c => wholeB c 0) cs with hall | ⟨k2, c, hk2, hc2, hp2⟩
              · rw [List.all_eq_true.mpr hall] at gb
                cases gb
              refine es_forLr (ts := cs) (k := k2) (ev_var rfl) (fun _ => [some (.list rows), some (.list cs), none]) (Le.refl _) (List.getElem?_eq_some_iff.mp hk2).1 (fun j c' hj hc' => ?_) fun c' hc' => ?_
              · refine es_gole (ds1 := [some (.list rows), some (.list cs), some c']) ⟨rfl, fun i' d' q' => by match i', q' with | 0, q' => exact q' | 1, q' => exact q' | 2, q' => cases q' | n + 3, q' => simp at q'⟩ (es_go ?_)
                exact es_if (b := false) (eb_is (cellB _ c' rfl) (by rw [hp2 j c' hj hc']; rfl)) (fun z => nomatch z) fun _ => es_next
              · rw [hk2] at hc'
                cases hc'
                exact es_if (b := true) (eb_is (cellB _ c rfl) (by rw [hc2]; rfl)) (fun _ => es_ret ev_bl) fun z => nomatch z
            | _ => cases gl
          · exact es_seqR (es_if (b := true) (eb_is (row_bad (eb_test (ev_isi (ev_var rfl) (by decide))) fun cs e => by subst e; exact eb_test (ev_is (ev_chainLe ev_int (e_len (ev_var rfl)) ev_int) (congrArg PyData.bool (by congr 1 <;> exact decide_eq_decide.mpr (by omega))))) (by rw [Bool.not_eq_true] at ga; rw [ga]; rfl)) (fun _ => es_ret ev_bl) fun z => nomatch z)
    | _ => cases hL
theorem ok__law_alone {f : Addr} {fd : FuncData} (T : Txt mg t_MOST c_BadNumber c_BadPlace c_BadTable c_BadView c_NoTable c_NotHidden c_VeilError) (D : Dfn KK mg "_law_alone" s__law_alone ["_law_e"] f fd) : FnX P w KK mg base CX0 1 f fd ["_law_e"] (spQ (R__law_alone c_BadTable)) := by
  refine okQ D.F sc__law_alone lenQ_of (fun cd p B out s H vs Q E hr h => ?_)
  obtain ⟨N, C, d, eN, rfl, ⟨hz, hd, hf⟩, hR, q⟩ := h
  obtain ⟨hCe, rfl⟩ := hR
  subst hCe
  have hC := T.i_BadTable
  refine ⟨_, (pss_cons (ps_set (i := 1) sc__law_alone.nd rfl (.inl rfl) (pe_callB (id := "isinstance") (call_isPs hC List.mem_cons_self hz hd hf) (by rfl) T.no_isinstance (by decide +kernel) (pa_cons (pv 0) (pa_cons (pe_tup (pa_cons (pe_glob (v := .ref c_BadNumber) rfl T.mg_BadNumber rfl) (pa_cons (pe_glob (v := .ref c_BadPlace) rfl T.mg_BadPlace rfl) (pa_cons (pe_glob (v := .ref c_BadView) rfl T.mg_BadView rfl) (pa_cons (pe_glob (v := .ref c_NoTable) rfl T.mg_NoTable rfl) (pa_cons (pe_glob (v := .ref c_NotHidden) rfl T.mg_NotHidden rfl) pa_nil)))))) pa_nil))))
    (pss_one (ps_ret (pe_and (pe_callB (id := "isinstance") (call_isP hC List.mem_cons_self hz hd hf) (by rfl) T.no_isinstance (by decide +kernel) (pa_cons (pv 0) (pa_cons (pe_glob (v := .ref c_BadTable) rfl T.mg_BadTable rfl) pa_nil))) (pe_and (pe_callB (id := "isinstance") (call_isP hC List.mem_cons_self hz hd hf) (by rfl) T.no_isinstance (by decide +kernel) (pa_cons (pv 0) (pa_cons (pe_bltn (v := .ty "ValueError") (by rfl) T.no_ValueError (by decide +kernel) rfl) pa_nil))) (pe_one (pe_not (pv 1)))))))), ?_⟩
  refine body_retQ eN (by decide) q ?_
  refine su_asg (by decide) (p_isN (cs := [.ref c_BadNumber, .ref c_BadPlace, .ref c_BadView, .ref c_NoTable, .ref c_NotHidden]) (us := [.ref c_BadNumber, .ref c_BadPlace, .ref c_BadView, .ref c_NoTable, .ref c_NotHidden]) (.cons (.own _) (.cons (.own _) (.cons (.own _) (.cons (.own _) (.cons (.own _) (.nil)))))) (by simp) T.k_n) ?_
  exact su_ret (p_is (p_and (p_is1 (fun u r => r) T.k_1) (p_and (p_is1 (fun u r => r) T.k_v) (p_not (p_ev (ev_var rfl))))) rfl)
theorem ok__law_refused {f : Addr} {fd : FuncData} (T : Txt mg t_MOST c_BadNumber c_BadPlace c_BadTable c_BadView c_NoTable c_NotHidden c_VeilError) (D : Dfn KK mg "_law_refused" s__law_refused ["_law_way", "_law_thing"] f fd) {f_row_sums : Addr} {fd_row_sums : FuncData} (D_row_sums : Dfn KK mg "row_sums" s_row_sums ["table"] f_row_sums fd_row_sums) (G_row_sums : FnOk P w KK mg base (L2.CX P w) 4 f_row_sums fd_row_sums ["table"] (spX (R_row_sums c_BadTable))) {f__law_alone : Addr} {fd__law_alone : FuncData} (D__law_alone : Dfn KK mg "_law_alone" s__law_alone ["_law_e"] f__law_alone fd__law_alone) (G__law_alone : FnX P w KK mg base CX0 1 f__law_alone fd__law_alone ["_law_e"] (spQ (R__law_alone c_BadTable))) {f_column_sums : Addr} {fd_column_sums : FuncData} (D_column_sums : Dfn KK mg "column_sums" s_column_sums ["table"] f_column_sums fd_column_sums) (G_column_sums : FnOk P w KK mg base (L2.CX P w) 4 f_column_sums fd_column_sums ["table"] (spX (R_column_sums c_BadTable))) {f_small_places : Addr} {fd_small_places : FuncData} (D_small_places : Dfn KK mg "small_places" s_small_places ["table", "bound"] f_small_places fd_small_places) (G_small_places : FnOk P w KK mg base (L2.CX P w) 4 f_small_places fd_small_places ["table", "bound"] (spX (R_small_places c_BadTable))) : FnOk P w KK mg base CX0 5 f fd ["_law_way", "_law_thing"] (spF R__law_refused) := by
  refine D.F.ok sc__law_refused (len_of fun es d h => by obtain ⟨_, _, rfl, _⟩ := h <;> rfl) (fun cdv A outer s H vs Q E hr h => ?_)
  refine ⟨_, (pss_cons (k_try (i := 2) (ts := tsCall (spQ (R__law_alone c_BadTable)) 2) rfl rfl sc__law_refused.nd rfl rfl ⟨rfl, by decide, Or.inl T.mg_VeilError⟩
    (fun W pn xe tk => (pss_one (ps_if (pt_cmpR op_eq (pv 0) pe_int (nomark _)) (pss_one (ps_expr (pe_callS G_row_sums hr rfl D_row_sums.g D_row_sums.F.kp D_row_sums.b (fun σ => passAt tk σ) (pa_cons (pv 1) pa_nil)))) (pss_one (ps_if (pt_cmpR op_eq (pv 0) pe_int (nomark _)) (pss_one (ps_expr (pe_callS G_column_sums hr rfl D_column_sums.g D_column_sums.F.kp D_column_sums.b (fun σ => passAt tk σ) (pa_cons (pv 1) pa_nil)))) (pss_one (ps_expr (pe_callS G_small_places hr rfl D_small_places.g D_small_places.F.kp D_small_places.b (fun σ => passAt tk σ) (pa_cons (pv 1) (pa_cons pe_int pa_nil))))))))))
    (fun a oe cls d pn hz hf => pss_tsCall (pss_one (ps_ret (pe_callX (p := (a, oe)) G__law_alone (roomH_suite (hr.mono (by decide))) List.mem_cons_self rfl D__law_alone.g D__law_alone.F.kp D__law_alone.b (fun σ _ _ _ _ _ _ h => h.elim) (pa_cons (pv 2) pa_nil)))) hz hf))
    (pss_one (ps_ret pe_bl))), ?_⟩
  refine body_ret h fun es d hR => ?_
  obtain ⟨k, t, rfl, hlen, ht, rfl⟩ := hR
  refine es_seqR (es_tryR (cl := .ref c_BadTable) (ds1 := [some (.int k), some t, none]) (fun W => ?_) T.m_1 (by decide : 2 < 3) fun a => su_call ⟨rfl, rfl⟩)
  refine x_if (eb_B (ev_eqI (ev_var rfl) ev_int)) (fun _ => x_drop (ee_call (ea_cons (ev_var rfl) ea_nil) ⟨t, rfl, hlen, ht, rfl⟩)) fun _ => ?_
  exact x_if (eb_B (ev_eqI (ev_var rfl) ev_int)) (fun _ => x_drop (ee_call (ea_cons (ev_var rfl) ea_nil) ⟨t, rfl, hlen, ht, rfl⟩)) fun _ => x_drop (ee_call (ea_cons (ev_var rfl) (ea_cons ev_int ea_nil)) ⟨t, _, rfl, hlen, ht, rfl⟩)

theorem ok_law {f : Addr} {fd : FuncData} (T : Txt mg t_MOST c_BadNumber c_BadPlace c_BadTable c_BadView c_NoTable c_NotHidden c_VeilError) (D : Dfn KK mg "law" s_law ["_law_script"] f fd) {f__law_table : Addr} {fd__law_table : FuncData} (D__law_table : Dfn KK mg "_law_table" s__law_table ["_law_script", "_law_high", "_law_wide"] f__law_table fd__law_table) (G__law_table : FnOk P w KK mg base CX0 3 f__law_table fd__law_table ["_law_script", "_law_high", "_law_wide"] (spF R__law_table)) {f__law_spoilt : Addr} {fd__law_spoilt : FuncData} (D__law_spoilt : Dfn KK mg "_law_spoilt" s__law_spoilt ["_law_script", "_law_table_here"] f__law_spoilt fd__law_spoilt) (G__law_spoilt : FnOk P w KK mg base CX0 2 f__law_spoilt fd__law_spoilt ["_law_script", "_law_table_here"] (spF R__law_spoilt)) {f__law_is_table : Addr} {fd__law_is_table : FuncData} (D__law_is_table : Dfn KK mg "_law_is_table" s__law_is_table ["_law_thing"] f__law_is_table fd__law_is_table) (G__law_is_table : FnOk P w KK mg base CX0 1 f__law_is_table fd__law_is_table ["_law_thing"] (spF R__law_is_table)) {f_is_table : Addr} {fd_is_table : FuncData} (D_is_table : Dfn KK mg "is_table" s_is_table ["thing"] f_is_table fd_is_table) (G_is_table : FnOk P w KK mg base CX0 2 f_is_table fd_is_table ["thing"] (spF R_is_table)) {f__law_mix : Addr} {fd__law_mix : FuncData} (D__law_mix : Dfn KK mg "_law_mix" s__law_mix ["_law_script", "_law_k"] f__law_mix fd__law_mix) (G__law_mix : FnOk P w KK mg base CX0 1 f__law_mix fd__law_mix ["_law_script", "_law_k"] (spF R__law_mix)) {f__law_refused : Addr} {fd__law_refused : FuncData} (D__law_refused : Dfn KK mg "_law_refused" s__law_refused ["_law_way", "_law_thing"] f__law_refused fd__law_refused) (G__law_refused : FnOk P w KK mg base CX0 5 f__law_refused fd__law_refused ["_law_way", "_law_thing"] (spF R__law_refused)) : FnOk P w KK mg base CX0 6 f fd ["_law_script"] spLaw := by
  refine D.F.ok sc_law (fun vs H Q E h => by obtain ⟨a, ns, rfl, _⟩ := h; rfl) (fun cdv A outer s H vs Q E hr h => ?_)
  obtain ⟨a, ns, rfl, hS, hlen, q⟩ := h
  refine ⟨_, (pss_cons (ps_set (i := 1) sc_law.nd rfl (.inl rfl) (pe_call G__law_table (hr.mono (by decide)) rfl D__law_table.g D__law_table.F.kp D__law_table.b .nil pass0 (pa_cons (pv 0) (pa_cons (pe_op op_add pe_int (pe_op op_mod (pe_call G__law_mix (hr.mono (by decide)) rfl D__law_mix.g D__law_mix.F.kp D__law_mix.b .nil pass0 (pa_cons (pv 0) (pa_cons pe_int pa_nil))) pe_int)) (pa_cons (pe_op op_add pe_int (pe_op op_mod (pe_call G__law_mix (hr.mono (by decide)) rfl D__law_mix.g D__law_mix.F.kp D__law_mix.b .nil pass0 (pa_cons (pv 0) (pa_cons pe_int pa_nil))) pe_int)) pa_nil)))))
    (pss_cons (ps_set (i := 2) sc_law.nd rfl (.inr rfl) (pe_call G__law_spoilt (hr.mono (by decide)) rfl D__law_spoilt.g D__law_spoilt.F.kp D__law_spoilt.b .nil pass0 (pa_cons (pv 0) (pa_cons (pv 1) pa_nil))))
    (pss_cons (ps_set (i := 3) sc_law.nd rfl (.inl rfl) (pe_call G__law_is_table (hr.mono (by decide)) rfl D__law_is_table.g D__law_is_table.F.kp D__law_is_table.b .nil pass0 (pa_cons (pv 2) pa_nil)))
    (pss_cons (ps_set (i := 4) sc_law.nd rfl (.inl rfl) (pe_call G_is_table (hr.mono (by decide)) rfl D_is_table.g D_is_table.F.kp D_is_table.b .nil pass0 (pa_cons (pv 2) pa_nil)))
    (pss_cons (ps_if (PW.pt (pw_or (pt_not (pt_val (pe_callB (id := "isinstance") (k_isi (K := KK)) (by rfl) T.no_isinstance (by decide +kernel) (pa_cons (pv 4) (pa_cons (pe_bltn (v := .ty "bool") (by rfl) T.no_bool (by decide +kernel) rfl) pa_nil))))) (pw_or (pt_cmpR (k_neD (K := KK) hr.units) (pv 4) (pv 3) (nomark _)) (pw_or1 (pt_cmpR (k_neS (room_far hr)) (pv 2) (pe_call G__law_spoilt (hr.mono (by decide)) rfl D__law_spoilt.g D__law_spoilt.F.kp D__law_spoilt.b .nil pass0 (pa_cons (pv 0) (pa_cons (pv 1) pa_nil))) (nomark _)))))) (pss_one (ps_ret pe_bl)) pss_nil)
    (pss_one (ps_ret (pe_or (pv 3) (pe_one (pe_callB (id := "all") (k_all (K := KK) rfl) (by rfl) T.no_all (by decide +kernel) (pa_cons (pe_lc (own := [("_law_way", 5)]) rfl sc_law.nd (pi_range1 (by rfl) T.no_range (pa_cons pe_int pa_nil)) (blkOk_by (N := n_law) (sc := defScope s_law) (by decide +kernel))
      (fun _ _ _ _ _ => (pg_name (i := 5) sc_law.nd rfl (.inl rfl))) (fun _ _ _ _ _ => pts_nil) (fun _ _ _ _ _ => (pe_call G__law_refused hr rfl D__law_refused.g D__law_refused.F.kp D__law_refused.b .nil pass0 (pa_cons (pv 5) (pa_cons (pv 2) pa_nil))))) pa_nil))))))))))), ?_⟩
  refine (?_ : EvR _ [some (eI ns), none, none, none, none, none]) _ H H (holds_start (names := n_law) (.cons (.lst hS (.ints ns)) .nil)) (Ex.refl H) _ q
  have b0 : 0 ≤ mix ns 0 % 8 ∧ mix ns 0 % 8 < 8 := ⟨Int.emod_nonneg _ (by decide), Int.emod_lt_of_pos _ (by decide)⟩
  have b1 : 0 ≤ mix ns 1 % 8 ∧ mix ns 1 % 8 < 8 := ⟨Int.emod_nonneg _ (by decide), Int.emod_lt_of_pos _ (by decide)⟩
  generalize hh : 1 + mix ns 0 % 8 = h
  generalize hw : 1 + mix ns 1 % 8 = wd
  have h1 : 1 ≤ h ∧ h ≤ 8 := by omega
  have w1 : 1 ≤ wd ∧ wd ≤ 8 := by omega
  have t := tabl_tab ns h1.1 h1.2 w1.1 w1.2
  have mixE : ∀ (ds : De) (k : Int), ds[0]? = some (some (eI ns)) → EvE (tCall (spF R__law_mix) [] E0 (tCons (tVar 0) (tCons (tC (.int k)) tNil))) ds (.int (mix ns k)) := fun ds k e => ev_call (ea_cons (ev_var e) (ea_cons ev_int ea_nil)) ⟨ns, k, rfl, hlen, rfl⟩
  generalize hMM : tabl ns h wd = M at t
  obtain ⟨okS, fewS⟩ := spoilt_ok (ns := ns) (w := wd.toNat) t.h8
  refine r_seq (E := E) (es_asg (d := eM M) (ev_call (ea_cons (ev_var rfl) (ea_cons (ev_is (ev_add ev_int (ev_mod (mixE _ _ rfl) ev_int (by decide))) (congrArg PyData.int hh)) (ea_cons (ev_is (ev_add ev_int (ev_mod (mixE _ _ rfl) ev_int (by decide))) (congrArg PyData.int hw)) ea_nil))) ⟨ns, h, wd, rfl, hlen, h1, w1, by rw [hMM]⟩)) ?_
  dsimp only [List.set_cons_zero, List.set_cons_succ]
  refine r_seq (E := E) (es_asg (d := spoilt ns M wd.toNat) (ev_call (ea_cons (ev_var rfl) (ea_cons (ev_var rfl) ea_nil)) ⟨ns, M, wd.toNat, rfl, hlen, t, rfl⟩)) ?_
  dsimp only [List.set_cons_zero, List.set_cons_succ]
  have again : ∀ ds : De, ds[0]? = some (some (eI ns)) → ds[1]? = some (some (eM M)) → EvE (tCall (spF R__law_spoilt) [] E0 (tCons (tVar 0) (tCons (tVar 1) tNil))) ds (spoilt ns M wd.toNat) := fun ds a b => ev_call (ea_cons (ev_var a) (ea_cons (ev_var b) ea_nil)) ⟨ns, M, wd.toNat, rfl, hlen, t, rfl⟩
  generalize spoilt ns M wd.toNat = th at okS fewS again
  refine r_seq (E := E) (es_asg (d := .bool (tabB th)) (ev_call (ea_cons (ev_var rfl) ea_nil) ⟨th, rfl, fewS, rfl⟩)) ?_
  dsimp only [List.set_cons_zero, List.set_cons_succ]
  refine r_seq (E := E) (es_asg (d := .bool (tabB th)) (ev_call (ea_cons (ev_var rfl) ea_nil) ⟨th, rfl, fewS, rfl⟩)) ?_
  dsimp only [List.set_cons_zero, List.set_cons_succ]
  refine r_seq (E := E) (es_if (b := false) (eb_or (a := false) (b := false) (eb_is (eb_not (eb_B (ev_isi (ev_var rfl) (by decide)))) rfl) fun _ => eb_or (a := false) (b := false) (eb_is (eb_test (ev_neD (ev_var rfl) (ev_var rfl) rfl rfl rfl rfl)) (by rw [SeqAt.eqv_refl _ rfl]; rfl)) fun _ => eb_test (ev_neS (ev_var rfl) (again _ rfl rfl) okS)) (fun z => nomatch z) fun _ => es_next) ?_
  refine r_ret (ev_is (ev_orV (b := true) (ev_var rfl) fun hb => ?_) (by rw [Bool.or_true]))
  refine ev_is (ev_allF (xs := List.range (3 : Int).toNat) (b := fun _ => true) (ev_lcR1 (f := fun _ => .bool true) (ea_cons ev_int ea_nil) (by decide) (by decide) fun i hi => ev_call (ea_cons (ev_var rfl) (ea_cons (ev_var rfl) ea_nil)) ⟨(i : Int), th, rfl, fewS, hb, rfl⟩)) rfl

end
/-! ### what the top has written; the law's own head -/
omit [Kn] in
theorem all_mk {l : PySem.W.OpenLaw} {w : World} {K : PySem.W.Frag} {h : Heap} {mg : Str → Option Value} {fa f0 f1 f2 f3 f4 f5 f6 f7 f8 f9 f10 f11 f12 f13 f14 f15 f16 f17 f18 : Addr} {od0 an0 od1 an1 od2 an2 od3 an3 od4 an4 od5 an5 od6 an6 od7 an7 od8 an8 od9 an9 od10 an10 od11 an11 od12 an12 od13 an13 od14 an14 od15 an15 od16 an16 od17 an17 od18 an18 : Option Addr} {sl0 sl1 sl2 sl3 sl4 sl5 sl6 sl7 sl8 sl9 sl10 sl11 sl12 sl13 sl14 sl15 sl16 sl17 sl18 : Array (Option Value)} {oc0 kV0 dc0 pm0 cd0 ct0 oc1 kV1 dc1 pm1 cd1 ct1 oc2 kV2 dc2 pm2 cd2 ct2 oc3 kV3 dc3 pm3 cd3 ct3 oc4 kV4 dc4 pm4 cd4 ct4 oc5 kV5 dc5 pm5 cd5 ct5 oc6 kV6 dc6 pm6 cd6 ct6 oc7 kV7 dc7 pm7 cd7 ct7 oc8 kV8 dc8 pm8 cd8 ct8 oc9 kV9 dc9 pm9 cd9 ct9 oc10 kV10 dc10 pm10 cd10 ct10 oc11 kV11 dc11 pm11 cd11 ct11 oc12 kV12 dc12 pm12 cd12 ct12 oc13 kV13 dc13 pm13 cd13 ct13 oc14 kV14 dc14 pm14 cd14 ct14 oc15 kV15 dc15 pm15 cd15 ct15 oc16 kV16 dc16 pm16 cd16 ct16 oc17 kV17 dc17 pm17 cd17 ct17 oc18 kV18 dc18 pm18 cd18 ct18 : Value} {t_MOST : Tok} {c_BadNumber : Addr} {c_BadPlace : Addr} {c_BadTable : Addr} {c_BadView : Addr} {c_NoTable : Addr} {c_NotHidden : Addr} {c_VeilError : Addr} (X : K.In h) (G : h.Ns mainGlobals mg) (hfa : mg "law" = some (.ref fa))
    (a0 : PySem.W.nsIn K mainGlobals "is_whole" = some (some (.ref f0))) (l0 : K.lookup f0 = some ⟨oc0, od0, .func (PySem.W.fnOf "is_whole" "is_whole" (defArgs s_is_whole) (defBody s_is_whole) (defScope s_is_whole) .none kV0 dc0 pm0 an0 cd0 ct0), sl0⟩) (c0 : PySem.W.codeIn K cd0 "is_whole" = true) (k0 : PySem.W.keepIn K (.ref f0) = true)
    (a1 : PySem.W.nsIn K mainGlobals "is_grid" = some (some (.ref f1))) (l1 : K.lookup f1 = some ⟨oc1, od1, .func (PySem.W.fnOf "is_grid" "is_grid" (defArgs s_is_grid) (defBody s_is_grid) (defScope s_is_grid) .none kV1 dc1 pm1 an1 cd1 ct1), sl1⟩) (c1 : PySem.W.codeIn K cd1 "is_grid" = true) (k1 : PySem.W.keepIn K (.ref f1) = true)
    (a2 : PySem.W.nsIn K mainGlobals "is_table" = some (some (.ref f2))) (l2 : K.lookup f2 = some ⟨oc2, od2, .func (PySem.W.fnOf "is_table" "is_table" (defArgs s_is_table) (defBody s_is_table) (defScope s_is_table) .none kV2 dc2 pm2 an2 cd2 ct2), sl2⟩) (c2 : PySem.W.codeIn K cd2 "is_table" = true) (k2 : PySem.W.keepIn K (.ref f2) = true)
    (a3 : PySem.W.nsIn K mainGlobals "need_table" = some (some (.ref f3))) (l3 : K.lookup f3 = some ⟨oc3, od3, .func (PySem.W.fnOf "need_table" "need_table" (defArgs s_need_table) (defBody s_need_table) (defScope s_need_table) .none kV3 dc3 pm3 an3 cd3 ct3), sl3⟩) (c3 : PySem.W.codeIn K cd3 "need_table" = true) (k3 : PySem.W.keepIn K (.ref f3) = true)
    (a4 : PySem.W.nsIn K mainGlobals "need_number" = some (some (.ref f4))) (l4 : K.lookup f4 = some ⟨oc4, od4, .func (PySem.W.fnOf "need_number" "need_number" (defArgs s_need_number) (defBody s_need_number) (defScope s_need_number) .none kV4 dc4 pm4 an4 cd4 ct4), sl4⟩) (c4 : PySem.W.codeIn K cd4 "need_number" = true) (k4 : PySem.W.keepIn K (.ref f4) = true)
    (a5 : PySem.W.nsIn K mainGlobals "row_sums" = some (some (.ref f5))) (l5 : K.lookup f5 = some ⟨oc5, od5, .func (PySem.W.fnOf "row_sums" "row_sums" (defArgs s_row_sums) (defBody s_row_sums) (defScope s_row_sums) .none kV5 dc5 pm5 an5 cd5 ct5), sl5⟩) (c5 : PySem.W.codeIn K cd5 "row_sums" = true) (k5 : PySem.W.keepIn K (.ref f5) = true)
    (a6 : PySem.W.nsIn K mainGlobals "column_sums" = some (some (.ref f6))) (l6 : K.lookup f6 = some ⟨oc6, od6, .func (PySem.W.fnOf "column_sums" "column_sums" (defArgs s_column_sums) (defBody s_column_sums) (defScope s_column_sums) .none kV6 dc6 pm6 an6 cd6 ct6), sl6⟩) (c6 : PySem.W.codeIn K cd6 "column_sums" = true) (k6 : PySem.W.keepIn K (.ref f6) = true)
    (a7 : PySem.W.nsIn K mainGlobals "small_places" = some (some (.ref f7))) (l7 : K.lookup f7 = some ⟨oc7, od7, .func (PySem.W.fnOf "small_places" "small_places" (defArgs s_small_places) (defBody s_small_places) (defScope s_small_places) .none kV7 dc7 pm7 an7 cd7 ct7), sl7⟩) (c7 : PySem.W.codeIn K cd7 "small_places" = true) (k7 : PySem.W.keepIn K (.ref f7) = true)
    (a8 : PySem.W.nsIn K mainGlobals "_law_mix" = some (some (.ref f8))) (l8 : K.lookup f8 = some ⟨oc8, od8, .func (PySem.W.fnOf "_law_mix" "_law_mix" (defArgs s__law_mix) (defBody s__law_mix) (defScope s__law_mix) .none kV8 dc8 pm8 an8 cd8 ct8), sl8⟩) (c8 : PySem.W.codeIn K cd8 "_law_mix" = true) (k8 : PySem.W.keepIn K (.ref f8) = true)
    (a9 : PySem.W.nsIn K mainGlobals "_law_count" = some (some (.ref f9))) (l9 : K.lookup f9 = some ⟨oc9, od9, .func (PySem.W.fnOf "_law_count" "_law_count" (defArgs s__law_count) (defBody s__law_count) (defScope s__law_count) .none kV9 dc9 pm9 an9 cd9 ct9), sl9⟩) (c9 : PySem.W.codeIn K cd9 "_law_count" = true) (k9 : PySem.W.keepIn K (.ref f9) = true)
    (a10 : PySem.W.nsIn K mainGlobals "_law_table" = some (some (.ref f10))) (l10 : K.lookup f10 = some ⟨oc10, od10, .func (PySem.W.fnOf "_law_table" "_law_table" (defArgs s__law_table) (defBody s__law_table) (defScope s__law_table) .none kV10 dc10 pm10 an10 cd10 ct10), sl10⟩) (c10 : PySem.W.codeIn K cd10 "_law_table" = true) (k10 : PySem.W.keepIn K (.ref f10) = true)
    (a11 : PySem.W.nsIn K mainGlobals "_law_odd" = some (some (.ref f11))) (l11 : K.lookup f11 = some ⟨oc11, od11, .func (PySem.W.fnOf "_law_odd" "_law_odd" (defArgs s__law_odd) (defBody s__law_odd) (defScope s__law_odd) .none kV11 dc11 pm11 an11 cd11 ct11), sl11⟩) (c11 : PySem.W.codeIn K cd11 "_law_odd" = true) (k11 : PySem.W.keepIn K (.ref f11) = true)
    (a12 : PySem.W.nsIn K mainGlobals "_law_row" = some (some (.ref f12))) (l12 : K.lookup f12 = some ⟨oc12, od12, .func (PySem.W.fnOf "_law_row" "_law_row" (defArgs s__law_row) (defBody s__law_row) (defScope s__law_row) .none kV12 dc12 pm12 an12 cd12 ct12), sl12⟩) (c12 : PySem.W.codeIn K cd12 "_law_row" = true) (k12 : PySem.W.keepIn K (.ref f12) = true)
    (a13 : PySem.W.nsIn K mainGlobals "_law_other" = some (some (.ref f13))) (l13 : K.lookup f13 = some ⟨oc13, od13, .func (PySem.W.fnOf "_law_other" "_law_other" (defArgs s__law_other) (defBody s__law_other) (defScope s__law_other) .none kV13 dc13 pm13 an13 cd13 ct13), sl13⟩) (c13 : PySem.W.codeIn K cd13 "_law_other" = true) (k13 : PySem.W.keepIn K (.ref f13) = true)
    (a14 : PySem.W.nsIn K mainGlobals "_law_spoilt" = some (some (.ref f14))) (l14 : K.lookup f14 = some ⟨oc14, od14, .func (PySem.W.fnOf "_law_spoilt" "_law_spoilt" (defArgs s__law_spoilt) (defBody s__law_spoilt) (defScope s__law_spoilt) .none kV14 dc14 pm14 an14 cd14 ct14), sl14⟩) (c14 : PySem.W.codeIn K cd14 "_law_spoilt" = true) (k14 : PySem.W.keepIn K (.ref f14) = true)
    (a15 : PySem.W.nsIn K mainGlobals "_law_is_table" = some (some (.ref f15))) (l15 : K.lookup f15 = some ⟨oc15, od15, .func (PySem.W.fnOf "_law_is_table" "_law_is_table" (defArgs s__law_is_table) (defBody s__law_is_table) (defScope s__law_is_table) .none kV15 dc15 pm15 an15 cd15 ct15), sl15⟩) (c15 : PySem.W.codeIn K cd15 "_law_is_table" = true) (k15 : PySem.W.keepIn K (.ref f15) = true)
    (a16 : PySem.W.nsIn K mainGlobals "_law_alone" = some (some (.ref f16))) (l16 : K.lookup f16 = some ⟨oc16, od16, .func (PySem.W.fnOf "_law_alone" "_law_alone" (defArgs s__law_alone) (defBody s__law_alone) (defScope s__law_alone) .none kV16 dc16 pm16 an16 cd16 ct16), sl16⟩) (c16 : PySem.W.codeIn K cd16 "_law_alone" = true) (k16 : PySem.W.keepIn K (.ref f16) = true)
    (a17 : PySem.W.nsIn K mainGlobals "_law_refused" = some (some (.ref f17))) (l17 : K.lookup f17 = some ⟨oc17, od17, .func (PySem.W.fnOf "_law_refused" "_law_refused" (defArgs s__law_refused) (defBody s__law_refused) (defScope s__law_refused) .none kV17 dc17 pm17 an17 cd17 ct17), sl17⟩) (c17 : PySem.W.codeIn K cd17 "_law_refused" = true) (k17 : PySem.W.keepIn K (.ref f17) = true)
    (a18 : PySem.W.nsIn K mainGlobals "law" = some (some (.ref f18))) (l18 : K.lookup f18 = some ⟨oc18, od18, .func (PySem.W.fnOf "law" "law" (defArgs s_law) (defBody s_law) (defScope s_law) .none kV18 dc18 pm18 an18 cd18 ct18), sl18⟩) (c18 : PySem.W.codeIn K cd18 "law" = true) (k18 : PySem.W.keepIn K (.ref f18) = true)
    (z0_0 : PySem.W.nsIn K mainGlobals "ValueError" = some none)
    (z1_0 : PySem.W.nsIn K mainGlobals "all" = some none)
    (z2_0 : PySem.W.nsIn K mainGlobals "any" = some none)
    (z3_0 : PySem.W.nsIn K mainGlobals "bool" = some none)
    (z4_0 : PySem.W.nsIn K mainGlobals "enumerate" = some none)
    (z5_0 : PySem.W.nsIn K mainGlobals "int" = some none)
    (z6_0 : PySem.W.nsIn K mainGlobals "isinstance" = some none)
    (z7_0 : PySem.W.nsIn K mainGlobals "len" = some none)
    (z8_0 : PySem.W.nsIn K mainGlobals "list" = some none)
    (z9_0 : PySem.W.nsIn K mainGlobals "range" = some none)
    (z10_0 : PySem.W.nsIn K mainGlobals "sum" = some none)
    (z11_0 : PySem.W.nsIn K mainGlobals "tuple" = some none)
    (z12_0 : PySem.W.nsIn K mainGlobals "type" = some none)
    (z13_0 : PySem.W.nsIn K mainGlobals "zip" = some none)
    (z14_0 : PySem.W.nsIn K mainGlobals "MOST" = some (some (.int 8 t_MOST)))
    (z15_0 : PySem.W.nsIn K mainGlobals "BadNumber" = some (some (.ref c_BadNumber)))
    (z16_0 : PySem.W.nsIn K mainGlobals "BadPlace" = some (some (.ref c_BadPlace)))
    (z17_0 : PySem.W.nsIn K mainGlobals "BadTable" = some (some (.ref c_BadTable)))
    (z18_0 : PySem.W.nsIn K mainGlobals "BadView" = some (some (.ref c_BadView)))
    (z19_0 : PySem.W.nsIn K mainGlobals "NoTable" = some (some (.ref c_NoTable)))
    (z20_0 : PySem.W.nsIn K mainGlobals "NotHidden" = some (some (.ref c_NotHidden)))
    (z21_0 : PySem.W.nsIn K mainGlobals "VeilError" = some (some (.ref c_VeilError)))
    (z22_0 : PySem.W.excIn K c_BadTable [.type "ValueError", .type "Exception", .type "BaseException", .type "object"] "ValueError.__new__" = true)
    (z22_1 : PySem.W.keepIn K (.ref c_BadTable) = true)
    (z22_2 : PySem.W.subIn K (.ref c_BadTable) (.type "BaseException") = some true)
    (z22_3 : PySem.W.typeIn K (.ref c_BadTable) = some (.type "type"))
    (z23_0 : PySem.W.excIn K c_BadNumber [.type "ValueError", .type "Exception", .type "BaseException", .type "object"] "ValueError.__new__" = true)
    (z23_1 : PySem.W.keepIn K (.ref c_BadNumber) = true)
    (z23_2 : PySem.W.subIn K (.ref c_BadNumber) (.type "BaseException") = some true)
    (z23_3 : PySem.W.typeIn K (.ref c_BadNumber) = some (.type "type"))
    (z24_0 : PySem.W.findIn K (.ref c_BadTable) "__getattribute__" = some (some (.builtin "BaseException.__getattribute__")))
    (z24_1 : PySem.W.findIn K (.ref c_BadTable) "__getattr__" = some none)
    (z24_2 : PySem.W.subIn K (.ref c_BadTable) (.type "BaseException") = some true)
    (z24_3 : PySem.W.hasDictIn K c_BadTable = true)
    (z24_4 : PySem.W.findIn K (.ref c_BadTable) "__class__" = some (some (.builtin "object.__class__")))
    (z24_5 : PySem.W.specialIn K (.builtin "object.__class__") "__get__" = some (some (.builtin "getset_descriptor.__get__")))
    (z24_6 : PySem.W.takesIn K (.builtin "object.__class__") = some true)
    (z24_7 : PySem.W.mroIn K c_BadTable (.type "object") = some true)
    (z25_0 : PySem.W.exmOne K (.ref c_BadTable) (.ref c_VeilError) = some true)
    (z26_0 : PySem.W.kitOne K (.ref c_BadTable) (.ref c_BadTable) = some true)
    (z27_0 : PySem.W.kitOne K (.ref c_BadTable) (.type "ValueError") = some true)
    (z28_0 : PySem.W.kitAny K (.ref c_BadTable) [.ref c_BadNumber, .ref c_BadPlace, .ref c_BadView, .ref c_NoTable, .ref c_NotHidden] = some false) :
    ∃ fd : FuncData, (∀ (s : Shared) (v : Value), BindsTo s fd ⟨[v], []⟩ [("_law_script", v)]) ∧ ∀ base : Heap, K.In base → base.Ns mainGlobals mg → FnOk l.prog w K mg base CX0 6 fa fd ["_law_script"] (@spLaw ⟨K⟩) := by
  letI : Kn := ⟨K⟩
  have e := hfa.symm.trans (PySem.W.mg_of X G a18)
  cases e
  have T : Txt mg t_MOST c_BadNumber c_BadPlace c_BadTable c_BadView c_NoTable c_NotHidden c_VeilError := ⟨PySem.W.mg_none_of X G z0_0, PySem.W.mg_none_of X G z1_0, PySem.W.mg_none_of X G z2_0, PySem.W.mg_none_of X G z3_0, PySem.W.mg_none_of X G z4_0, PySem.W.mg_none_of X G z5_0, PySem.W.mg_none_of X G z6_0, PySem.W.mg_none_of X G z7_0, PySem.W.mg_none_of X G z8_0, PySem.W.mg_none_of X G z9_0, PySem.W.mg_none_of X G z10_0, PySem.W.mg_none_of X G z11_0, PySem.W.mg_none_of X G z12_0, PySem.W.mg_none_of X G z13_0, PySem.W.mg_of X G z14_0, PySem.W.mg_of X G z15_0, PySem.W.mg_of X G z16_0, PySem.W.mg_of X G z17_0, PySem.W.mg_of X G z18_0, PySem.W.mg_of X G z19_0, PySem.W.mg_of X G z20_0, PySem.W.mg_of X G z21_0, ⟨z22_0, z22_1, z22_2, z22_3⟩, ⟨z23_0, z23_1, z23_2, z23_3⟩, ⟨z24_0, z24_1, z24_2, z24_3, z24_4, z24_5, z24_6, z24_7⟩, z25_0, z26_0, z27_0, z28_0⟩
  have F0 := fun_mk (st := s_is_whole) l0 c0 k0
  have D0 : Dfn KK mg "is_whole" s_is_whole ["thing", "least"] f0 _ := ⟨F0, F0.binds (ps := ["thing", "least"]) fun _ _ _ _ _ _ us hl => match us, hl with | [_, _], _ => rfl, PySem.W.mg_of X G a0⟩
  have F1 := fun_mk (st := s_is_grid) l1 c1 k1
  have D1 : Dfn KK mg "is_grid" s_is_grid ["thing"] f1 _ := ⟨F1, F1.binds (ps := ["thing"]) fun _ _ _ _ _ _ us hl => match us, hl with | [_], _ => rfl, PySem.W.mg_of X G a1⟩
  have F2 := fun_mk (st := s_is_table) l2 c2 k2
  have D2 : Dfn KK mg "is_table" s_is_table ["thing"] f2 _ := ⟨F2, F2.binds (ps := ["thing"]) fun _ _ _ _ _ _ us hl => match us, hl with | [_], _ => rfl, PySem.W.mg_of X G a2⟩
  have F3 := fun_mk (st := s_need_table) l3 c3 k3
  have D3 : Dfn KK mg "need_table" s_need_table ["thing"] f3 _ := ⟨F3, F3.binds (ps := ["thing"]) fun _ _ _ _ _ _ us hl => match us, hl with | [_], _ => rfl, PySem.W.mg_of X G a3⟩
  have F4 := fun_mk (st := s_need_number) l4 c4 k4
  have D4 : Dfn KK mg "need_number" s_need_number ["thing"] f4 _ := ⟨F4, F4.binds (ps := ["thing"]) fun _ _ _ _ _ _ us hl => match us, hl with | [_], _ => rfl, PySem.W.mg_of X G a4⟩
  have F5 := fun_mk (st := s_row_sums) l5 c5 k5
  have D5 : Dfn KK mg "row_sums" s_row_sums ["table"] f5 _ := ⟨F5, F5.binds (ps := ["table"]) fun _ _ _ _ _ _ us hl => match us, hl with | [_], _ => rfl, PySem.W.mg_of X G a5⟩
  have F6 := fun_mk (st := s_column_sums) l6 c6 k6
  have D6 : Dfn KK mg "column_sums" s_column_sums ["table"] f6 _ := ⟨F6, F6.binds (ps := ["table"]) fun _ _ _ _ _ _ us hl => match us, hl with | [_], _ => rfl, PySem.W.mg_of X G a6⟩
  have F7 := fun_mk (st := s_small_places) l7 c7 k7
  have D7 : Dfn KK mg "small_places" s_small_places ["table", "bound"] f7 _ := ⟨F7, F7.binds (ps := ["table", "bound"]) fun _ _ _ _ _ _ us hl => match us, hl with | [_, _], _ => rfl, PySem.W.mg_of X G a7⟩
  have F8 := fun_mk (st := s__law_mix) l8 c8 k8
  have D8 : Dfn KK mg "_law_mix" s__law_mix ["_law_script", "_law_k"] f8 _ := ⟨F8, F8.binds (ps := ["_law_script", "_law_k"]) fun _ _ _ _ _ _ us hl => match us, hl with | [_, _], _ => rfl, PySem.W.mg_of X G a8⟩
  have F9 := fun_mk (st := s__law_count) l9 c9 k9
  have D9 : Dfn KK mg "_law_count" s__law_count ["_law_script", "_law_k"] f9 _ := ⟨F9, F9.binds (ps := ["_law_script", "_law_k"]) fun _ _ _ _ _ _ us hl => match us, hl with | [_, _], _ => rfl, PySem.W.mg_of X G a9⟩
  have F10 := fun_mk (st := s__law_table) l10 c10 k10
  have D10 : Dfn KK mg "_law_table" s__law_table ["_law_script", "_law_high", "_law_wide"] f10 _ := ⟨F10, F10.binds (ps := ["_law_script", "_law_high", "_law_wide"]) fun _ _ _ _ _ _ us hl => match us, hl with | [_, _, _], _ => rfl, PySem.W.mg_of X G a10⟩
  have F11 := fun_mk (st := s__law_odd) l11 c11 k11
  have D11 : Dfn KK mg "_law_odd" s__law_odd ["_law_number"] f11 _ := ⟨F11, F11.binds (ps := ["_law_number"]) fun _ _ _ _ _ _ us hl => match us, hl with | [_], _ => rfl, PySem.W.mg_of X G a11⟩
  have F12 := fun_mk (st := s__law_row) l12 c12 k12
  have D12 : Dfn KK mg "_law_row" s__law_row ["_law_row_here", "_law_number"] f12 _ := ⟨F12, F12.binds (ps := ["_law_row_here", "_law_number"]) fun _ _ _ _ _ _ us hl => match us, hl with | [_, _], _ => rfl, PySem.W.mg_of X G a12⟩
  have F13 := fun_mk (st := s__law_other) l13 c13 k13
  have D13 : Dfn KK mg "_law_other" s__law_other ["_law_table_here", "_law_number"] f13 _ := ⟨F13, F13.binds (ps := ["_law_table_here", "_law_number"]) fun _ _ _ _ _ _ us hl => match us, hl with | [_, _], _ => rfl, PySem.W.mg_of X G a13⟩
  have F14 := fun_mk (st := s__law_spoilt) l14 c14 k14
  have D14 : Dfn KK mg "_law_spoilt" s__law_spoilt ["_law_script", "_law_table_here"] f14 _ := ⟨F14, F14.binds (ps := ["_law_script", "_law_table_here"]) fun _ _ _ _ _ _ us hl => match us, hl with | [_, _], _ => rfl, PySem.W.mg_of X G a14⟩
  have F15 := fun_mk (st := s__law_is_table) l15 c15 k15
  have D15 : Dfn KK mg "_law_is_table" s__law_is_table ["_law_thing"] f15 _ := ⟨F15, F15.binds (ps := ["_law_thing"]) fun _ _ _ _ _ _ us hl => match us, hl with | [_], _ => rfl, PySem.W.mg_of X G a15⟩
  have F16 := fun_mk (st := s__law_alone) l16 c16 k16
  have D16 : Dfn KK mg "_law_alone" s__law_alone ["_law_e"] f16 _ := ⟨F16, F16.binds (ps := ["_law_e"]) fun _ _ _ _ _ _ us hl => match us, hl with | [_], _ => rfl, PySem.W.mg_of X G a16⟩
  have F17 := fun_mk (st := s__law_refused) l17 c17 k17
  have D17 : Dfn KK mg "_law_refused" s__law_refused ["_law_way", "_law_thing"] f17 _ := ⟨F17, F17.binds (ps := ["_law_way", "_law_thing"]) fun _ _ _ _ _ _ us hl => match us, hl with | [_, _], _ => rfl, PySem.W.mg_of X G a17⟩
  have F18 := fun_mk (st := s_law) l18 c18 k18
  have D18 : Dfn KK mg "law" s_law ["_law_script"] fa _ := ⟨F18, F18.binds (ps := ["_law_script"]) fun _ _ _ _ _ _ us hl => match us, hl with | [_], _ => rfl, PySem.W.mg_of X G a18⟩
  refine ⟨PySem.W.fnOf "law" "law" (defArgs s_law) (defBody s_law) (defScope s_law) .none kV18 dc18 pm18 an18 cd18 ct18, fun s v => .of_eq rfl, fun base _ _ => ?_⟩
  have G0 : FnOk l.prog w KK mg base CX0 1 f0 _ ["thing", "least"] (spF R_is_whole) := ok_is_whole T D0 
  have G1 : FnOk l.prog w KK mg base CX0 1 f1 _ ["thing"] (spF R_is_grid) := ok_is_grid T D1 
  have G2 : FnOk l.prog w KK mg base CX0 2 f2 _ ["thing"] (spF R_is_table) := ok_is_table T D2 D1 G1 D0 G0
  have G3 : FnOk l.prog w KK mg base (L2.CX l.prog w) 3 f3 _ ["thing"] (spX (R_need_table c_BadTable)) := ok_need_table T D3 D2 G2
  have G4 : FnOk l.prog w KK mg base (L2.CX l.prog w) 2 f4 _ ["thing"] (spX R_need_number) := ok_need_number T D4 D0 G0
  have G5 : FnOk l.prog w KK mg base (L2.CX l.prog w) 4 f5 _ ["table"] (spX (R_row_sums c_BadTable)) := ok_row_sums T D5 D3 G3
  have G6 : FnOk l.prog w KK mg base (L2.CX l.prog w) 4 f6 _ ["table"] (spX (R_column_sums c_BadTable)) := ok_column_sums T D6 D3 G3
  have G7 : FnOk l.prog w KK mg base (L2.CX l.prog w) 4 f7 _ ["table", "bound"] (spX (R_small_places c_BadTable)) := ok_small_places T D7 D3 G3 D4 G4
  have G8 : FnOk l.prog w KK mg base CX0 1 f8 _ ["_law_script", "_law_k"] (spF R__law_mix) := ok__law_mix T D8 
  have G9 : FnOk l.prog w KK mg base CX0 2 f9 _ ["_law_script", "_law_k"] (spF R__law_count) := ok__law_count T D9 D8 G8
  have G10 : FnOk l.prog w KK mg base CX0 3 f10 _ ["_law_script", "_law_high", "_law_wide"] (spF R__law_table) := ok__law_table T D10 D9 G9
  have G11 : FnOk l.prog w KK mg base CX0 1 f11 _ ["_law_number"] (spF R__law_odd) := ok__law_odd T D11 
  have G12 : FnOk l.prog w KK mg base CX0 1 f12 _ ["_law_row_here", "_law_number"] (spF R__law_row) := ok__law_row T D12 
  have G13 : FnOk l.prog w KK mg base CX0 1 f13 _ ["_law_table_here", "_law_number"] (spF R__law_other) := ok__law_other T D13 
  have G14 : FnOk l.prog w KK mg base CX0 2 f14 _ ["_law_script", "_law_table_here"] (spF R__law_spoilt) := ok__law_spoilt T D14 D8 G8 D13 G13 D11 G11 D12 G12
  have G15 : FnOk l.prog w KK mg base CX0 1 f15 _ ["_law_thing"] (spF R__law_is_table) := ok__law_is_table T D15 
  have G16 : FnX l.prog w KK mg base CX0 1 f16 _ ["_law_e"] (spQ (R__law_alone c_BadTable)) := ok__law_alone T D16 
  have G17 : FnOk l.prog w KK mg base CX0 5 f17 _ ["_law_way", "_law_thing"] (spF R__law_refused) := ok__law_refused T D17 D5 G5 D16 G16 D6 G6 D7 G7
  exact ok_law T D18 D10 G10 D14 G14 D15 G15 D2 G2 D8 G8 D17 G17
end Vl
open PySem PySem.W PyProof.Rows
set_option maxHeartbeats 0 in
theorem PySem.Challenge.cw_veiled_k02_tables_known_holds : PySem.Challenge.rw_veiled_k02_tables_known.Holds := by
  w_on; o_law; k_head; (case hw => w_witness2)
  k_fill
  refine L2.walk_of (l := PySem.Challenge.rw_veiled_k02_tables_known) (n := 63) (k := 6) (x := "_law_script") (CX := fun _ => L2.CX0) (sp := fun w => @Vl.spLaw ⟨_⟩) rfl (by decide) rfl ⟨rfl, by decide, by decide⟩ (fun w h Y => PySem.W.kIn_of Y) ?F (fun _ _ a ns hl _ hS => ⟨a, ns, rfl, hS, hl, fun _ => rfl⟩) (fun _ _ _ _ _ h => h)
  case F =>
    intro w mg fa h KX G hmg
    refine' Vl.all_mk KX G hmg ?a0 ?l0 ?c0 ?k0 ?a1 ?l1 ?c1 ?k1 ?a2 ?l2 ?c2 ?k2 ?a3 ?l3 ?c3 ?k3 ?a4 ?l4 ?c4 ?k4 ?a5 ?l5 ?c5 ?k5 ?a6 ?l6 ?c6 ?k6 ?a7 ?l7 ?c7 ?k7 ?a8 ?l8 ?c8 ?k8 ?a9 ?l9 ?c9 ?k9 ?a10 ?l10 ?c10 ?k10 ?a11 ?l11 ?c11 ?k11 ?a12 ?l12 ?c12 ?k12 ?a13 ?l13 ?c13 ?k13 ?a14 ?l14 ?c14 ?k14 ?a15 ?l15 ?c15 ?k15 ?a16 ?l16 ?c16 ?k16 ?a17 ?l17 ?c17 ?k17 ?a18 ?l18 ?c18 ?k18 ?z0_0 ?z1_0 ?z2_0 ?z3_0 ?z4_0 ?z5_0 ?z6_0 ?z7_0 ?z8_0 ?z9_0 ?z10_0 ?z11_0 ?z12_0 ?z13_0 ?z14_0 ?z15_0 ?z16_0 ?z17_0 ?z18_0 ?z19_0 ?z20_0 ?z21_0 ?z22_0 ?z22_1 ?z22_2 ?z22_3 ?z23_0 ?z23_1 ?z23_2 ?z23_3 ?z24_0 ?z24_1 ?z24_2 ?z24_3 ?z24_4 ?z24_5 ?z24_6 ?z24_7 ?z25_0 ?z26_0 ?z27_0 ?z28_0
    (case a0 => k_is); (case l0 => k_is); (case c0 => k_is); (case k0 => k_is); (case a1 => k_is); (case l1 => k_is); (case c1 => k_is); (case k1 => k_is); (case a2 => k_is); (case l2 => k_is); (case c2 => k_is); (case k2 => k_is); (case a3 => k_is); (case l3 => k_is); (case c3 => k_is); (case k3 => k_is); (case a4 => k_is); (case l4 => k_is); (case c4 => k_is); (case k4 => k_is); (case a5 => k_is); (case l5 => k_is); (case c5 => k_is); (case k5 => k_is); (case a6 => k_is); (case l6 => k_is); (case c6 => k_is); (case k6 => k_is); (case a7 => k_is); (case l7 => k_is); (case c7 => k_is); (case k7 => k_is); (case a8 => k_is); (case l8 => k_is); (case c8 => k_is); (case k8 => k_is); (case a9 => k_is); (case l9 => k_is); (case c9 => k_is); (case k9 => k_is); (case a10 => k_is); (case l10 => k_is); (case c10 => k_is); (case k10 => k_is); (case a11 => k_is); (case l11 => k_is); (case c11 => k_is); (case k11 => k_is); (case a12 => k_is); (case l12 => k_is); (case c12 => k_is); (case k12 => k_is); (case a13 => k_is); (case l13 => k_is); (case c13 => k_is); (case k13 => k_is); (case a14 => k_is); (case l14 => k_is); (case c14 => k_is); (case k14 => k_is); (case a15 => k_is); (case l15 => k_is); (case c15 => k_is); (case k15 => k_is); (case a16 => k_is); (case l16 => k_is); (case c16 => k_is); (case k16 => k_is); (case a17 => k_is); (case l17 => k_is); (case c17 => k_is); (case k17 => k_is); (case a18 => k_is); (case l18 => k_is); (case c18 => k_is); (case k18 => k_is); (case z0_0 => k_is); (case z1_0 => k_is); (case z2_0 => k_is); (case z3_0 => k_is); (case z4_0 => k_is); (case z5_0 => k_is); (case z6_0 => k_is); (case z7_0 => k_is); (case z8_0 => k_is); (case z9_0 => k_is); (case z10_0 => k_is); (case z11_0 => k_is); (case z12_0 => k_is); (case z13_0 => k_is); (case z14_0 => k_is); (case z15_0 => k_is); (case z16_0 => k_is); (case z17_0 => k_is); (case z18_0 => k_is); (case z19_0 => k_is); (case z20_0 => k_is); (case z21_0 => k_is); (case z22_0 => k_exc); (case z22_1 => k_is); (case z22_2 => k_is); (case z22_3 => k_is); (case z23_0 => k_exc); (case z23_1 => k_is); (case z23_2 => k_is); (case z23_3 => k_is); (case z24_0 => k_is); (case z24_1 => k_is); (case z24_2 => k_is); (case z24_3 => k_is); (case z24_4 => k_is); (case z24_5 => k_is); (case z24_6 => k_is); (case z24_7 => k_is); (case z25_0 => kts_exm); (case z26_0 => kit_is); (case z27_0 => kit_is); (case z28_0 => kit_is)
