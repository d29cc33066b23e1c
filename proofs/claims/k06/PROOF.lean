import PyProof.Rows.All
import Wide.All
import OpenK.AllK
import Wide.FinOn
import HandS.ForMost
import HandS.ForExc
import HandS.Evl
import HandS.IsInst
import HandS.Zip
import HandS.Wide
import HandS.Flow
import HandS.Star
import PyProof.TypeEq
import KE.KTupSum
import HandS.HotCalls
import HandS.ExcIs
import HandS.SuiteRaise
import HandS.TupMul
import KE.KEqNest
import KE.KEqDict
import PyProof.NeKinds
import HandS.Deep
import HandS.Walk
import HandS.TupAny
import HandS.FltList
import PyProof.ListNew
import HandS.TupSets
import HandS.Rev
import PySem.Challenge.RW_veiled_k06_views_had
set_option Elab.async false
set_option linter.all false
set_option maxRecDepth 100000
set_option maxHeartbeats 2000000
/-! Data: a value stands for a tree of plain data in a part of the heap that is known; what an expression, a test, a statement comes to, told over such data alone. -/
namespace DL
open PySem PySem.Spec PyProof.Rows L2 Evl
set_option autoImplicit false
abbrev St := L2.St
/-- the written part -/
class Kn where
  K : PySem.W.Frag
abbrev KK [i : Kn] : PySem.W.Frag := i.K
variable [Kn]

/-! ### two known parts together -/
def HU (A B : Hp) : Hp := fun a => match A a with
  | some o => some o
  | none => B a
theorem hu_l (A B : Hp) : Ex A (HU A B) := fun a o e => by
  unfold HU
  rw [e]
theorem hu_r {A B H : Hp} (ha : Ex A H) (hb : Ex B H) : Ex B (HU A B) := fun a o e => by
  unfold HU
  cases h : A a with
  | none => exact e
  | some u' =>
    have h1 := ha a u' h
    have h2 := hb a o e
    rw [h1] at h2
    exact h2
theorem hu_in {A B H : Hp} (ha : Ex A H) (hb : Ex B H) : Ex (HU A B) H := fun a o e => by
  unfold HU at e
  cases h : A a with
  | none =>
    rw [h] at e
    exact hb a o e
  | some u' =>
    rw [h] at e
    cases e
    exact ha a _ h
theorem hu_reg {A B : Hp} {a : Addr} (h : HU A B a ≠ none) : A a ≠ none ∨ B a ≠ none := by
  unfold HU at h
  cases e : A a with
  | none =>
    rw [e] at h
    exact .inr h
  | some u' => exact .inl (by intro z; cases z)

/-! ### what a value stands for -/
mutual
inductive Rp (N : Hp) : V → PyData → Prop
  | non : Rp N .non .none
  | bl (b : Bool) : Rp N (.bl b) (.bool b)
  | int (i : Int) : Rp N (.int i) (.int i)
  | str (x : Str) : Rp N (.str x) (.str x)
  | lst {a : Addr} {xs : List V} {ds : List PyData} : SqL KK N a xs → RpAll N xs ds → Rp N (.ref a) (.list ds)
  | tup {a : Addr} {xs : List V} {ds : List PyData} : Rd N a (.tup xs) → RpAll N xs ds → Rp N (.ref a) (.tuple ds)
  | dct {a : Addr} {kvs : List (Key × V)} {ds : List (PyData × PyData)} : N a = some (.dK kvs) → RpD N kvs ds → Rp N (.ref a) (.dict ds)
inductive RpAll (N : Hp) : List V → List PyData → Prop
  | nil : RpAll N [] []
  | cons {v : V} {vs : List V} {d : PyData} {ds : List PyData} : Rp N v d → RpAll N vs ds → RpAll N (v :: vs) (d :: ds)
inductive RpD (N : Hp) : List (Key × V) → List (PyData × PyData) → Prop
  | nil : RpD N [] []
  | cons {k : Key} {v : V} {kvs : List (Key × V)} {dk d : PyData} {ds : List (PyData × PyData)} : Rp N (kV k) dk → Rp N v d → RpD N kvs ds → RpD N ((k, v) :: kvs) ((dk, d) :: ds)
end
mutual
theorem Rp.mono {N N' : Hp} (e : Ex N N') : ∀ {v : V} {d : PyData}, Rp N v d → Rp N' v d
  | _, _, .non => .non
  | _, _, .bl b => .bl b
  | _, _, .int i => .int i
  | _, _, .str x => .str x
  | _, _, .lst h r => .lst (ex_l e h) (RpAll.mono e r)
  | _, _, .tup h r => .tup (ex_rd e h) (RpAll.mono e r)
  | _, _, .dct h r => .dct (e _ _ h) (RpD.mono e r)
theorem RpAll.mono {N N' : Hp} (e : Ex N N') : ∀ {vs : List V} {ds : List PyData}, RpAll N vs ds → RpAll N' vs ds
  | _, _, .nil => .nil
  | _, _, .cons h r => .cons (Rp.mono e h) (RpAll.mono e r)
theorem RpD.mono {N N' : Hp} (e : Ex N N') : ∀ {vs : List (Key × V)} {ds : List (PyData × PyData)}, RpD N vs ds → RpD N' vs ds
  | _, _, .nil => .nil
  | _, _, .cons h h2 r => .cons (Rp.mono e h) (Rp.mono e h2) (RpD.mono e r)
end
section
variable {N : Hp}
theorem RpAll.length : ∀ {vs : List V} {ds : List PyData}, RpAll N vs ds → vs.length = ds.length
  | _, _, .nil => rfl
  | _, _, .cons _ r => by
    show _ + 1 = _ + 1
    rw [RpAll.length r]
theorem RpAll.get : ∀ {vs : List V} {ds : List PyData} {i : Nat} {d : PyData}, RpAll N vs ds → ds[i]? = some d → ∃ v, vs[i]? = some v ∧ Rp N v d
  | _, _, _, _, .nil, h => by simp at h
  | _, _, 0, _, .cons h _, e => by
    have e' := Option.some.inj e
    subst e'
    exact ⟨_, rfl, h⟩
  | _, _, i + 1, _, .cons _ r, e => RpAll.get (i := i) r e
theorem RpAll.getV : ∀ {vs : List V} {ds : List PyData} {i : Nat} {v : V}, RpAll N vs ds → vs[i]? = some v → ∃ d, ds[i]? = some d ∧ Rp N v d
  | _, _, _, _, .nil, h => by simp at h
  | _, _, 0, _, .cons h _, e => by
    have e' := Option.some.inj e
    subst e'
    exact ⟨_, rfl, h⟩
  | _, _, i + 1, _, .cons _ r, e => RpAll.getV (i := i) r e
theorem RpAll.append : ∀ {vs ws : List V} {ds es : List PyData}, RpAll N vs ds → RpAll N ws es → RpAll N (vs ++ ws) (ds ++ es)
  | _, _, _, _, .nil, h => h
  | _, _, _, _, .cons h r, g => .cons h (RpAll.append r g)
theorem RpAll.take : ∀ {vs : List V} {ds : List PyData} (n : Nat), RpAll N vs ds → RpAll N (vs.take n) (ds.take n)
  | _, _, 0, _ => .nil
  | _, _, _ + 1, .nil => .nil
  | _, _, n + 1, .cons h r => .cons h (RpAll.take n r)
theorem RpAll.drop : ∀ {vs : List V} {ds : List PyData} (n : Nat), RpAll N vs ds → RpAll N (vs.drop n) (ds.drop n)
  | _, _, 0, h => h
  | _, _, _ + 1, .nil => .nil
  | _, _, n + 1, .cons h r => RpAll.drop n r
theorem RpAll.one {v : V} {d : PyData} (h : Rp N v d) : RpAll N [v] [d] := .cons h .nil
/-- ints -/
theorem RpAll.ints : ∀ (ns : List Int), RpAll N (ns.map V.int) (ns.map PyData.int)
  | [] => .nil
  | n :: r => .cons (.int n) (RpAll.ints r)
theorem RpAll.ofInts : ∀ {vs : List V} {ns : List Int}, RpAll N vs (ns.map PyData.int) → vs = ns.map V.int
  | _, [], .nil => rfl
  | _, n :: r, .cons h t => by
    cases h
    rw [RpAll.ofInts t]
    rfl
theorem RpAll.ofBools : ∀ {vs : List V} {ns : List Bool}, RpAll N vs (ns.map PyData.bool) → vs = ns.map V.bl
  | _, [], .nil => rfl
  | _, n :: r, .cons h t => by
    cases h
    rw [RpAll.ofBools t]
    rfl
end

/-! plain: without dicts -/
mutual
def noDict : PyData → Bool
  | .dict _ => false
  | .list ds => noDictAll ds
  | .tuple ds => noDictAll ds
  | _ => true
def noDictAll : List PyData → Bool
  | [] => true
  | d :: ds => noDict d && noDictAll ds
end
theorem seq_of_rd {K : PySem.W.Frag} {H : Hp} {a : Addr} {xs : List V} (h : Rd H a (.lst xs)) : SqL K H a xs := Or.inl h
theorem set_of_rd {K : PySem.W.Frag} {H : Hp} {a : Addr} {xs : List V} (h : Rd H a (.tup xs)) : SqT K H a xs := Or.inl h
mutual
theorem Rp.dp {N : Hp} : ∀ {v : V} {d : PyData}, Rp N v d → noDict d = true → Dp KK N v d
  | _, _, .non, _ => .non
  | _, _, .bl b, _ => .bl b
  | _, _, .int i, _ => .int i
  | _, _, .str x, _ => .str x
  | _, _, .lst h r, n => .lst h (RpAll.dp r (by simpa [noDict] using n))
  | _, _, .tup h r, n => .tup (set_of_rd h) (RpAll.dp r (by simpa [noDict] using n))
  | _, _, .dct h r, n => by simp [noDict] at n
theorem RpAll.dp {N : Hp} : ∀ {vs : List V} {ds : List PyData}, RpAll N vs ds → noDictAll ds = true → DpAll KK N vs ds
  | _, _, .nil, _ => .nil
  | _, _, .cons h r, n => by
    have n' := (Bool.and_eq_true _ _).mp (show (noDict _ && noDictAll _) = true from n)
    exact .cons (Rp.dp h n'.1) (RpAll.dp r n'.2)
end

/-! ### what stands in the slots -/
abbrev De := List (Option PyData)
def Reg (N H N' : Hp) : Prop := ∀ a, N' a ≠ none → N a ≠ none ∨ H a = none
theorem Reg.refl {N H : Hp} : Reg N H N := fun _ h => .inl h
theorem ex_none {H H' : Hp} (e : Ex H H') {a : Addr} (h : H' a = none) : H a = none := fresh_back e h
theorem Reg.trans {N H N1 H1 N2 : Hp} (h1 : Reg N H N1) (e : Ex H H1) (h2 : Reg N1 H1 N2) : Reg N H N2 := fun a h =>
  (h2 a h).elim (fun z => h1 a z) fun z => .inr (ex_none e z)
theorem Reg.new {N H H1 : Hp} {p : Addr} {o : HO} (e : Ex H H1) (hp : H1 p = none) (r : Reg N H N) : Reg N H (upd N p o) := fun a h => by
  by_cases z : a = p
  · subst z
    exact .inr (ex_none e hp)
  · rw [upd_ne z] at h
    exact .inl h
structure Holds (N : Hp) (σ : St) (ds : De) : Prop where
  len : σ.length = ds.length
  at_ : ∀ (i : Nat) (d : PyData), ds[i]? = some (some d) → ∃ v, σ[i]? = some (some v) ∧ Rp N v d
section
variable {N N' : Hp} {σ : St} {ds : De}
theorem Holds.mono (e : Ex N N') (h : Holds N σ ds) : Holds N' σ ds := ⟨h.len, fun i d q => by
  obtain ⟨v, e1, r⟩ := h.at_ i d q
  exact ⟨v, e1, r.mono e⟩⟩
theorem Holds.set (h : Holds N σ ds) {v : V} {d : PyData} (r : Rp N v d) (j : Nat) : Holds N (σ.set j (some v)) (ds.set j (some d)) := ⟨by rw [List.length_set, List.length_set, h.len], fun i e q => by
  by_cases z : j = i
  · subst z
    by_cases hj : j < ds.length
    · rw [List.getElem?_set_self hj] at q
      have q' := Option.some.inj (Option.some.inj q)
      subst q'
      exact ⟨v, by rw [List.getElem?_set_self (by rw [h.len]; exact hj)], r⟩
    · rw [List.getElem?_eq_none (by rw [List.length_set]; omega)] at q
      cases q
  · rw [List.getElem?_set_ne z] at q
    obtain ⟨u, e1, r1⟩ := h.at_ i e q
    exact ⟨u, by rw [List.getElem?_set_ne z]; exact e1, r1⟩⟩
theorem Holds.unset (h : Holds N σ ds) (j : Nat) : Holds N (σ.set j none) (ds.set j none) := ⟨by rw [List.length_set, List.length_set, h.len], fun i e q => by
  by_cases z : j = i
  · subst z
    by_cases hj : j < ds.length
    · rw [List.getElem?_set_self hj] at q
      cases q
    · rw [List.getElem?_eq_none (by rw [List.length_set]; omega)] at q
      cases q
  · rw [List.getElem?_set_ne z] at q
    obtain ⟨u, e1, r1⟩ := h.at_ i e q
    exact ⟨u, by rw [List.getElem?_set_ne z]; exact e1, r1⟩⟩
end
def wipeD (ds : De) : List Nat → De
  | [] => ds
  | v :: vs => (wipeD ds vs).set v none
theorem Holds.wipe {N : Hp} {σ : St} {ds : De} (h : Holds N σ ds) : ∀ vs : List Nat, Holds N (wipe σ vs) (wipeD ds vs)
  | [] => h
  | v :: vs => (Holds.wipe h vs).unset v
theorem wipe1 (σ : St) (j : Nat) (x : V) : wipe ((wipe σ [j]).set j (some x)) [j] = wipe σ [j] := by
  show ((σ.set j none).set j (some x)).set j none = σ.set j none
  rw [List.set_set, List.set_set]
theorem wipe2 (σ : St) (j k : Nat) (hjk : j ≠ k) (x y : V) : wipe (((wipe σ [j, k]).set j (some x)).set k (some y)) [j, k] = wipe σ [j, k] := by
  show (((((σ.set k none).set j none).set j (some x)).set k (some y)).set k none).set j none = (σ.set k none).set j none
  rw [List.set_set, List.set_set, List.set_comm _ _ (Ne.symm hjk), List.set_set, List.set_comm _ _ hjk, List.set_set]
/-- fewer things known -/
def Le (ds' ds : De) : Prop := ds'.length = ds.length ∧ ∀ (i : Nat) (d : PyData), ds'[i]? = some (some d) → ds[i]? = some (some d)
theorem Le.refl (ds : De) : Le ds ds := ⟨rfl, fun _ _ h => h⟩
theorem Holds.le {N : Hp} {σ : St} {ds ds' : De} (h : Holds N σ ds) (l : Le ds' ds) : Holds N σ ds' := ⟨by rw [h.len, l.1], fun i d e => h.at_ i d (l.2 i d e)⟩

/-! ### judgements -/
/-- te comes to d -/
def EvD (te : TE) (σ : St) (N : Hp) (d : PyData) : Prop := ∀ H, Ex N H → ∀ Q : VK, (∀ v H' N', Ex H H' → Ex N N' → Ex N' H' → Reg N H N' → Rp N' v d → Q v H') → te σ H Q
def EvE (te : TE) (ds : De) (d : PyData) : Prop := ∀ σ N, Holds N σ ds → EvD te σ N d
def EvB (tt : TT) (ds : De) (b : Bool) : Prop := ∀ σ N, Holds N σ ds → ∀ H, Ex N H → ∀ Q : Bool → Hp → Prop, (∀ H', Ex H H' → Q b H') → tt σ H Q
def EvAs (ta : TA) (ds : De) (es : List PyData) : Prop := ∀ σ N, Holds N σ ds → ∀ H, Ex N H → ∀ Q : List V → Hp → Prop, (∀ vs H' N', Ex H H' → Ex N N' → Ex N' H' → Reg N H N' → RpAll N' vs es → Q vs H') → ta σ H Q

section
variable {ds : De} {ta tb tc : TE} {d e : PyData}
theorem ev_var {i : Nat} (h : ds[i]? = some (some d)) : EvE (tVar i) ds d := fun σ N hs H eN Q q => by
  obtain ⟨v, e1, r⟩ := hs.at_ i d h
  exact ⟨v, e1, q v H N (Ex.refl H) (Ex.refl N) eN Reg.refl r⟩
theorem ev_const {v : V} (h : ∀ N, Rp N v d) : EvE (tC v) ds d := fun σ N hs H eN Q q => q v H N (Ex.refl H) (Ex.refl N) eN Reg.refl (h N)
theorem ev_int {i : Int} : EvE (tC (.int i)) ds (.int i) := ev_const fun _ => .int i
theorem ev_bl {b : Bool} : EvE (tC (.bl b)) ds (.bool b) := ev_const fun _ => .bl b
theorem ev_non : EvE (tC .non) ds .none := ev_const fun _ => .non
theorem ev_str {x : Str} : EvE (tC (.str x)) ds (.str x) := ev_const fun _ => .str x
/-- an operation by its values -/
theorem ev_op {r : R2} {z : PyData} (ha : EvE ta ds d) (hb : EvE tb ds e)
    (hr : ∀ x y N H, Ex N H → Rp N x d → Rp N y e → ∀ Q : VK, (∀ v H' N', Ex H H' → Ex N N' → Ex N' H' → Reg N H N' → Rp N' v z → Q v H') → r x y H Q) : EvE (tOp r ta tb) ds z := fun σ N hs H eN Q q =>
  ha σ N hs H eN _ fun x H1 N1 e1 n1 k1 g1 r1 => hb σ N1 (hs.mono n1) H1 k1 _ fun y H2 N2 e2 n2 k2 g2 r2 =>
    hr x y N2 H2 k2 (r1.mono n2) r2 _ fun v H3 N3 e3 n3 k3 g3 r3 => q v H3 N3 ((e1.trans e2).trans e3) ((n1.trans n2).trans n3) k3 ((g1.trans e1 g2).trans (e1.trans e2) g3) r3
/-- .. a plain value comes out -/
theorem ev_opV {r : R2} {z : PyData} {v : V} (ha : EvE ta ds d) (hb : EvE tb ds e) (hz : ∀ N, Rp N v z)
    (hr : ∀ x y N H, Ex N H → Rp N x d → Rp N y e → ∀ Q : VK, Q v H → r x y H Q) : EvE (tOp r ta tb) ds z :=
  ev_op ha hb fun x y N H eN rx ry Q q => hr x y N H eN rx ry Q (q v H N (Ex.refl H) (Ex.refl N) eN Reg.refl (hz N))
theorem ev_I0 {g : Int → Int → V} {z : PyData} {i j : Int} (ha : EvE ta ds (.int i)) (hb : EvE tb ds (.int j)) (hz : ∀ N, Rp N (g i j) z) : EvE (tOp (rI0 g) ta tb) ds z :=
  ev_opV ha hb hz fun x y N H _ rx ry Q q => by
    cases rx
    cases ry
    exact ⟨i, j, rfl, rfl, q⟩
theorem ev_I {C : Int → Int → Prop} {g : Int → Int → V} {z : PyData} {i j : Int} (ha : EvE ta ds (.int i)) (hb : EvE tb ds (.int j)) (hc : C i j) (hz : ∀ N, Rp N (g i j) z) : EvE (tOp (rI C g) ta tb) ds z :=
  ev_opV ha hb hz fun x y N H _ rx ry Q q => by
    cases rx
    cases ry
    exact ⟨i, j, rfl, rfl, hc, q⟩
theorem ev_add {i j : Int} (ha : EvE ta ds (.int i)) (hb : EvE tb ds (.int j)) : EvE (tOp (rI0 fun i j => .int (i + j)) ta tb) ds (.int (i + j)) := ev_I0 ha hb fun _ => .int _
theorem ev_sub {i j : Int} (ha : EvE ta ds (.int i)) (hb : EvE tb ds (.int j)) : EvE (tOp (rI0 fun i j => .int (i - j)) ta tb) ds (.int (i - j)) := ev_I0 ha hb fun _ => .int _
theorem ev_lt {i j : Int} (ha : EvE ta ds (.int i)) (hb : EvE tb ds (.int j)) : EvE (tOp (rI0 fun i j => .bl (decide (i < j))) ta tb) ds (.bool (decide (i < j))) := ev_I0 ha hb fun _ => .bl _
theorem ev_le {i j : Int} (ha : EvE ta ds (.int i)) (hb : EvE tb ds (.int j)) : EvE (tOp (rI0 fun i j => .bl (decide (i ≤ j))) ta tb) ds (.bool (decide (i ≤ j))) := ev_I0 ha hb fun _ => .bl _
theorem ev_gt {i j : Int} (ha : EvE ta ds (.int i)) (hb : EvE tb ds (.int j)) : EvE (tOp (rI0 fun i j => .bl (decide (j < i))) ta tb) ds (.bool (decide (j < i))) := ev_I0 ha hb fun _ => .bl _
theorem ev_ge {i j : Int} (ha : EvE ta ds (.int i)) (hb : EvE tb ds (.int j)) : EvE (tOp (rI0 fun i j => .bl (decide (j ≤ i))) ta tb) ds (.bool (decide (j ≤ i))) := ev_I0 ha hb fun _ => .bl _
/-- a remainder, a quotient by a positive number -/
theorem ev_mod {i j : Int} (ha : EvE ta ds (.int i)) (hb : EvE tb ds (.int j)) (h : 0 < j) : EvE (tOp (rI (fun _ j => 0 < j) fun i j => .int (i % j)) ta tb) ds (.int (i % j)) := ev_I ha hb h fun _ => .int _
theorem ev_fdiv {i j : Int} (ha : EvE ta ds (.int i)) (hb : EvE tb ds (.int j)) (h : CDiv i j) : EvE (tOp (rI CDiv fun i j => .int (i / j)) ta tb) ds (.int (i / j)) := ev_I ha hb h fun _ => .int _
theorem ev_mul {i j : Int} (ha : EvE ta ds (.int i)) (hb : EvE tb ds (.int j)) (h : CMul i j) : EvE (tOp (rI CMul fun i j => .int (i * j)) ta tb) ds (.int (i * j)) := ev_I ha hb h fun _ => .int _
theorem ev_mulW {i j : Int} (ha : EvE ta ds (.int i)) (hb : EvE tb ds (.int j)) (h : CMulW i j) : EvE (tOp (rI CMulW fun i j => .int (i * j)) ta tb) ds (.int (i * j)) := ev_I ha hb h fun _ => .int _
theorem ev_pow {i j : Int} (ha : EvE ta ds (.int i)) (hb : EvE tb ds (.int j)) (h : CPow i j) : EvE (tOp (rI CPow fun i j => .int (i ^ j.toNat)) ta tb) ds (.int (i ^ j.toNat)) := ev_I ha hb h fun _ => .int _
/-- == and != of ints -/
theorem ev_eqI {i j : Int} (ha : EvE ta ds (.int i)) (hb : EvE tb ds (.int j)) : EvE (tOp rEq ta tb) ds (.bool (decide (i = j))) :=
  ev_opV (v := .bl (decide (i = j))) ha hb (fun _ => .bl _) fun x y N H _ rx ry Q q => by
    cases rx
    cases ry
    refine ⟨rfl, ?_⟩
    rw [show decide ((V.int i : V) = V.int j) = decide (i = j) from by simp]
    exact q
theorem ev_neI {i j : Int} (ha : EvE ta ds (.int i)) (hb : EvE tb ds (.int j)) : EvE (tOp rNe ta tb) ds (.bool (!decide (i = j))) :=
  ev_opV (v := .bl (!decide (i = j))) ha hb (fun _ => .bl _) fun x y N H _ rx ry Q q => by
    cases rx
    cases ry
    refine ⟨rfl, ?_⟩
    rw [show decide ((V.int i : V) = V.int j) = decide (i = j) from by simp]
    exact q
/-- == and != of data -/
theorem ev_eqD (ha : EvE ta ds d) (hb : EvE tb ds e) (nd : noDict d = true) (ne : noDict e = true) (sd : SeqAt.shaped d = true) (se : SeqAt.shaped e = true) : EvE (tOp (rEqD KK) ta tb) ds (.bool (PyData.eqv d e)) :=
  ev_opV (v := .bl (PyData.eqv d e)) ha hb (fun _ => .bl _) fun x y N H eN rx ry Q q => ⟨d, e, (rx.mono eN).dp nd, (ry.mono eN).dp ne, sd, se, q⟩
theorem ev_neD (ha : EvE ta ds d) (hb : EvE tb ds e) (nd : noDict d = true) (ne : noDict e = true) (sd : SeqAt.shaped d = true) (se : SeqAt.shaped e = true) : EvE (tOp (rNeD KK) ta tb) ds (.bool (!PyData.eqv d e)) :=
  ev_opV (v := .bl (!PyData.eqv d e)) ha hb (fun _ => .bl _) fun x y N H eN rx ry Q q => ⟨d, e, (rx.mono eN).dp nd, (ry.mono eN).dp ne, sd, se, q⟩
theorem ev_is {d' : PyData} (h : EvE ta ds d) (e : d = d') : EvE ta ds d' := e ▸ h
end

/-! ### tests -/
section
variable {ds : De} {te : TE} {t u : TT} {a b : Bool}
theorem eb_test (h : EvE te ds (.bool b)) : EvB (tTest te) ds b := fun σ N hs H eN Q q => h σ N hs H eN _ fun v H' N' e _ _ _ r => by
  cases r
  exact ⟨b, rfl, q H' e⟩
theorem eb_B (h : EvE te ds (.bool b)) : EvB (tB te) ds b := fun σ N hs H eN Q q => h σ N hs H eN _ fun v H' N' e _ _ _ r => by
  cases r
  exact ⟨b, rfl, q H' e⟩
theorem eb_not (h : EvB t ds a) : EvB (tNot t) ds (!a) := fun σ N hs H eN Q q => h σ N hs H eN _ fun H' e => q H' e
theorem eb_and (h1 : EvB t ds a) (h2 : a = true → EvB u ds b) : EvB (tAnd t u) ds (a && b) := fun σ N hs H eN Q q => h1 σ N hs H eN _ fun H1 e1 => by
  cases a with
  | true => exact iteT (h2 rfl σ N hs H1 (eN.trans e1) _ fun H2 e2 => q H2 (e1.trans e2))
  | false => exact iteF (q H1 e1)
theorem eb_or (h1 : EvB t ds a) (h2 : a = false → EvB u ds b) : EvB (tOr t u) ds (a || b) := fun σ N hs H eN Q q => h1 σ N hs H eN _ fun H1 e1 => by
  cases a with
  | true => exact iteT (q H1 e1)
  | false => exact iteF (h2 rfl σ N hs H1 (eN.trans e1) _ fun H2 e2 => q H2 (e1.trans e2))
theorem eb_is (h : EvB t ds a) (e : a = b) : EvB t ds b := e ▸ h
variable {ta tb tc : TE} {d : PyData}
theorem ev_andV (h1 : EvE ta ds (.bool a)) (h2 : a = true → EvE tb ds (.bool b)) : EvE (tAndV ta tb) ds (.bool (a && b)) := fun σ N hs H eN Q q => h1 σ N hs H eN _ fun v H1 N1 e1 n1 k1 g1 r => by
  cases r
  refine ⟨a, rfl, ?_⟩
  cases a with
  | true => exact iteT (h2 rfl σ N1 (hs.mono n1) H1 k1 _ fun v H2 N2 e2 n2 k2 g2 r2 => q v H2 N2 (e1.trans e2) (n1.trans n2) k2 (g1.trans e1 g2) r2)
  | false => exact iteF (q _ H1 N1 e1 n1 k1 g1 (.bl false))
theorem ev_orV (h1 : EvE ta ds (.bool a)) (h2 : a = false → EvE tb ds (.bool b)) : EvE (tOrV ta tb) ds (.bool (a || b)) := fun σ N hs H eN Q q => h1 σ N hs H eN _ fun v H1 N1 e1 n1 k1 g1 r => by
  cases r
  refine ⟨a, rfl, ?_⟩
  cases a with
  | true => exact iteT (q _ H1 N1 e1 n1 k1 g1 (.bl true))
  | false => exact iteF (h2 rfl σ N1 (hs.mono n1) H1 k1 _ fun v H2 N2 e2 n2 k2 g2 r2 => q v H2 N2 (e1.trans e2) (n1.trans n2) k2 (g1.trans e1 g2) r2)
theorem ev_notV (h1 : EvE ta ds (.bool a)) : EvE (tNotV ta) ds (.bool (!a)) := fun σ N hs H eN Q q => h1 σ N hs H eN _ fun v H1 N1 e1 n1 k1 g1 r => by
  cases r
  exact ⟨a, rfl, q _ H1 N1 e1 n1 k1 g1 (.bl _)⟩
theorem ev_if (h : EvB t ds b) (h1 : b = true → EvE ta ds d) (h2 : b = false → EvE tb ds d) : EvE (tIf t ta tb) ds d := fun σ N hs H eN Q q => h σ N hs H eN _ fun H1 e1 => by
  have k1 : Ex N H1 := eN.trans e1
  have gg : ∀ {H2 N2 : Hp}, Reg N H1 N2 → Reg N H N2 := fun g a ha => (g a ha).elim .inl fun z => .inr (ex_none e1 z)
  cases b with
  | true => exact iteT (h1 rfl σ N hs H1 k1 _ fun v H2 N2 e2 n2 k2 g2 r2 => q v H2 N2 (e1.trans e2) n2 k2 (gg (H2 := H2) g2) r2)
  | false => exact iteF (h2 rfl σ N hs H1 k1 _ fun v H2 N2 e2 n2 k2 g2 r2 => q v H2 N2 (e1.trans e2) n2 k2 (gg (H2 := H2) g2) r2)
end

/-! ### arguments, displays, built-ins -/
section
variable {ds : De} {te : TE} {ta : TA} {d : PyData} {es : List PyData}
theorem ea_nil : EvAs tNil ds [] := fun σ N hs H eN Q q => q [] H N (Ex.refl H) (Ex.refl N) eN Reg.refl .nil
theorem ea_cons (h : EvE te ds d) (hr : EvAs ta ds es) : EvAs (tCons te ta) ds (d :: es) := fun σ N hs H eN Q q =>
  h σ N hs H eN _ fun v H1 N1 e1 n1 k1 g1 r1 => hr σ N1 (hs.mono n1) H1 k1 _ fun vs H2 N2 e2 n2 k2 g2 r2 =>
    q (v :: vs) H2 N2 (e1.trans e2) (n1.trans n2) k2 (g1.trans e1 g2) (.cons (r1.mono n2) r2)
theorem laid {N H H1 N1 : Hp} {p : Addr} {o : HO} (e1 : Ex H H1) (n1 : Ex N N1) (k1 : Ex N1 H1) (g1 : Reg N H N1) (hp : H1 p = none) :
    Ex H (upd H1 p o) ∧ Ex N (upd N1 p o) ∧ Ex (upd N1 p o) (upd H1 p o) ∧ Reg N H (upd N1 p o) ∧ Ex N1 (upd N1 p o) := by
  have hn : N1 p = none := ex_none k1 hp
  refine ⟨e1.trans (Ex.new hp), n1.trans (Ex.new hn), fun a u e => ?_, fun a h => ?_, Ex.new hn⟩
  · by_cases z : a = p
    · subst z
      rw [upd_same] at e ⊢
      exact e
    · rw [upd_ne z] at e ⊢
      exact k1 a u e
  · by_cases z : a = p
    · subst z
      exact .inr (ex_none e1 hp)
    · rw [upd_ne z] at h
      exact g1 a h
theorem sz_100 {n : Nat} (h : n ≤ 100000) : n ≤ sizeLine := Nat.le_trans h (by decide)
theorem ev_lst (h : EvAs ta ds es) (hl : es.length ≤ 100000) : EvE (tLst ta) ds (.list es) := fun σ N hs H eN Q q =>
  h σ N hs H eN _ fun vs H1 N1 e1 n1 k1 g1 r1 => ⟨sz_100 (by rw [r1.length]; exact hl), fun p hp => by
    obtain ⟨a1, a2, a3, a4, a5⟩ := laid (o := .lst vs) e1 n1 k1 g1 hp
    exact q (.ref p) _ _ a1 a2 a3 a4 (.lst (sq_of upd_same) (r1.mono a5))⟩
theorem ev_tup (h : EvAs ta ds es) (hl : es.length ≤ 100000) : EvE (tTup ta) ds (.tuple es) := fun σ N hs H eN Q q =>
  h σ N hs H eN _ fun vs H1 N1 e1 n1 k1 g1 r1 => ⟨sz_100 (by rw [r1.length]; exact hl), fun p hp => by
    obtain ⟨a1, a2, a3, a4, a5⟩ := laid (o := .tup vs) e1 n1 k1 g1 hp
    exact q (.ref p) _ _ a1 a2 a3 a4 (.tup (.inl upd_same) (r1.mono a5))⟩
/-- a call by its values -/
theorem ev_cb {r : List V → Hp → VK → Prop} {z : PyData} (h : EvAs ta ds es)
    (hr : ∀ vs N H, Ex N H → RpAll N vs es → ∀ Q : VK, (∀ v H' N', Ex H H' → Ex N N' → Ex N' H' → Reg N H N' → Rp N' v z → Q v H') → r vs H Q) : EvE (tCB r ta) ds z := fun σ N hs H eN Q q =>
  h σ N hs H eN _ fun vs H1 N1 e1 n1 k1 g1 r1 => hr vs N1 H1 k1 r1 _ fun v H2 N2 e2 n2 k2 g2 r2 => q v H2 N2 (e1.trans e2) (n1.trans n2) k2 (g1.trans e1 g2) r2
theorem ev_cbV {r : List V → Hp → VK → Prop} {z : PyData} {v : V} (h : EvAs ta ds es) (hz : ∀ N, Rp N v z)
    (hr : ∀ vs N H, Ex N H → RpAll N vs es → ∀ Q : VK, Q v H → r vs H Q) : EvE (tCB r ta) ds z :=
  ev_cb h fun vs N H eN rv Q q => hr vs N H eN rv Q (q v H N (Ex.refl H) (Ex.refl N) eN Reg.refl (hz N))
theorem rd_ex {N H : Hp} (e : Ex N H) {a : Addr} {o : HO} (h : Rd N a o) : Rd H a o := ex_rd e h
theorem ev_len_l {ts : List PyData} {tx : TE} (h : EvE tx ds (.list ts)) : EvE (tCB (fun xs H Q => ∃ (p : Addr) (ys : List V), xs = [.ref p] ∧ (SqL KK H p ys ∨ SqT KK H p ys) ∧ Q (.int ys.length) H) (tCons tx tNil)) ds (.int (ts.length : Int)) :=
  ev_cbV (v := .int (ts.length : Int)) (ea_cons h ea_nil) (fun _ => .int _) fun vs N H eN rv Q q => by
    cases rv with
    | cons r rr =>
      cases rr
      cases r with
      | lst hr hall =>
        refine ⟨_, _, rfl, .inl ((ex_l eN hr)), ?_⟩
        rw [hall.length]
        exact q
theorem ev_len_t {ts : List PyData} {tx : TE} (h : EvE tx ds (.tuple ts)) : EvE (tCB (fun xs H Q => ∃ (p : Addr) (ys : List V), xs = [.ref p] ∧ (SqL KK H p ys ∨ SqT KK H p ys) ∧ Q (.int ys.length) H) (tCons tx tNil)) ds (.int (ts.length : Int)) :=
  ev_cbV (v := .int (ts.length : Int)) (ea_cons h ea_nil) (fun _ => .int _) fun vs N H eN rv Q q => by
    cases rv with
    | cons r rr =>
      cases rr
      cases r with
      | tup hr hall =>
        refine ⟨_, _, rfl, .inr (set_of_rd (rd_ex eN hr)), ?_⟩
        rw [hall.length]
        exact q
theorem ev_any {bs : List Bool} {tx : TE} (h : EvE tx ds (.list (bs.map .bool))) : EvE (tCB (rAny KK) (tCons tx tNil)) ds (.bool (bs.any id)) :=
  ev_cbV (v := .bl (bs.any id)) (ea_cons h ea_nil) (fun _ => .bl _) fun vs N H eN rv Q q => by
    cases rv with
    | cons r rr =>
      cases rr
      cases r with
      | lst hr hall =>
        have e := hall.ofBools
        subst e
        exact ⟨_, bs, rfl, (ex_l eN hr), q⟩
theorem ev_all {bs : List Bool} {tx : TE} (h : EvE tx ds (.list (bs.map .bool))) : EvE (tCB (rAll KK) (tCons tx tNil)) ds (.bool (bs.all id)) :=
  ev_cbV (v := .bl (bs.all id)) (ea_cons h ea_nil) (fun _ => .bl _) fun vs N H eN rv Q q => by
    cases rv with
    | cons r rr =>
      cases rr
      cases r with
      | lst hr hall =>
        have e := hall.ofBools
        subst e
        exact ⟨_, bs, rfl, (ex_l eN hr), q⟩
theorem ev_sum {ns : List Int} {tx : TE} (h : EvE tx ds (.list (ns.map .int))) : EvE (tCB (rSum KK) (tCons tx tNil)) ds (.int ns.sum) :=
  ev_cbV (v := .int ns.sum) (ea_cons h ea_nil) (fun _ => .int _) fun vs N H eN rv Q q => by
    cases rv with
    | cons r rr =>
      cases rr
      cases r with
      | lst hr hall =>
        have e := hall.ofInts
        subst e
        exact ⟨_, ns, rfl, (ex_l eN hr), q⟩
/-- xs[i] -/
theorem ev_ixL {ts : List PyData} {i : Int} {tx ti : TE} (h : EvE tx ds (.list ts)) (hi : EvE ti ds (.int i)) (ha : atI ts i = some d) : EvE (tOp (rIxL KK) tx ti) ds d :=
  ev_op h hi fun x y N H eN rx ry Q q => by
    cases ry
    cases rx with
    | lst hr hall =>
      have hx := ha
      unfold atI at hx
      cases e : ixN ts.length i with
      | none =>
        rw [e] at hx
        cases hx
      | some j =>
        rw [e] at hx
        obtain ⟨v, ev, rv⟩ := hall.get (i := j) (d := d) hx
        refine ⟨_, _, i, v, rfl, rfl, (ex_l eN hr), ?_, q v H N (Ex.refl H) (Ex.refl N) eN Reg.refl rv⟩
        unfold atI
        rw [hall.length, e]
        exact ev
theorem ev_ixT {ts : List PyData} {i : Int} {tx ti : TE} (h : EvE tx ds (.tuple ts)) (hi : EvE ti ds (.int i)) (ha : atI ts i = some d) : EvE (tOp (rIxT KK) tx ti) ds d :=
  ev_op h hi fun x y N H eN rx ry Q q => by
    cases ry
    cases rx with
    | tup hr hall =>
      have hx := ha
      unfold atI at hx
      cases e : ixN ts.length i with
      | none =>
        rw [e] at hx
        cases hx
      | some j =>
        rw [e] at hx
        obtain ⟨v, ev, rv⟩ := hall.get (i := j) (d := d) hx
        refine ⟨_, _, i, v, rfl, rfl, set_of_rd (rd_ex eN hr), ?_, q v H N (Ex.refl H) (Ex.refl N) eN Reg.refl rv⟩
        unfold atI
        rw [hall.length, e]
        exact ev
/-- list(xs) -/
theorem ev_list_of {ts : List PyData} {tx : TE} (h : EvE tx ds (.list ts)) :
    EvE (tCB (fun xs H Q => ∃ (p : Addr) (ys : List V), xs = [.ref p] ∧ (SqL KK H p ys ∨ SqT KK H p ys) ∧ ∀ l, H l = none → Q (.ref l) (upd H l (.lst ys))) (tCons tx tNil)) ds (.list ts) :=
  ev_cb (ea_cons h ea_nil) fun vs N H eN rv Q q => by
    cases rv with
    | cons r rr =>
      cases rr
      cases r with
      | lst hr hall =>
        refine ⟨_, _, rfl, .inl ((ex_l eN hr)), fun p hp => ?_⟩
        obtain ⟨a1, a2, a3, a4, a5⟩ := laid (o := .lst _) (Ex.refl H) (Ex.refl N) eN Reg.refl hp
        exact q (.ref p) _ _ a1 a2 a3 a4 (.lst (sq_of upd_same) (hall.mono a5))
end
end DL
set_option Elab.async false
set_option linter.all false
set_option maxRecDepth 100000
set_option maxHeartbeats 2000000
/-! Data: comprehensions, statements, loops, calls, promises. -/
namespace DL
open PySem PySem.Spec PyProof.Rows L2 Evl
set_option autoImplicit false
variable [Kn]

/-! ### a list that is being made -/
/-- at D stands the list of what es tells; known besides: a part Nk -/
structure Cq (N H H1 N1 : Hp) (D : Addr) (es : List PyData) (H' : Hp) : Prop where
  ex : ∃ (acc : List V) (Nk : Hp), Ex H1 H' ∧ H' D = some (.lst acc) ∧ Ex N1 Nk ∧ Ex Nk H' ∧ Nk D = none ∧ Reg N H Nk ∧ RpAll Nk acc es
section
variable {N H H1 N1 : Hp} {D : Addr} {es : List PyData} {H' H'' : Hp}
theorem Cq.start (e1 : Ex H H1) (k1 : Ex N1 H1) (g1 : Reg N H N1) (hD : H1 D = none) : Cq N H H1 N1 D [] (upd H1 D (.lst [])) :=
  ⟨[], N1, Ex.new hD, upd_same, Ex.refl _, k1.trans (Ex.new hD), ex_none k1 hD, g1, .nil⟩
theorem Cq.on (p : Cq N H H1 N1 D es H') (e : Ex H' H'') : Cq N H H1 N1 D es H'' := by
  obtain ⟨acc, Nk, a, b, c, d, f, g, r⟩ := p.ex
  exact ⟨acc, Nk, a.trans e, e _ _ b, c, d.trans e, f, g, r⟩
theorem Cq.known (p : Cq N H H1 N1 D es H') : Ex N1 H' := by
  obtain ⟨acc, Nk, a, b, c, d, f, g, r⟩ := p.ex
  exact c.trans d
theorem Cq.old (p : Cq N H H1 N1 D es H') : Ex H1 H' := by
  obtain ⟨acc, Nk, a, b, c, d, f, g, r⟩ := p.ex
  exact a
theorem Cq.fin (p : Cq N H H1 N1 D es H') (e1 : Ex H H1) (n1 : Ex N N1) (hD : H1 D = none) {Q : VK} (q : ∀ v H' N', Ex H H' → Ex N N' → Ex N' H' → Reg N H N' → Rp N' v (.list es) → Q v H') : Q (.ref D) H' := by
  obtain ⟨acc, Nk, a, b, c, d, f, g, r⟩ := p.ex
  refine q _ H' (upd Nk D (.lst acc)) (e1.trans a) ((n1.trans c).trans (Ex.new f)) (fun x o h => ?_) (fun x h => ?_) (.lst (sq_of upd_same) (r.mono (Ex.new f)))
  · by_cases z : x = D
    · subst z
      rw [upd_same] at h
      rw [← h]
      exact b
    · rw [upd_ne z] at h
      exact d x o h
  · by_cases z : x = D
    · subst z
      exact .inr (ex_none e1 hD)
    · rw [upd_ne z] at h
      exact g x h
/-- one item more -/
theorem cq_add {ds : De} {te : TE} {d : PyData} {σ : St} {H3 : Hp} (p : Cq N H H1 N1 D es H3) (e1 : Ex H H1) (hD : H1 D = none) (hl : es.length < 100000) (hs : Holds N1 σ ds) (he : EvE te ds d) :
    te σ H3 fun y H4 => ∃ acc, H4 D = some (.lst acc) ∧ acc.length < sizeLine ∧ Cq N H H1 N1 D (es ++ [d]) (upd H4 D (.lst (acc ++ [y]))) := by
  obtain ⟨acc, Nk, a, b, c, k, f, g, r⟩ := p.ex
  refine he σ Nk (hs.mono c) H3 k _ fun y H4 N4 e4 n4 k4 g4 r4 => ⟨acc, e4 _ _ b, by rw [r.length]; exact sz_lt hl, acc ++ [y], N4, ?_, upd_same, c.trans n4, ?_, ?_, ?_, (r.mono n4).append (.one r4)⟩
  · exact Ex.mut (a.trans e4) hD
  · have f4 : N4 D = none := by
      cases h : N4 D with
      | none => rfl
      | some o =>
        rcases g4 D (by rw [h]; intro z; cases z) with z | z
        · exact absurd f z
        · rw [b] at z
          cases z
    exact Ex.mut k4 f4
  · cases h : N4 D with
    | none => rfl
    | some o =>
      rcases g4 D (by rw [h]; intro z; cases z) with z | z
      · exact absurd f z
      · rw [b] at z
        cases z
  · exact fun x hx => (g4 x hx).elim (g x) fun z => .inr (ex_none (e1.trans a) z)
theorem cq_turn {ds : De} {te : TE} {tt : TT} {d : PyData} {b : Bool} {σ : St} (p : Cq N H H1 N1 D es H') (e1 : Ex H H1) (hD : H1 D = none) (hl : es.length < 100000) (hs : Holds N1 σ ds) (ht : EvB tt ds b) (he : b = true → EvE te ds d)
    {P : Hp → Prop} (h1 : b = true → ∀ H'', Cq N H H1 N1 D (es ++ [d]) H'' → P H'') (h2 : b = false → ∀ H'', Cq N H H1 N1 D es H'' → P H'') :
    tt σ H' fun b H3 => if b = true then te σ H3 fun y H4 => ∃ acc, H4 D = some (.lst acc) ∧ acc.length < sizeLine ∧ P (upd H4 D (.lst (acc ++ [y]))) else P H3 := by
  have kk := p.known
  refine ht σ N1 hs H' kk _ fun H3 e3 => ?_
  cases b with
  | false => exact iteF (h2 rfl _ (p.on e3))
  | true =>
    refine iteT ?_
    obtain ⟨acc, Nk, a, b, c, k, f, g, r⟩ := (p.on e3).ex
    refine he rfl σ Nk (hs.mono c) H3 k _ fun y H4 N4 e4 n4 k4 g4 r4 => ⟨acc, e4 _ _ b, by rw [r.length]; exact sz_lt hl, h1 rfl _ ⟨acc ++ [y], N4, Ex.mut (a.trans e4) hD, upd_same, c.trans n4, ?_, ?_, ?_, (r.mono n4).append (.one r4)⟩⟩
    · have f4 : N4 D = none := by
        cases h : N4 D with
        | none => rfl
        | some o =>
          rcases g4 D (by rw [h]; intro z; cases z) with z | z
          · exact absurd f z
          · rw [b] at z
            cases z
      exact Ex.mut k4 f4
    · cases h : N4 D with
      | none => rfl
      | some o =>
        rcases g4 D (by rw [h]; intro z; cases z) with z | z
        · exact absurd f z
        · rw [b] at z
          cases z
    · exact fun x hx => (g4 x hx).elim (g x) fun z => .inr (ex_none (e1.trans a) z)
end
theorem take_snoc {A : Type} {xs : List A} {i : Nat} {x : A} (h : xs[i]? = some x) : xs.take (i + 1) = xs.take i ++ [x] := by
  rw [List.take_add_one, h]
  rfl
theorem fm_yes {A B : Type} {xs : List A} {p : A → Bool} {f : A → B} {i : Nat} {x : A} (h : xs[i]? = some x) (hp : p x = true) : ((xs.take (i + 1)).filter p).map f = ((xs.take i).filter p).map f ++ [f x] := by
  rw [take_snoc h, List.filter_append, List.map_append]
  simp [hp]
theorem fm_no {A B : Type} {xs : List A} {p : A → Bool} {f : A → B} {i : Nat} {x : A} (h : xs[i]? = some x) (hp : p x = false) : ((xs.take (i + 1)).filter p).map f = ((xs.take i).filter p).map f := by
  rw [take_snoc h, List.filter_append, List.map_append]
  simp [hp]
theorem fm_len {A B : Type} {xs : List A} {p : A → Bool} {f : A → B} {i : Nat} : (((xs.take i).filter p).map f).length ≤ xs.length := by
  rw [List.length_map]
  refine Nat.le_trans (List.length_filter_le _ _) ?_
  rw [List.length_take]
  exact Nat.min_le_right _ _
theorem eb_yes {ds : De} : EvB tYes ds true := fun σ N hs H eN Q q => q H (Ex.refl H)
section
variable {ds : De} {tl te : TE} {tt : TT} {j : Nat} {A : Type}
/-- [f x for x in xs if p x], xs a list -/
theorem ev_lcL {xs : List A} {g : A → PyData} {p : A → Bool} {f : A → PyData} (h : EvE tl ds (.list (xs.map g))) (hz : xs.length < 100000)
    (ht : ∀ x ∈ xs, EvB tt ((wipeD ds [j]).set j (some (g x))) (p x)) (he : ∀ x ∈ xs, p x = true → EvE te ((wipeD ds [j]).set j (some (g x))) (f x)) :
    EvE (tLc (iList KK tl) (gName j) tt te [j]) ds (.list ((xs.filter p).map f)) := fun σ N hs H eN Q q =>
  h σ N hs H eN _ fun v H1 N1 e1 n1 k1 g1 r1 => by
    cases r1 with
    | @lst a vs _ hr hall =>
      refine ⟨a, rfl, ⟨vs, ex_l k1 hr⟩, fun D hD => ?_⟩
      have hlen : vs.length = xs.length := by rw [hall.length, List.length_map]
      refine lc_list (xs := vs) (fun i H' => Cq N H H1 N1 D (((xs.take i).filter p).map f) H') (Cq.start e1 k1 g1 hD) (fun i H' _ c => ex_l c.known hr) (fun i v H' hi c => ?_) (fun H' c => ?_)
      · obtain ⟨d, ed, rv⟩ := hall.getV hi
        rw [List.getElem?_map] at ed
        cases ex : xs[i]? with
        | none =>
          rw [ex] at ed
          cases ed
        | some x =>
          rw [ex] at ed
          have ed' : g x = d := Option.some.inj ed
          subst ed'
          have hm : x ∈ xs := List.mem_of_getElem? ex
          refine ⟨wipe1 σ j v, cq_turn (b := p x) (d := f x) c e1 hD (Nat.lt_of_le_of_lt fm_len hz) (((hs.mono n1).wipe [j]).set rv j) (ht x hm) (he x hm) (fun hp H'' c' => ?_) (fun hp H'' c' => ?_)⟩
          · rw [fm_yes ex hp]
            exact c'
          · rw [fm_no ex hp]
            exact c'
      · rw [show ((xs.take vs.length).filter p).map f = (xs.filter p).map f by rw [hlen, List.take_length]] at c
        exact c.fin e1 n1 hD q
theorem ev_lcL1 {xs : List A} {g : A → PyData} {f : A → PyData} (h : EvE tl ds (.list (xs.map g))) (hz : xs.length < 100000) (he : ∀ x ∈ xs, EvE te ((wipeD ds [j]).set j (some (g x))) (f x)) :
    EvE (tLc (iList KK tl) (gName j) tYes te [j]) ds (.list (xs.map f)) := by
  have h2 := ev_lcL (j := j) (tt := tYes) (te := te) (p := fun _ => true) (f := f) h hz (fun _ _ => eb_yes) (fun x hx _ => he x hx)
  rw [List.filter_eq_self.mpr (fun _ _ => rfl)] at h2
  exact h2
/-- .. over range(n) -/
theorem ev_lcR {ta : TA} {n : Int} {p : Nat → Bool} {f : Nat → PyData} (h : EvAs ta ds [.int n]) (hn : n < 100000)
    (ht : ∀ i : Nat, (i : Int) < n → EvB tt ((wipeD ds [j]).set j (some (.int (i : Int)))) (p i)) (he : ∀ i : Nat, (i : Int) < n → p i = true → EvE te ((wipeD ds [j]).set j (some (.int (i : Int)))) (f i)) :
    -100000 < n → EvE (tLc (iRng1 ta) (gName j) tt te [j]) ds (.list (((List.range n.toNat).filter p).map f)) := fun hn0 σ N hs H eN Q q =>
  h σ N hs H eN _ fun vs H1 N1 e1 n1 k1 g1 r1 => by
    cases r1 with
    | cons r rr =>
      cases rr
      cases r
      refine ⟨n, rfl, by omega, by omega, fun D hD => ?_⟩
      refine lc_range (lo := 0) (n := n.toNat) (fun i H' => Cq N H H1 N1 D ((((List.range n.toNat).take i).filter p).map f) H') (Cq.start e1 k1 g1 hD) (fun i H' hi c => ?_) (fun H' c => ?_)
      · have e0 : (0 : Int) + (i : Int) = (i : Int) := Int.zero_add _
        rw [e0]
        have ex : (List.range n.toNat)[i]? = some i := by rw [List.getElem?_range hi]
        refine ⟨wipe1 σ j _, cq_turn (b := p i) (d := f i) c e1 hD (Nat.lt_of_le_of_lt fm_len (by rw [List.length_range]; omega)) (((hs.mono n1).wipe [j]).set (.int _) j) (ht i (by omega)) (he i (by omega)) (fun hp H'' c' => ?_) (fun hp H'' c' => ?_)⟩
        · rw [fm_yes ex hp]
          exact c'
        · rw [fm_no ex hp]
          exact c'
      · rw [show (((List.range n.toNat).take n.toNat).filter p).map f = ((List.range n.toNat).filter p).map f by rw [List.take_of_length_le (by rw [List.length_range]; exact Nat.le_refl _)]] at c
        exact c.fin e1 n1 hD q
theorem ev_lcR1 {ta : TA} {n : Int} {f : Nat → PyData} (h : EvAs ta ds [.int n]) (hn : n < 100000) (hn0 : -100000 < n) (he : ∀ i : Nat, (i : Int) < n → EvE te ((wipeD ds [j]).set j (some (.int (i : Int)))) (f i)) :
    EvE (tLc (iRng1 ta) (gName j) tYes te [j]) ds (.list ((List.range n.toNat).map f)) := by
  have h2 := ev_lcR (j := j) (tt := tYes) (te := te) (p := fun _ => true) (f := f) h hn (fun _ _ => eb_yes) (fun i hi _ => he i hi) hn0
  rw [List.filter_eq_self.mpr (fun _ _ => rfl)] at h2
  exact h2
end

/-! ### statements -/
inductive Out
  | nx (ds : De) | rt (d : PyData) | go (ds : De) | er (c : Value)
def After (E : XK) (D : Ends) (N H : Hp) : Out → Prop
  | .nx ds => ∀ σ' H' N', Ex H H' → Ex N N' → Ex N' H' → Reg N H N' → Holds N' σ' ds → D.nx σ' H'
  | .go ds => (∀ σ' H' N', Ex H H' → Ex N N' → Ex N' H' → Reg N H N' → Holds N' σ' ds → D.nx σ' H') ∧ (∀ σ' H' N', Ex H H' → Ex N N' → Ex N' H' → Reg N H N' → Holds N' σ' ds → D.ct σ' H')
  | .rt d => ∀ v H' N', Ex H H' → Ex N N' → Ex N' H' → Reg N H N' → Rp N' v d → D.rt v H'
  | .er c => ∀ H', Ex H H' → E c none H'
def EvS (E : XK) (t : TS) (ds : De) (o : Out) : Prop := ∀ σ N, Holds N σ ds → ∀ (D : Ends) H, Ex N H → After E D N H o → t D σ H
theorem After.on {E : XK} {D : Ends} {N H N1 H1 : Hp} {o : Out} (e1 : Ex H H1) (n1 : Ex N N1) (g1 : Reg N H N1) (h : After E D N H o) : After E D N1 H1 o := by
  have gg : ∀ {N'}, Reg N1 H1 N' → Reg N H N' := fun g => g1.trans e1 g
  cases o with
  | nx ds => exact fun σ' H' N' e n k g hs => h σ' H' N' (e1.trans e) (n1.trans n) k (gg g) hs
  | go ds => exact ⟨fun σ' H' N' e n k g hs => h.1 σ' H' N' (e1.trans e) (n1.trans n) k (gg g) hs, fun σ' H' N' e n k g hs => h.2 σ' H' N' (e1.trans e) (n1.trans n) k (gg g) hs⟩
  | rt d => exact fun v H' N' e n k g r => h v H' N' (e1.trans e) (n1.trans n) k (gg g) r
  | er c => exact fun H' e => h H' (e1.trans e)
/-- only a part is known on the way: what stays the same is the base -/
theorem After.same {E : XK} {D D' : Ends} {N H : Hp} {o : Out} (h : After E D N H o) (hn : ∀ ds, (o = .nx ds ∨ o = .go ds) → D'.nx = D.nx) (hc : ∀ ds, o = .go ds → D'.ct = D.ct) (hr : D'.rt = D.rt) : After E D' N H o := by
  cases o with
  | nx ds => exact fun σ' H' N' e n k g hs => by rw [hn ds (.inl rfl)]; exact h σ' H' N' e n k g hs
  | go ds => exact ⟨fun σ' H' N' e n k g hs => by rw [hn ds (.inr rfl)]; exact h.1 σ' H' N' e n k g hs, fun σ' H' N' e n k g hs => by rw [hc ds rfl]; exact h.2 σ' H' N' e n k g hs⟩
  | rt d => exact fun v H' N' e n k g r => by rw [hr]; exact h v H' N' e n k g r
  | er c => exact h
section
variable {E : XK} {t u : TS} {ds ds1 : De} {o : Out} {te : TE} {d : PyData} {c : TT} {b : Bool}
theorem es_seq (h1 : EvS E t ds (.nx ds1)) (h2 : EvS E u ds1 o) : EvS E (tSeq t u) ds o := fun σ N hs D H eN a =>
  h1 σ N hs { D with nx := u D } H eN fun σ' H' N' e n k g hs' => h2 σ' N' hs' D H' k (a.on e n g)
theorem es_seqR (h1 : EvS E t ds (.rt d)) : EvS E (tSeq t u) ds (.rt d) := fun σ N hs D H eN a =>
  h1 σ N hs { D with nx := u D } H eN fun v H' N' e n k g r => a v H' N' e n k g r
theorem es_seqE {cl : Value} (h1 : EvS E t ds (.er cl)) : EvS E (tSeq t u) ds (.er cl) := fun σ N hs D H eN a =>
  h1 σ N hs { D with nx := u D } H eN a
theorem es_asg {i : Nat} (h : EvE te ds d) : EvS E (tAsg te (gName i)) ds (.nx (ds.set i (some d))) := fun σ N hs D H eN a =>
  h σ N hs H eN _ fun v H' N' e n k g r => a _ H' N' e n k g ((hs.mono n).set r i)
theorem es_asg2 {i j : Nat} {d1 d2 : PyData} (h : EvE te ds (.tuple [d1, d2])) : EvS E (tAsg te (gTup KK 2 (gCons (gName i) (gCons (gName j) gNil)))) ds (.nx ((ds.set i (some d1)).set j (some d2))) := fun σ N hs D H eN a =>
  h σ N hs H eN _ fun v H' N' e n k g r => by
    cases r with
    | tup hr hall =>
      cases hall with
      | cons r1 rr =>
        cases rr with
        | cons r2 rr =>
          cases rr
          exact ⟨_, _, rfl, set_of_rd (rd_ex k hr), rfl, _, _, rfl, _, _, rfl, rfl, a _ H' N' e n k g (((hs.mono n).set r1 i).set r2 j)⟩
theorem es_asg3 {i j l : Nat} {d1 d2 d3 : PyData} (h : EvE te ds (.tuple [d1, d2, d3])) : EvS E (tAsg te (gTup KK 3 (gCons (gName i) (gCons (gName j) (gCons (gName l) gNil))))) ds (.nx (((ds.set i (some d1)).set j (some d2)).set l (some d3))) := fun σ N hs D H eN a =>
  h σ N hs H eN _ fun v H' N' e n k g r => by
    cases r with
    | tup hr hall =>
      cases hall with
      | cons r1 rr =>
        cases rr with
        | cons r2 rr =>
          cases rr with
          | cons r3 rr =>
            cases rr
            exact ⟨_, _, rfl, set_of_rd (rd_ex k hr), rfl, _, _, rfl, _, _, rfl, _, _, rfl, rfl, a _ H' N' e n k g ((((hs.mono n).set r1 i).set r2 j).set r3 l)⟩
theorem es_ret (h : EvE te ds d) : EvS E (tRet te) ds (.rt d) := fun σ N hs D H eN a => h σ N hs H eN _ a
theorem es_drop (h : EvE te ds d) : EvS E (tDrop te) ds (.nx ds) := fun σ N hs D H eN a => h σ N hs H eN _ fun v H' N' e n k g _ => a σ H' N' e n k g (hs.mono n)
theorem es_next : EvS E tNext ds (.nx ds) := fun σ N hs D H eN a => a σ H N (Ex.refl _) (Ex.refl _) eN Reg.refl hs
theorem es_if (h : EvB c ds b) (h1 : b = true → EvS E t ds o) (h2 : b = false → EvS E u ds o) : EvS E (tIfS c t u) ds o := fun σ N hs D H eN a =>
  h σ N hs H eN _ fun H1 e1 => by
    have g1 : Reg N H N := Reg.refl
    cases b with
    | true => exact iteT (h1 rfl σ N hs D H1 (eN.trans e1) (a.on e1 (Ex.refl N) g1))
    | false => exact iteF (h2 rfl σ N hs D H1 (eN.trans e1) (a.on e1 (Ex.refl N) g1))
theorem es_go (h : EvS E t ds (.nx ds1)) : EvS E t ds (.go ds1) := fun σ N hs D H eN a => h σ N hs D H eN a.1
theorem es_ct : EvS E tCont ds (.go ds) := fun σ N hs D H eN a => a.2 σ H N (Ex.refl _) (Ex.refl _) eN Reg.refl hs
theorem es_le {ds0 : De} (l : Le ds0 ds) (h : EvS E t ds0 o) : EvS E t ds o := fun σ N hs D H eN a => h σ N (hs.le l) D H eN a
theorem es_nxle {ds2 : De} (l : Le ds2 ds1) (h : EvS E t ds (.nx ds1)) : EvS E t ds (.nx ds2) := fun σ N hs D H eN a => h σ N hs D H eN fun σ' H' N' e n k g hs' => a σ' H' N' e n k g (hs'.le l)
theorem es_gole {ds2 : De} (l : Le ds2 ds1) (h : EvS E t ds (.go ds1)) : EvS E t ds (.go ds2) := fun σ N hs D H eN a => h σ N hs D H eN ⟨fun σ' H' N' e n k g hs' => a.1 σ' H' N' e n k g (hs'.le l), fun σ' H' N' e n k g hs' => a.2 σ' H' N' e n k g (hs'.le l)⟩
theorem es_is {o' : Out} (h : EvS E t ds o) (e : o = o') : EvS E t ds o' := e ▸ h
end
theorem Holds.setIn {N : Hp} {σ : St} {ds : De} (h : Holds N σ ds) (j : Nat) (v : V) : Holds N (σ.set j (some v)) (ds.set j none) := ⟨by rw [List.length_set, List.length_set, h.len], fun i e q => by
  by_cases z : j = i
  · subst z
    by_cases hj : j < ds.length
    · rw [List.getElem?_set_self hj] at q
      cases q
    · rw [List.getElem?_eq_none (by rw [List.length_set]; omega)] at q
      cases q
  · rw [List.getElem?_set_ne z] at q
    obtain ⟨u, e1, r1⟩ := h.at_ i e q
    exact ⟨u, by rw [List.getElem?_set_ne z]; exact e1, r1⟩⟩

/-! ### loops -/
section
variable {E : XK} {tb : TS} {ds : De} {tl : TE} {j : Nat}
/-- the word of a loop between two turns -/
def Lw (D : Ends) (N H : Hp) (S : Nat → De) (i : Nat) (σ : St) (H' : Hp) : Prop := ∃ N', Ex H H' ∧ Ex N N' ∧ Ex N' H' ∧ Reg N H N' ∧ Holds N' σ (S i)
/-- for x in xs, all turns to the end -/
theorem es_forL {ts : List PyData} (h : EvE tl ds (.list ts)) (S : Nat → De) (h0 : Le (S 0) ds) (turn : ∀ i t, ts[i]? = some t → EvS E tb ((S i).set j (some t)) (.go (S (i + 1)))) :
    EvS E (tFor (iList KK tl) (gName j) tb) ds (.nx (S ts.length)) := fun σ N hs D H eN a =>
  h σ N hs H eN _ fun v H1 N1 e1 n1 k1 g1 r1 => by
    cases r1 with
    | @lst ad vs _ hr hall =>
      refine ⟨ad, rfl, ⟨vs, ex_l k1 hr⟩, ?_⟩
      refine for_list (xs := vs) (Lw D N1 H1 S) ⟨N1, Ex.refl _, Ex.refl _, k1, Reg.refl, (hs.mono n1).le h0⟩ (fun i σ H' _ ⟨N', a1, a2, a3, a4, a5⟩ => ex_l (a2.trans a3) hr) ?_ ?_
      · rintro i v σ' H' hi ⟨N', a1, a2, a3, a4, a5⟩
        obtain ⟨t, et, rv⟩ := hall.getV hi
        refine turn i t et (σ'.set j (some v)) N' (a5.set (rv.mono a2) j) _ H' a3 ⟨?_, ?_⟩
        · exact fun σ2 H2 N2 b1 b2 b3 b4 b5 => ⟨N2, a1.trans b1, a2.trans b2, b3, a4.trans a1 b4, b5⟩
        · exact fun σ2 H2 N2 b1 b2 b3 b4 b5 => ⟨N2, a1.trans b1, a2.trans b2, b3, a4.trans a1 b4, b5⟩
      · rintro σ' H' ⟨N', a1, a2, a3, a4, a5⟩
        rw [hall.length] at a5
        exact a σ' H' N' (e1.trans a1) (n1.trans a2) a3 (g1.trans e1 a4) a5
/-- .. one turn returns -/
theorem es_forLr {ts : List PyData} {d : PyData} {k : Nat} (h : EvE tl ds (.list ts)) (S : Nat → De) (h0 : Le (S 0) ds) (hk : k < ts.length) (turn : ∀ i t, i < k → ts[i]? = some t → EvS E tb ((S i).set j (some t)) (.go (S (i + 1))))
    (last : ∀ t, ts[k]? = some t → EvS E tb ((S k).set j (some t)) (.rt d)) :
    EvS E (tFor (iList KK tl) (gName j) tb) ds (.rt d) := fun σ N hs D H eN a =>
  h σ N hs H eN _ fun v H1 N1 e1 n1 k1 g1 r1 => by
    cases r1 with
    | @lst ad vs _ hr hall =>
      have hlen := hall.length
      refine ⟨ad, rfl, ⟨vs, ex_l k1 hr⟩, ?_⟩
      refine for_list (xs := vs) (fun i σ H' => i ≤ k ∧ Lw D N1 H1 S i σ H') ⟨Nat.zero_le _, N1, Ex.refl _, Ex.refl _, k1, Reg.refl, (hs.mono n1).le h0⟩ (fun i σ H' _ ⟨_, N', a1, a2, a3, a4, a5⟩ => ex_l (a2.trans a3) hr) ?_ ?_
      · rintro i v σ' H' hi ⟨hik, N', a1, a2, a3, a4, a5⟩
        obtain ⟨t, et, rv⟩ := hall.getV hi
        by_cases hlt : i < k
        · refine turn i t hlt et (σ'.set j (some v)) N' (a5.set (rv.mono a2) j) _ H' a3 ⟨?_, ?_⟩
          · exact fun σ2 H2 N2 b1 b2 b3 b4 b5 => ⟨hlt, N2, a1.trans b1, a2.trans b2, b3, a4.trans a1 b4, b5⟩
          · exact fun σ2 H2 N2 b1 b2 b3 b4 b5 => ⟨hlt, N2, a1.trans b1, a2.trans b2, b3, a4.trans a1 b4, b5⟩
        · have e : i = k := by omega
          subst e
          refine last t et (σ'.set j (some v)) N' (a5.set (rv.mono a2) j) _ H' a3 ?_
          exact fun v H2 N2 b1 b2 b3 b4 b5 => a v H2 N2 ((e1.trans a1).trans b1) ((n1.trans a2).trans b2) b3 ((g1.trans e1 a4).trans (e1.trans a1) b4) b5
      · rintro σ' H' ⟨hik, _⟩
        omega
/-- for i in range(n) -/
theorem es_forR {ta : TA} {n : Int} (h : EvAs ta ds [.int n]) (hn : n < 100000) (hn0 : -100000 < n) (S : Nat → De) (h0 : Le (S 0) ds) (turn : ∀ i : Nat, (i : Int) < n → EvS E tb ((S i).set j (some (.int (i : Int)))) (.go (S (i + 1)))) :
    EvS E (tFor (iRng1 ta) (gName j) tb) ds (.nx (S n.toNat)) := fun σ N hs D H eN a =>
  h σ N hs H eN _ fun vs H1 N1 e1 n1 k1 g1 r1 => by
    cases r1 with
    | cons r rr =>
      cases rr
      cases r
      refine ⟨n, rfl, by omega, by omega, ?_⟩
      refine for_range (lo := 0) (n := n.toNat) (Lw D N1 H1 S) ⟨N1, Ex.refl _, Ex.refl _, k1, Reg.refl, (hs.mono n1).le h0⟩ ?_ ?_
      · rintro i σ' H' hi ⟨N', a1, a2, a3, a4, a5⟩
        rw [Int.zero_add]
        refine turn i (by omega) (σ'.set j (some (.int i))) N' (a5.set (.int _) j) _ H' a3 ⟨?_, ?_⟩
        · exact fun σ2 H2 N2 b1 b2 b3 b4 b5 => ⟨N2, a1.trans b1, a2.trans b2, b3, a4.trans a1 b4, b5⟩
        · exact fun σ2 H2 N2 b1 b2 b3 b4 b5 => ⟨N2, a1.trans b1, a2.trans b2, b3, a4.trans a1 b4, b5⟩
      · rintro σ' H' ⟨N', a1, a2, a3, a4, a5⟩
        exact a σ' H' N' (e1.trans a1) (n1.trans a2) a3 (g1.trans e1 a4) a5
theorem es_forRr {ta : TA} {n : Int} {d : PyData} {k : Nat} (h : EvAs ta ds [.int n]) (hn : n < 100000) (hn0 : -100000 < n) (S : Nat → De) (h0 : Le (S 0) ds) (hk : (k : Int) < n) (turn : ∀ i : Nat, i < k → EvS E tb ((S i).set j (some (.int (i : Int)))) (.go (S (i + 1))))
    (last : EvS E tb ((S k).set j (some (.int (k : Int)))) (.rt d)) :
    EvS E (tFor (iRng1 ta) (gName j) tb) ds (.rt d) := fun σ N hs D H eN a =>
  h σ N hs H eN _ fun vs H1 N1 e1 n1 k1 g1 r1 => by
    cases r1 with
    | cons r rr =>
      cases rr
      cases r
      refine ⟨n, rfl, by omega, by omega, ?_⟩
      refine for_range (lo := 0) (n := n.toNat) (fun i σ H' => i ≤ k ∧ Lw D N1 H1 S i σ H') ⟨Nat.zero_le _, N1, Ex.refl _, Ex.refl _, k1, Reg.refl, (hs.mono n1).le h0⟩ ?_ ?_
      · rintro i σ' H' hi ⟨hik, N', a1, a2, a3, a4, a5⟩
        rw [Int.zero_add]
        by_cases hlt : i < k
        · refine turn i hlt (σ'.set j (some (.int i))) N' (a5.set (.int _) j) _ H' a3 ⟨?_, ?_⟩
          · exact fun σ2 H2 N2 b1 b2 b3 b4 b5 => ⟨hlt, N2, a1.trans b1, a2.trans b2, b3, a4.trans a1 b4, b5⟩
          · exact fun σ2 H2 N2 b1 b2 b3 b4 b5 => ⟨hlt, N2, a1.trans b1, a2.trans b2, b3, a4.trans a1 b4, b5⟩
        · have e : i = k := by omega
          subst e
          refine last (σ'.set j (some (.int i))) N' (a5.set (.int _) j) _ H' a3 ?_
          exact fun v H2 N2 b1 b2 b3 b4 b5 => a v H2 N2 ((e1.trans a1).trans b1) ((n1.trans a2).trans b2) b3 ((g1.trans e1 a4).trans (e1.trans a1) b4) b5
      · rintro σ' H' ⟨hik, _⟩
        omega
/-- out = []; for i in range(n): out.append(e): one list, made turn by turn -/
theorem es_buildR {ta : TA} {n : Int} {k : Nat} {te : TE} {f : Nat → PyData} {rest : TS} {o : Out} (hjk : j ≠ k) (hk : k < ds.length) (h : EvAs ta (ds.set k none) [.int n]) (hn : n < 100000) (hn0 : -100000 < n)
    (turn : ∀ i : Nat, (i : Int) < n → EvE te ((ds.set k none).set j (some (.int (i : Int)))) (f i))
    (after : EvS E rest ((ds.set j none).set k (some (.list ((List.range n.toNat).map f)))) o) :
    EvS E (tSeq (tAsg (tLst tNil) (gName k)) (tSeq (tFor (iRng1 ta) (gName j) (tDrop (tBM KK "list" rAppend (tVar k) (tCons te tNil)))) rest)) ds o := fun σ N hs D H eN a => by
  refine ⟨Nat.zero_le _, fun L hL => ?_⟩
  have hL0 : N L = none := ex_none eN hL
  have eH : Ex H (upd H L (.lst [])) := Ex.new hL
  refine h (σ.set k (some (.ref L))) N (hs.setIn k _) (upd H L (.lst [])) (eN.trans eH) _ fun vs H1 N1 e1 n1 k1 g1 r1 => ?_
  cases r1 with
  | cons r rr =>
    cases rr
    cases r
    have hL1 : H1 L = some (.lst []) := e1 _ _ upd_same
    have hN1 : N1 L = none := by
      cases q : N1 L with
      | none => rfl
      | some u' =>
        rcases g1 L (by rw [q]; intro z; cases z) with z | z
        · exact absurd hL0 z
        · rw [upd_same] at z
          cases z
    have g0 : Reg N H N1 := fun x hx => (g1 x hx).elim .inl fun z => .inr (ex_none eH z)
    refine ⟨n, rfl, by omega, by omega, ?_⟩
    have kl : k < σ.length := by rw [hs.len]; exact hk
    refine for_range (lo := 0) (n := n.toNat) (fun i σ' H' => σ'[k]? = some (some (.ref L)) ∧ ∃ (acc : List V) (Nk : Hp), Ex H H' ∧ H' L = some (.lst acc) ∧ Ex N1 Nk ∧ Ex Nk H' ∧ Nk L = none ∧ Reg N H Nk ∧ RpAll Nk acc ((List.range i).map f) ∧ Holds Nk σ' ((ds.set k none).set j none)) ?_ ?_ ?_
    · refine ⟨?_, [], N1, eH.trans e1, hL1, Ex.refl _, k1, hN1, g0, .nil, ?_⟩
      · rw [List.getElem?_set_self kl]
      · refine ((hs.mono n1).setIn k _).le ⟨by rw [List.length_set], fun i d q => ?_⟩
        by_cases z : j = i
        · subst z
          by_cases hj : j < (ds.set k none).length
          · rw [List.getElem?_set_self hj] at q
            cases q
          · rw [List.getElem?_eq_none (by rw [List.length_set]; omega)] at q
            cases q
        · rw [List.getElem?_set_ne z] at q
          exact q
    · rintro i σ' H' hi ⟨hk', acc, Nk, b1, b2, b3, b4, b5, b6, b7, b8⟩
      rw [Int.zero_add]
      have hk2 : (σ'.set j (some (.int (i : Int))))[k]? = some (some (.ref L)) := by
        rw [List.getElem?_set_ne hjk]
        exact hk'
      refine ⟨_, hk2, .inl ⟨rfl, acc, .inl (.inl b2)⟩, ?_⟩
      have hh : Holds Nk (σ'.set j (some (.int (i : Int)))) ((ds.set k none).set j (some (.int (i : Int)))) := by
        have q := b8.set (.int (i : Int)) j
        rw [List.set_set] at q
        exact q
      refine turn i (by omega) _ Nk hh H' b4 _ fun y H4 N4 e4 n4 k4 g4 r4 => ?_
      have f4 : N4 L = none := by
        cases q : N4 L with
        | none => rfl
        | some u' =>
          rcases g4 L (by rw [q]; intro z; cases z) with z | z
          · exact absurd b5 z
          · rw [b2] at z
            cases z
      refine ⟨L, acc, y, rfl, rfl, e4 _ _ b2, sz_lt (by rw [b7.length, List.length_map, List.length_range]; omega), hk2, acc ++ [y], N4, ?_, upd_same, b3.trans n4, Ex.mut k4 f4, f4, ?_, ?_, ?_⟩
      · exact Ex.mut (b1.trans e4) hL
      · exact b6.trans b1 g4
      · rw [List.range_succ, List.map_append]
        exact (b7.mono n4).append (.one r4)
      · have q := (b8.mono n4).setIn j (.int (i : Int))
        rw [List.set_set] at q
        exact q
    · rintro σ' H' ⟨hk', acc, Nk, b1, b2, b3, b4, b5, b6, b7, b8⟩
      refine after σ' (upd Nk L (.lst acc)) ?_ D H' ?_ (a.on b1 ((n1.trans b3).trans (Ex.new b5)) ?_)
      · refine ⟨by rw [b8.len]; simp, fun i d q => ?_⟩
        by_cases z : k = i
        · subst z
          rw [List.getElem?_set_self (by rw [List.length_set]; exact hk)] at q
          have q' := Option.some.inj (Option.some.inj q)
          subst q'
          exact ⟨_, hk', .lst (sq_of upd_same) (b7.mono (Ex.new b5))⟩
        · rw [List.getElem?_set_ne z] at q
          by_cases z2 : j = i
          · subst z2
            by_cases hj : j < ds.length
            · rw [List.getElem?_set_self hj] at q
              cases q
            · rw [List.getElem?_eq_none (by rw [List.length_set]; omega)] at q
              cases q
          · rw [List.getElem?_set_ne z2] at q
            obtain ⟨u, c1, c2⟩ := b8.at_ i d (by rw [List.getElem?_set_ne z2, List.getElem?_set_ne z]; exact q)
            exact ⟨u, c1, c2.mono (Ex.new b5)⟩
      · intro x o hx
        by_cases z : x = L
        · subst z
          rw [upd_same] at hx
          rw [← hx]
          exact b2
        · rw [upd_ne z] at hx
          exact b4 x o hx
      · intro x hx
        by_cases z : x = L
        · subst z
          exact .inr hL
        · rw [upd_ne z] at hx
          exact b6 x hx
end

/-! ### promises -/
/-- a def that hands back data: R arguments result; nothing that stood before is changed -/
def spF (R : List PyData → PyData → Prop) : Sp := fun vs H Q _ => ∃ (N : Hp) (ds : List PyData) (d : PyData), Ex N H ∧ RpAll N vs ds ∧ R ds d ∧ ∀ v H' N', Ex H H' → Ex N N' → Ex N' H' → Reg N H N' → Rp N' v d → Q v H'
theorem ev_call {R : List PyData → PyData → Prop} {E : XK} {ds : De} {ta : TA} {es : List PyData} {d : PyData} (h : EvAs ta ds es) (hr : R es d) : EvE (tCall (spF R) [] E ta) ds d := fun σ N hs H eN Q q =>
  h σ N hs H eN _ fun vs H1 N1 e1 n1 k1 g1 r1 => ⟨N1, es, d, k1, by rw [List.append_nil]; exact r1, hr, fun v H2 N2 e2 n2 k2 g2 r2 => q v H2 N2 (e1.trans e2) (n1.trans n2) k2 (g1.trans e1 g2) r2⟩
/-- the slots at a def's entry -/
def startD (n : Nat) (es : List PyData) : De := es.map some ++ List.replicate (n - es.length) none
theorem holds_start {N : Hp} {names : List Str} {vs : List V} {es : List PyData} (r : RpAll N vs es) : Holds N (L2.start names vs) (startD names.length es) := ⟨by
    unfold L2.start startD
    simp [r.length], fun i d q => by
    unfold startD at q
    unfold L2.start
    have hl := r.length
    by_cases z : i < es.length
    · rw [List.getElem?_append_left (by rw [List.length_map]; exact z), List.getElem?_map] at q
      cases e : es[i]? with
      | none =>
        rw [e] at q
        cases q
      | some d' =>
        rw [e] at q
        have q' : d' = d := Option.some.inj (Option.some.inj q)
        subst q'
        obtain ⟨v, e1, rv⟩ := r.get e
        exact ⟨v, by rw [List.getElem?_append_left (by rw [List.length_map]; omega), List.getElem?_map, e1]; rfl, rv⟩
    · rw [List.getElem?_append_right (by rw [List.length_map]; omega)] at q
      rw [List.getElem?_replicate] at q
      split at q
      · cases Option.some.inj q
      · cases q⟩
/-- a def's body, from data to data -/
theorem body_ret {R : List PyData → PyData → Prop} {t : TS} {names : List Str} {vs : List V} {H : Hp} {Q : VK} {E : XK} (h : spF R vs H Q E) (hb : ∀ es d, R es d → EvS E t (startD names.length es) (.rt d)) :
    t { nx := fun _ H' => Q .non H', rt := Q, bk := fun _ _ => False, ct := fun _ _ => False } (L2.start names vs) H := by
  obtain ⟨N, es, d, eN, r, hr, q⟩ := h
  exact hb es d hr (L2.start names vs) N (holds_start r) _ H eN q
theorem len_of {R : List PyData → PyData → Prop} {n : Nat} (h : ∀ es d, R es d → es.length = n) : ∀ vs H Q E, spF R vs H Q E → vs.length = n := fun vs H Q E ⟨N, es, d, eN, r, hr, q⟩ => by
  rw [r.length]
  exact h es d hr
end DL
set_option Elab.async false
set_option linter.all false
set_option maxRecDepth 100000
set_option maxHeartbeats 2000000
/-! zip of a list of lists, at the library's level. -/
namespace ZS
open PySem
set_option autoImplicit false
abbrev ZObj (h : Heap) (z : Addr) (f0 : Value) (f1 : Bool) (TI TO : Addr) : Prop :=
  h.get? z = some { cls := .type "zip", dict := none, data := .fields #[f0, .bool f1, .bool false, .ref TI, .ref TO], slots := #[] }
abbrev IsT (h : Heap) (T : Addr) (vs : List Value) : Prop := h.get? T = some { cls := .type "tuple", data := .seq vs.toArray }
def ItsAt (h : Heap) (its ls : List Addr) (f : Nat → Nat) : Prop := ∀ (k : Nat) (it l : Addr), its[k]? = some it → ls[k]? = some l → h.IsListIter it l (f k)
structure Apart (z TI TO : Addr) (its ls : List Addr) : Prop where
  nd : (z :: TI :: TO :: its).Nodup
  lsx : ∀ l ∈ ls, l ≠ z ∧ l ≠ TO ∧ l ∉ its
  len : its.length = ls.length
section
variable {prog : Program} {w : World} {A : Around} {E : Value → Shared → Prop} {s : Shared} {z TI TO : Addr} {its ls : List Addr}
theorem Apart.TIz (D : Apart z TI TO its ls) : TI ≠ z := fun e => (List.nodup_cons.mp D.nd).1 (by rw [e]; exact List.mem_cons_self)
theorem Apart.TOz (D : Apart z TI TO its ls) : TO ≠ z := fun e => (List.nodup_cons.mp D.nd).1 (by rw [e]; exact List.mem_cons_of_mem _ List.mem_cons_self)
theorem Apart.nd2 (D : Apart z TI TO its ls) : (TI :: TO :: its).Nodup := (List.nodup_cons.mp D.nd).2
theorem Apart.nd3 (D : Apart z TI TO its ls) : (TO :: its).Nodup := (List.nodup_cons.mp D.nd2).2
theorem Apart.nd4 (D : Apart z TI TO its ls) : its.Nodup := (List.nodup_cons.mp D.nd3).2
theorem Apart.TITO (D : Apart z TI TO its ls) : TI ≠ TO := fun e => (List.nodup_cons.mp D.nd2).1 (by rw [e]; exact List.mem_cons_self)
theorem Apart.zi (D : Apart z TI TO its ls) {it : Addr} (h : it ∈ its) : it ≠ z := fun e => (List.nodup_cons.mp D.nd).1 (by rw [← e]; exact List.mem_cons_of_mem _ (List.mem_cons_of_mem _ h))
theorem Apart.TIi (D : Apart z TI TO its ls) {it : Addr} (h : it ∈ its) : it ≠ TI := fun e => (List.nodup_cons.mp D.nd2).1 (by rw [← e]; exact List.mem_cons_of_mem _ h)
theorem Apart.TOi (D : Apart z TI TO its ls) {it : Addr} (h : it ∈ its) : it ≠ TO := fun e => (List.nodup_cons.mp D.nd3).1 (by rw [← e]; exact h)
theorem Apart.ij (D : Apart z TI TO its ls) {i j : Nat} {a b : Addr} (hi : its[i]? = some a) (hj : its[j]? = some b) (h : i ≠ j) : a ≠ b := fun e => by
  subst e
  obtain ⟨h1, e1⟩ := List.getElem?_eq_some_iff.mp hi
  obtain ⟨h2, e2⟩ := List.getElem?_eq_some_iff.mp hj
  exact h ((List.getElem_inj D.nd4).mp (e1.trans e2.symm))
/-- all else stays -/
def Els (z TO : Addr) (its : List Addr) (h h' : Heap) : Prop := ∀ c o, c ≠ z → c ≠ TO → c ∉ its → h.get? c = some o → h'.get? c = some o
theorem Els.trans {h1 h2 h3 : Heap} (a : Els z TO its h1 h2) (b : Els z TO its h2 h3) : Els z TO its h1 h3 := fun c o x y q e => b c o x y q (a c o x y q e)
theorem Els.of {h1 h2 : Heap} {a : Addr} (e : Heap.SameBut a h1 h2) (ha : a = z ∨ a = TO ∨ a ∈ its) : Els z TO its h1 h2 := fun c o x y q g => e.extBut c o (fun h => by
  subst h
  rcases ha with ha | ha | ha
  · exact x ha
  · exact y ha
  · exact q ha) g
theorem zs_alive {a : Addr} {Q : Option Obj → Shared → Prop} (h : Q (s.heap.get? a) s) : wpAny (model prog w) A (loadIfAlive a) Q E s := fun _ _ _ => h
/-- is the tuple that was handed out free again? -/
theorem zs_free {f0 : Value} {f1 : Bool} {Q : Bool → Shared → Prop} (hz : ZObj s.heap z f0 f1 TI TO) (hf : f0 = .none ∨ ∃ T : Nat, f0 = rawInt T)
    (h1 : Q true s) (h2 : ∀ h', ZObj h' z f0 true TI TO → Heap.SameBut z s.heap h' → Q false { s with heap := h' }) :
    wpAny (model prog w) A (Builtin.SmallTypes.ownedTupleIsFree (.ref z)) Q E s := by
  unfold Builtin.SmallTypes.ownedTupleIsFree
  refine wpAny_bind (wpAny_field hz rfl (x := f0) rfl ?_)
  rcases hf with rfl | ⟨T, rfl⟩
  · exact wpAny_pure h1
  · show wpAny _ _ (loadIfAlive ((T : Int).toNat) >>= _) _ _ _
    refine wpAny_bind (zs_alive ?_)
    cases hg : s.heap.get? ((T : Int).toNat) with
    | none => exact wpAny_pure h1
    | some o =>
      simp only [Option.isNone_some, Bool.false_eq_true, if_false]
      refine wpAny_bind (wpAny_field hz rfl (x := .bool f1) rfl ?_)
      cases f1 with
      | true =>
        rw [if_neg (show ¬ ((Value.bool true != Value.bool true) = true) from Bool.false_ne_true)]
        exact wpAny_pure (h2 s.heap hz (Heap.SameBut.refl _ _))
      | false =>
        rw [if_pos (show (Value.bool false != Value.bool true) = true from rfl)]
        exact wpAny_bind (wpAny_setField_rec hz (by simp) fun h₁ hz₁ hs₁ => wpAny_pure (h2 h₁ hz₁ hs₁))
theorem zs_updateSeq {T : Addr} {vs : List Value} {x : Value} {k : Nat} {Q : Unit → Shared → Prop} (hT : IsT s.heap T vs) (hz : vs.length ≤ 1000)
    (h : ∀ h', IsT h' T (vs.set k x) → Heap.SameBut T s.heap h' → Q () { s with heap := h' }) :
    wpAny (model prog w) A (updateSeq T (·.setIfInBounds k x)) Q E s := by
  have h1 : vs.length ≤ sizeLine := Nat.le_trans hz (by decide)
  refine wpAny_updateSeq hT rfl (h _ ?_ (Heap.SameBut.update ..)) (by rw [List.size_toArray]; exact h1) (by
    rw [Array.size_setIfInBounds, List.size_toArray]
    exact Nat.le_succ_of_le h1)
  show (s.heap.update T _).get? T = _
  rw [Heap.get?_update_self _ hT rfl]
  simp [Obj.mapSeq]
theorem isIter_keep {h h' : Heap} {a l : Addr} {i : Nat} (x : h.IsListIter a l i) (e : ∀ o, h.get? a = some o → h'.get? a = some o) : h'.IsListIter a l i := x.at e

/-- what one turn of zip's own walk over its iterators has done so far: k of them drawn -/
structure TurnA (s : Shared) (z TI TO : Addr) (its ls : List Addr) (i : Nat) (old vs : List Value) (f1 : Bool) (k : Nat) (s' : Shared) : Prop where
  eq : ∃ h', s' = { s with heap := h' } ∧ ZObj h' z .ellipsis f1 TI TO ∧ IsT h' TO (vs.take k ++ old.drop k) ∧ ItsAt h' its ls (fun j => if j < k then i + 1 else i) ∧ Els z TO its s.heap h' ∧ h'.objs.size = s.heap.objs.size
theorem set_take_drop {A : Type} : ∀ (vs old : List A) (k : Nat) (x : A), vs.length = old.length → vs[k]? = some x → (vs.take k ++ old.drop k).set k x = vs.take (k + 1) ++ old.drop (k + 1)
  | [], _, _, _, _, h => by simp at h
  | v :: vs, [], _, _, h, _ => by simp at h
  | v :: vs, o :: old, 0, x, _, h => by
    have e : v = x := by simpa using h
    subst e
    simp
  | v :: vs, o :: old, k + 1, x, hl, h => by
    have ih := set_take_drop vs old k x (by simpa using hl) (by simpa using h)
    simpa using ih
/-- a turn with an item, the first way: the tuple of its own is filled anew and copied -/
theorem zs_next_A {i : Nat} {f0 : Value} {f1 : Bool} {old vs : List Value} {Q : Value → Shared → Prop} (D : Apart z TI TO its ls)
    (hz : ZObj s.heap z f0 f1 TI TO) (hTI : IsT s.heap TI (its.map Value.ref)) (hTO : IsT s.heap TO old) (hit : ItsAt s.heap its ls (fun _ => i)) (hold : old.length = its.length) (hvs : vs.length = its.length) (hn : 0 < its.length) (hn2 : its.length ≤ 1000)
    (hls : ∀ (k : Nat) (l : Addr) (v : Value), ls[k]? = some l → vs[k]? = some v → ∃ xs : Array Value, s.heap.IsList l xs ∧ xs[i]? = some v)
    (hfree : ∀ Q' : Bool → Shared → Prop, Q' true s → wpAny (model prog w) A (Builtin.SmallTypes.ownedTupleIsFree (.ref z)) Q' E s)
    (hQ : ∀ h', (∃ T : Nat, ZObj h' z (rawInt T) false TI TO) → IsT h' TO vs → ItsAt h' its ls (fun _ => i + 1) → IsT h' s.heap.objs.size vs → h'.objs.size = s.heap.objs.size + 1 → Els z TO its s.heap h' → Q (.ref s.heap.objs.size) { s with heap := h' }) :
    wpAny (model prog w) A (Builtin.«zip.__next__» ⟨[.ref z], []⟩) (fun fin s' => ∃ v, fin = .done (.ret v) ∧ Q v s') E s := by
  show wpAny _ _ (field (.ref z) 2 >>= _) _ _ _
  refine wpAny_bind (wpAny_field hz rfl (x := .bool false) rfl ?_)
  show wpAny _ _ (field (.ref z) 3 >>= _) _ _ _
  refine wpAny_bind (wpAny_field hz rfl (x := .ref TI) rfl ?_)
  refine wpAny_bind (wpAny_seqItems hTI rfl ?_)
  have hne : (its.map Value.ref).toArray.isEmpty = false := by
    cases its with
    | nil => simp at hn
    | cons a r => rfl
  simp only [hne, Bool.false_eq_true, if_false]
  show wpAny _ _ (Builtin.SmallTypes.ownedTupleIsFree (.ref z) >>= _) _ _ _
  refine wpAny_bind (hfree _ ?_)
  simp only [if_true]
  refine wpAny_bind (wpAny_rule ?_)
  refine wpAny_bind (wpAny_field hz rfl (x := .ref TO) rfl ?_)
  refine wpAny_bind (wpAny_setField_rec hz (by simp) fun h₁ hz₁ hs₁ => ?_)
  replace hz₁ : ZObj h₁ z .ellipsis f1 TI TO := hz₁
  have hTO₁ : IsT h₁ TO old := hs₁.extBut _ _ D.TOz hTO
  refine wpAny_bind ?_
  refine wpAny_forIn_list _ (fun rest b s' => b.1 = none ∧ ∃ k, k ≤ its.length ∧ rest = ((its.map Value.ref).zipIdx).drop k ∧ TurnA s z TI TO its ls i old vs f1 k s') _ ?turn ?fin _ _ ?h
  case h =>
    refine ⟨rfl, 0, Nat.zero_le _, by simp, ⟨h₁, rfl, hz₁, by simpa using hTO₁, ?_, Els.of hs₁ (.inl rfl), hs₁.1⟩⟩
    intro k it l hi hl
    simp only [Nat.not_lt_zero, if_false]
    exact (hit k it l hi hl).at fun o e => hs₁.extBut _ _ (D.zi (List.mem_of_getElem? hi)) e
  case turn =>
    rintro ⟨itv, kk⟩ rest b s' ⟨hb, k, hk, hrest, ⟨h', rfl, a1, a2, a3, a4, a5⟩⟩
    have hklt : k < its.length := by
      rcases Nat.lt_or_ge k its.length with q | q
      · exact q
      · rw [List.drop_of_length_le (by simpa using q)] at hrest
        cases hrest
    have hlen : k < ((its.map Value.ref).zipIdx).length := by simpa using hklt
    rw [List.drop_eq_getElem_cons hlen] at hrest
    have he := (List.cons.inj hrest).1
    have hr := (List.cons.inj hrest).2
    have hit2 : its[k]? = some its[k] := List.getElem?_eq_getElem hklt
    have e1 : itv = Value.ref its[k] ∧ kk = k := by
      simp at he
      exact he
    obtain ⟨rfl, rfl⟩ := e1
    have hlk : kk < ls.length := by rw [← D.len]; exact hklt
    have hvk : kk < vs.length := by rw [hvs]; exact hklt
    obtain ⟨xs, hxs, hx⟩ := hls kk ls[kk] vs[kk] (List.getElem?_eq_getElem hlk) (List.getElem?_eq_getElem hvk)
    have hmem : its[kk] ∈ its := List.getElem_mem hklt
    have hlm := D.lsx ls[kk] (List.getElem_mem hlk)
    have hxs' : h'.IsList ls[kk] xs := hxs.at fun o e => a4 _ o hlm.1 hlm.2.1 hlm.2.2 e
    have hitk : h'.IsListIter its[kk] ls[kk] i := by
      have q := a3 kk its[kk] ls[kk] hit2 (List.getElem?_eq_getElem hlk)
      simpa using q
    refine wpAny_bind (wpAny_onRaise ?_)
    show wpAny _ _ (Builtin.SmallTypes.nextOf (.ref its[kk]) >>= _) _ _ _
    refine wpAny_bind (wpAny_nextOf_list_item hitk hxs' hx fun h₂ h1₂ hs₂ => wpAny_pure ?_)
    have hTO₂ : IsT h₂ TO (vs.take kk ++ old.drop kk) := hs₂.extBut _ _ (D.TOi hmem).symm a2
    refine wpAny_bind (wpAny_seqItems hTO₂ rfl ?_)
    refine wpAny_bind (zs_updateSeq hTO₂ (by simp; omega) fun h₃ hTO₃ hs₃ => ?_)
    rw [set_take_drop vs old kk vs[kk] (by rw [hvs, hold]) (List.getElem?_eq_getElem hvk)] at hTO₃
    refine wpAny_bind (wpAny_letGo (wpAny_pure ?_))
    refine ⟨rfl, kk + 1, hklt, hr, ⟨h₃, rfl, ?_, hTO₃, ?_, ?_, ?_⟩⟩
    · exact hs₃.extBut _ _ D.TOz.symm (hs₂.extBut _ _ (D.zi hmem).symm a1)
    · intro j it l hj hl
      by_cases hjk : j = kk
      · subst hjk
        have e2 : it = its[j] := by
          rw [hit2] at hj
          exact (Option.some.inj hj).symm
        have e3 : l = ls[j] := by
          rw [List.getElem?_eq_getElem hlk] at hl
          exact (Option.some.inj hl).symm
        subst e2 e3
        simp only [Nat.lt_succ_self, if_true]
        exact h1₂.at fun o e => hs₃.extBut _ _ (D.TOi hmem) e
      · have q := a3 j it l hj hl
        have hjm : it ∈ its := List.mem_of_getElem? hj
        have e4 : (if j < kk + 1 then i + 1 else i) = (if j < kk then i + 1 else i) := by
          by_cases h5 : j < kk
          · rw [if_pos h5, if_pos (by omega)]
          · rw [if_neg h5, if_neg (by omega)]
        show h₃.IsListIter it l (if j < kk + 1 then i + 1 else i)
        rw [e4]
        exact q.at fun o e => hs₃.extBut _ _ (D.TOi hjm) (hs₂.extBut _ _ (D.ij hj hit2 hjk) e)
    · exact (a4.trans (Els.of hs₂ (.inr (.inr hmem)))).trans (Els.of hs₃ (.inr (.inl rfl)))
    · rw [hs₃.1, hs₂.1, a5]
  case fin =>
    rintro ⟨b1, b2⟩ s' ⟨hb, k, hk, hrest, ⟨h₅, rfl, a1, a2, a3, a4, a5⟩⟩
    have hkn : k = its.length := by
      rcases Nat.lt_or_ge k its.length with q | q
      · rw [List.drop_eq_getElem_cons (by simpa using q)] at hrest
        cases hrest
      · omega
    subst hkn
    simp only at hb
    subst hb
    have hTO₅ : IsT h₅ TO vs := by
      rw [show vs.take its.length = vs from List.take_of_length_le (by omega), show old.drop its.length = [] from List.drop_of_length_le (by omega), List.append_nil] at a2
      exact a2
    refine wpAny_bind (wpAny_seqItems hTO₅ rfl ?_)
    refine wpAny_bind (wpAny_newTuple ?_ (by
      show vs.length ≤ sizeLine
      rw [hvs]
      exact Nat.le_trans hn2 (by decide)))
    have hzlt : z < h₅.objs.size := Heap.lt_size a1
    show wpAny _ _ (Builtin.SmallTypes.ownedTupleHandOut (.ref z) (.ref h₅.objs.size) >>= _) _ _ _
    refine wpAny_bind ?_
    unfold Builtin.SmallTypes.ownedTupleHandOut
    have hz₆ : ZObj (h₅.push { cls := .type "tuple", data := .seq vs.toArray }) z .ellipsis f1 TI TO := Heap.get?_push_of_some _ a1
    refine wpAny_bind (wpAny_setField_rec hz₆ (by simp) fun h₇ hz₇ hs₇ => ?_)
    replace hz₇ : ZObj h₇ z (rawInt h₅.objs.size) f1 TI TO := hz₇
    refine wpAny_setField_rec hz₇ (by simp) fun h₈ hz₈ hs₈ => ?_
    replace hz₈ : ZObj h₈ z (rawInt h₅.objs.size) false TI TO := hz₈
    have up : ∀ c o, c ≠ z → h₅.get? c = some o → h₈.get? c = some o := fun c o c1 e => hs₈.extBut _ _ c1 (hs₇.extBut _ _ c1 (Heap.get?_push_of_some _ e))
    have hT₈ : IsT h₈ h₅.objs.size vs := hs₈.extBut _ _ (Nat.ne_of_gt hzlt) (hs₇.extBut _ _ (Nat.ne_of_gt hzlt) (Heap.get?_push_size _ rfl))
    have hz8 : h₈.objs.size = h₅.objs.size + 1 := by rw [hs₈.1, hs₇.1, Heap.size_push]
    refine wpAny_pure ⟨_, rfl, ?_⟩
    show Q (.ref h₅.objs.size) _
    rw [a5] at hz8 hT₈ ⊢
    refine hQ h₈ ⟨_, hz₈⟩ (up _ _ D.TOz hTO₅) ?_ hT₈ hz8 ?_
    · intro k it l hi hl
      have q := a3 k it l hi hl
      have hk2 : k < its.length := (List.getElem?_eq_some_iff.mp hi).1
      simp only [hk2, if_true] at q
      exact q.at fun o e => up _ o (D.zi (List.mem_of_getElem? hi)) e
    · exact fun c o c1 c2 c3 e => up c o c1 (a4 c o c1 c2 c3 e)
/-- the second way: the tuple of its own is still out; a new list of items is gathered -/
structure TurnB (s : Shared) (z TI TO : Addr) (its ls : List Addr) (i : Nat) (f0 : Value) (k : Nat) (s' : Shared) : Prop where
  eq : ∃ h', s' = { s with heap := h' } ∧ ZObj h' z f0 true TI TO ∧ ItsAt h' its ls (fun j => if j < k then i + 1 else i) ∧ (∀ o, s.heap.get? TO = some o → h'.get? TO = some o) ∧ Els z TO its s.heap h' ∧ h'.objs.size = s.heap.objs.size
theorem zs_next_B {i : Nat} {f0 : Value} {f1 : Bool} {old vs : List Value} {Q : Value → Shared → Prop} (D : Apart z TI TO its ls)
    (hz : ZObj s.heap z f0 f1 TI TO) (hTI : IsT s.heap TI (its.map Value.ref)) (hTO : IsT s.heap TO old) (hit : ItsAt s.heap its ls (fun _ => i)) (hvs : vs.length = its.length) (hn : 0 < its.length) (hn2 : its.length ≤ 1000)
    (hls : ∀ (k : Nat) (l : Addr) (v : Value), ls[k]? = some l → vs[k]? = some v → ∃ xs : Array Value, s.heap.IsList l xs ∧ xs[i]? = some v)
    (hfree : ∀ Q' : Bool → Shared → Prop, (∀ h', ZObj h' z f0 true TI TO → Heap.SameBut z s.heap h' → Q' false { s with heap := h' }) → wpAny (model prog w) A (Builtin.SmallTypes.ownedTupleIsFree (.ref z)) Q' E s)
    (hQ : ∀ h', ZObj h' z f0 true TI TO → IsT h' TO old → ItsAt h' its ls (fun _ => i + 1) → IsT h' s.heap.objs.size vs → h'.objs.size = s.heap.objs.size + 1 → Els z TO its s.heap h' → Q (.ref s.heap.objs.size) { s with heap := h' }) :
    wpAny (model prog w) A (Builtin.«zip.__next__» ⟨[.ref z], []⟩) (fun fin s' => ∃ v, fin = .done (.ret v) ∧ Q v s') E s := by
  show wpAny _ _ (field (.ref z) 2 >>= _) _ _ _
  refine wpAny_bind (wpAny_field hz rfl (x := .bool false) rfl ?_)
  show wpAny _ _ (field (.ref z) 3 >>= _) _ _ _
  refine wpAny_bind (wpAny_field hz rfl (x := .ref TI) rfl ?_)
  refine wpAny_bind (wpAny_seqItems hTI rfl ?_)
  have hne : (its.map Value.ref).toArray.isEmpty = false := by
    cases its with
    | nil => simp at hn
    | cons a r => rfl
  simp only [hne, Bool.false_eq_true, if_false]
  show wpAny _ _ (Builtin.SmallTypes.ownedTupleIsFree (.ref z) >>= _) _ _ _
  refine wpAny_bind (hfree _ fun h₁ hz₁ hs₁ => ?_)
  simp only [Bool.false_eq_true, if_false]
  refine wpAny_bind ?_
  refine MeetsSeq2.wpAny_forIn_array _ (fun rest b s' => b.1 = none ∧ ∃ k, k ≤ its.length ∧ rest = (its.map Value.ref).drop k ∧ b.2 = (vs.take k).toArray ∧ TurnB s z TI TO its ls i f0 k s') _ ?turn ?fin _ _ ?h
  case h =>
    refine ⟨rfl, 0, Nat.zero_le _, by simp, by simp, ⟨h₁, rfl, hz₁, ?_, fun o e => hs₁.extBut _ _ D.TOz e, Els.of hs₁ (.inl rfl), hs₁.1⟩⟩
    intro k it l hi hl
    simp only [Nat.not_lt_zero, if_false]
    exact (hit k it l hi hl).at fun o e => hs₁.extBut _ _ (D.zi (List.mem_of_getElem? hi)) e
  case turn =>
    rintro itv rest b s' ⟨hb, k, hk, hrest, hb2, ⟨h', rfl, a1, a3, a2, a4, a5⟩⟩
    have hklt : k < its.length := by
      rcases Nat.lt_or_ge k its.length with q | q
      · exact q
      · rw [List.drop_of_length_le (by simpa using q)] at hrest
        cases hrest
    have hlen : k < (its.map Value.ref).length := by simpa using hklt
    rw [List.drop_eq_getElem_cons hlen] at hrest
    have he := (List.cons.inj hrest).1
    have hr := (List.cons.inj hrest).2
    have hit2 : its[k]? = some its[k] := List.getElem?_eq_getElem hklt
    have e1 : itv = Value.ref its[k] := by simpa using he
    subst e1
    have hlk : k < ls.length := by rw [← D.len]; exact hklt
    have hvk : k < vs.length := by rw [hvs]; exact hklt
    obtain ⟨xs, hxs, hx⟩ := hls k ls[k] vs[k] (List.getElem?_eq_getElem hlk) (List.getElem?_eq_getElem hvk)
    have hmem : its[k] ∈ its := List.getElem_mem hklt
    have hlm := D.lsx ls[k] (List.getElem_mem hlk)
    have hxs' : h'.IsList ls[k] xs := hxs.at fun o e => a4 _ o hlm.1 hlm.2.1 hlm.2.2 e
    have hitk : h'.IsListIter its[k] ls[k] i := by
      have q := a3 k its[k] ls[k] hit2 (List.getElem?_eq_getElem hlk)
      simpa using q
    obtain ⟨b1, b2⟩ := b
    simp only at hb hb2
    subst hb hb2
    refine wpAny_bind (wpAny_holding ?_)
    show wpAny _ _ (Builtin.SmallTypes.nextOf (.ref its[k]) >>= _) _ _ _
    refine wpAny_bind (wpAny_nextOf_list_item hitk hxs' hx fun h₂ h1₂ hs₂ => wpAny_pure (wpAny_pure ?_))
    refine ⟨rfl, k + 1, hklt, hr, ?_, ⟨h₂, rfl, hs₂.extBut _ _ (D.zi hmem).symm a1, ?_, fun o e => hs₂.extBut _ _ (D.TOi hmem).symm (a2 o e), a4.trans (Els.of hs₂ (.inr (.inr hmem))), by rw [hs₂.1, a5]⟩⟩
    · rw [List.take_add_one, List.getElem?_eq_getElem hvk]
      simp
    · intro j it l hj hl
      by_cases hjk : j = k
      · subst hjk
        have e2 : it = its[j] := by
          rw [hit2] at hj
          exact (Option.some.inj hj).symm
        have e3 : l = ls[j] := by
          rw [List.getElem?_eq_getElem hlk] at hl
          exact (Option.some.inj hl).symm
        subst e2 e3
        simp only [Nat.lt_succ_self, if_true]
        exact h1₂
      · have q := a3 j it l hj hl
        have hjm : it ∈ its := List.mem_of_getElem? hj
        have e4 : (if j < k + 1 then i + 1 else i) = (if j < k then i + 1 else i) := by
          by_cases h5 : j < k
          · rw [if_pos h5, if_pos (by omega)]
          · rw [if_neg h5, if_neg (by omega)]
        show h₂.IsListIter it l (if j < k + 1 then i + 1 else i)
        rw [e4]
        exact q.at fun o e => hs₂.extBut _ _ (D.ij hj hit2 hjk) e
  case fin =>
    rintro ⟨b1, b2⟩ s' ⟨hb, k, hk, hrest, hb2, ⟨h₅, rfl, a1, a3, a2, a4, a5⟩⟩
    have hkn : k = its.length := by
      rcases Nat.lt_or_ge k its.length with q | q
      · rw [List.drop_eq_getElem_cons (by simpa using q)] at hrest
        cases hrest
      · omega
    subst hkn
    simp only at hb hb2
    subst hb hb2
    rw [show vs.take its.length = vs from List.take_of_length_le (by omega)]
    refine wpAny_bind (wpAny_newTuple ?_ (by
      show vs.length ≤ sizeLine
      rw [hvs]
      exact Nat.le_trans hn2 (by decide)))
    refine wpAny_pure ⟨_, rfl, ?_⟩
    have up : ∀ c o, h₅.get? c = some o → (h₅.push { cls := .type "tuple", data := .seq vs.toArray }).get? c = some o := fun c o e => Heap.get?_push_of_some _ e
    show Q (.ref h₅.objs.size) _
    have g := hQ (h₅.push { cls := .type "tuple", data := .seq vs.toArray }) (up _ _ a1) (up _ _ (a2 _ hTO)) ?_ (by rw [← a5]; exact Heap.get?_push_size _ rfl) (by rw [Heap.size_push, a5]) (fun c o c1 c2 c3 e => up _ _ (a4 c o c1 c2 c3 e))
    · rw [← a5] at g
      exact g
    · intro k it l hi hl
      have q := a3 k it l hi hl
      have hk2 : k < its.length := (List.getElem?_eq_some_iff.mp hi).1
      simp only [hk2, if_true] at q
      exact q.at fun o e => up _ _ e
end
end ZS
set_option Elab.async false
set_option linter.all false
set_option maxRecDepth 100000
set_option maxHeartbeats 4000000
namespace ZS
open PySem
set_option autoImplicit false
section
variable {prog : Program} {w : World} {A : Around} {E : Value → Shared → Prop} {s : Shared} {z TI TO : Addr} {its ls : List Addr}
/-- the first list is at its end -/
theorem zs_next_end {i : Nat} {f0 : Value} {f1 : Bool} {it l : Addr} {rest : List Addr} {xs : Array Value} {Q : Fin → Shared → Prop} (hh : A.handled = none) (D : Apart z TI TO (it :: rest) ls)
    (hz : ZObj s.heap z f0 f1 TI TO) (hf : f0 = .none ∨ ∃ T : Nat, f0 = rawInt T) (hTI : IsT s.heap TI ((it :: rest).map Value.ref)) (hit : s.heap.IsListIter it l i) (hl : s.heap.IsList l xs) (hlz : l ≠ z) (hx : xs[i]? = none)
    (hE : ∀ h' e, Els z TO (it :: rest) s.heap h' → (∃ o, h'.get? e = some o ∧ o.cls = .type "StopIteration") → E (.ref e) { s with heap := h' }) :
    wpAny (model prog w) A (Builtin.«zip.__next__» ⟨[.ref z], []⟩) Q E s := by
  have hiz : it ≠ z := D.zi List.mem_cons_self
  show wpAny _ _ (field (.ref z) 2 >>= _) _ _ _
  refine wpAny_bind (wpAny_field hz rfl (x := .bool false) rfl ?_)
  show wpAny _ _ (field (.ref z) 3 >>= _) _ _ _
  refine wpAny_bind (wpAny_field hz rfl (x := .ref TI) rfl ?_)
  refine wpAny_bind (wpAny_seqItems hTI rfl ?_)
  have hne : ((it :: rest).map Value.ref).toArray.isEmpty = false := rfl
  simp only [hne, Bool.false_eq_true, if_false]
  show wpAny _ _ (Builtin.SmallTypes.ownedTupleIsFree (.ref z) >>= _) _ _ _
  refine wpAny_bind (zs_free hz hf ?_ fun h₁ hz₁ hs₁ => ?_)
  · simp only [if_true]
    refine wpAny_bind (wpAny_rule ?_)
    refine wpAny_bind (wpAny_field hz rfl (x := .ref TO) rfl ?_)
    refine wpAny_bind (wpAny_setField_rec hz (by simp) fun h₁ hz₁ hs₁ => ?_)
    replace hz₁ : ZObj h₁ z .ellipsis f1 TI TO := hz₁
    refine wpAny_bind ?_
    simp only [List.map_cons, List.zipIdx_cons, List.forIn_cons]
    refine wpAny_bind (wpAny_bind (wpAny_onRaise ?_))
    show wpAny _ _ (Builtin.SmallTypes.nextOf (.ref it) >>= _) _ _ _
    refine wpAny_bind (wpAny_nextOf_list_end hh (hit.extBut hs₁.extBut hiz) (hl.extBut hs₁.extBut hlz) hx fun h₂ e hs₂ he => ?_)
    obtain ⟨oe, hoe, hce⟩ := he
    have hz₂ : ZObj h₂ z .ellipsis f1 TI TO := hs₂ _ _ hiz.symm hz₁
    have hez : e ≠ z := fun x => by
      subst x
      rw [hz₂] at hoe
      cases hoe
      simp at hce
    refine wpAny_setField_rec hz₂ (by simp) fun h₃ _ hs₃ => hE h₃ e (fun c o c1 c2 c3 x => hs₃.extBut _ _ c1 (hs₂ _ _ (fun q => c3 (by rw [q]; exact List.mem_cons_self)) (hs₁.extBut _ _ c1 x))) ⟨oe, hs₃.extBut _ _ hez hoe, hce⟩
  · simp only [Bool.false_eq_true, if_false]
    refine wpAny_bind ?_
    rw [← Array.forIn_toList]
    simp only [List.map_cons, List.forIn_cons]
    refine wpAny_bind (wpAny_bind (wpAny_holding ?_))
    show wpAny _ _ (Builtin.SmallTypes.nextOf (.ref it) >>= _) _ _ _
    refine wpAny_bind (wpAny_nextOf_list_end hh (hit.extBut hs₁.extBut hiz) (hl.extBut hs₁.extBut hlz) hx fun h₂ e hs₂ he => ?_)
    exact hE h₂ e (fun c o c1 c2 c3 x => hs₂ _ _ (fun q => c3 (by rw [q]; exact List.mem_cons_self)) (hs₁.extBut _ _ c1 x)) he

/-- the state of a zip over lists, behind i turns -/
structure ZSt (h : Heap) (z TI TO : Addr) (its ls : List Addr) (i : Nat) : Prop where
  z : ∃ (f0 : Value) (f1 : Bool), (f0 = .none ∨ ∃ T : Nat, f0 = rawInt T) ∧ ZObj h z f0 f1 TI TO
  ti : IsT h TI (its.map Value.ref)
  to : ∃ old : List Value, old.length = its.length ∧ IsT h TO old
  its : ItsAt h its ls (fun _ => i)
theorem pyNext_item {i : Nat} {vs : List Value} {Q : Option Value → Shared → Prop} (D : Apart z TI TO its ls) (S : ZSt s.heap z TI TO its ls i) (hvs : vs.length = its.length) (hn : 0 < its.length) (hn2 : its.length ≤ 1000)
    (hls : ∀ (k : Nat) (l : Addr) (v : Value), ls[k]? = some l → vs[k]? = some v → ∃ xs : Array Value, s.heap.IsList l xs ∧ xs[i]? = some v)
    (hQ : ∀ h', ZSt h' z TI TO its ls (i + 1) → IsT h' s.heap.objs.size vs → h'.objs.size = s.heap.objs.size + 1 → Els z TO its s.heap h' → Q (some (.ref s.heap.objs.size)) { s with heap := h' }) :
    wpAny (model prog w) A (pyNext (.ref z)) Q E s := by
  obtain ⟨f0, f1, hf, hz⟩ := S.z
  obtain ⟨old, hold, hTO⟩ := S.to
  have hT : s.TypeIs (.ref z) "zip" := ⟨_, hz, rfl⟩
  have goA : ∀ Q' : Option Value → Shared → Prop, Q' = Q → (∀ (A' : Around) (E' : Value → Shared → Prop) (Q' : Bool → Shared → Prop), Q' true s → wpAny (model prog w) A' (Builtin.SmallTypes.ownedTupleIsFree (.ref z)) Q' E' s) → wpAny (model prog w) A (pyNext (.ref z)) Q E s := by
    intro _ _ hfree
    unfold pyNext
    exact wpAny_bind (wpAny_attempt (wpAny_callSpecial?_slot (name := Str.ofString "__next__") hT F.slot_zip_next
      (wpAny_call_entry F.slot_zip_next hT F.entry_zip_next
        (zs_next_A D hz S.ti hTO S.its hold hvs hn hn2 hls (fun Q' q => hfree _ _ Q' q) fun h' ⟨T, a1⟩ a2 a3 a4 a5 a6 => wpAny_pure (hQ h' ⟨⟨_, _, .inr ⟨T, rfl⟩, a1⟩, a6 _ _ D.TIz D.TITO (fun q => D.TIi q rfl) S.ti, ⟨vs, hvs, a2⟩, a3⟩ a4 a5 a6)) (F.args_zip_next_1 _))))
  rcases hf with rfl | ⟨T, rfl⟩
  · refine goA Q rfl fun A' E' Q' q => ?_
    unfold Builtin.SmallTypes.ownedTupleIsFree
    exact wpAny_bind (wpAny_field hz rfl (x := .none) rfl (wpAny_pure q))
  · cases hg : s.heap.get? ((T : Int).toNat) with
    | none =>
      refine goA Q rfl fun A' E' Q' q => ?_
      unfold Builtin.SmallTypes.ownedTupleIsFree
      refine wpAny_bind (wpAny_field hz rfl (x := rawInt T) rfl ?_)
      show wpAny _ _ (loadIfAlive ((T : Int).toNat) >>= _) _ _ _
      refine wpAny_bind (zs_alive ?_)
      rw [hg]
      exact wpAny_pure q
    | some o =>
      unfold pyNext
      refine wpAny_bind (wpAny_attempt (wpAny_callSpecial?_slot (name := Str.ofString "__next__") hT F.slot_zip_next
        (wpAny_call_entry F.slot_zip_next hT F.entry_zip_next
          (zs_next_B D hz S.ti hTO S.its hvs hn hn2 hls (fun Q' q => ?_) fun h' a1 a2 a3 a4 a5 a6 => wpAny_pure (hQ h' ⟨⟨_, _, .inr ⟨T, rfl⟩, a1⟩, a6 _ _ D.TIz D.TITO (fun q => D.TIi q rfl) S.ti, ⟨old, hold, a2⟩, a3⟩ a4 a5 a6)) (F.args_zip_next_1 _))))
      unfold Builtin.SmallTypes.ownedTupleIsFree
      refine wpAny_bind (wpAny_field hz rfl (x := rawInt T) rfl ?_)
      show wpAny _ _ (loadIfAlive ((T : Int).toNat) >>= _) _ _ _
      refine wpAny_bind (zs_alive ?_)
      rw [hg]
      simp only [Option.isNone_some, Bool.false_eq_true, if_false]
      refine wpAny_bind (wpAny_field hz rfl (x := .bool f1) rfl ?_)
      cases f1 with
      | true =>
        rw [if_neg (show ¬ ((Value.bool true != Value.bool true) = true) from Bool.false_ne_true)]
        exact wpAny_pure (q s.heap hz (Heap.SameBut.refl _ _))
      | false =>
        rw [if_pos (show (Value.bool false != Value.bool true) = true from rfl)]
        exact wpAny_bind (wpAny_setField_rec hz (by simp) fun h₁ hz₁ hs₁ => wpAny_pure (q h₁ hz₁ hs₁))
theorem pyNext_end {i : Nat} {it l : Addr} {rest lr : List Addr} {xs : Array Value} {Q : Option Value → Shared → Prop} (hh : A.handled = none) (D : Apart z TI TO (it :: rest) (l :: lr)) (S : ZSt s.heap z TI TO (it :: rest) (l :: lr) i) (hl : s.heap.IsList l xs) (hx : xs[i]? = none)
    (hQ : ∀ h', Els z TO (it :: rest) s.heap h' → Q none { s with heap := h' }) : wpAny (model prog w) A (pyNext (.ref z)) Q E s := by
  obtain ⟨f0, f1, hf, hz⟩ := S.z
  have hT : s.TypeIs (.ref z) "zip" := ⟨_, hz, rfl⟩
  unfold pyNext
  refine wpAny_bind (wpAny_attempt (wpAny_callSpecial?_slot (name := Str.ofString "__next__") hT F.slot_zip_next
    (wpAny_call_entry F.slot_zip_next hT F.entry_zip_next (zs_next_end hh D hz hf S.ti (S.its 0 it l rfl rfl) hl (D.lsx l List.mem_cons_self).1 hx fun h' e hk he => ?_) (F.args_zip_next_1 _))))
  obtain ⟨o, ho, hc⟩ := he
  refine wpAny_bind (wpAny_isInstance (T := "StopIteration") (b := true) ⟨o, ho, hc⟩ isSubtype_stop ?_)
  exact wpAny_pure (hQ _ hk)
theorem pyIter_z {f0 : Value} {f1 : Bool} {Q : Value → Shared → Prop} (hz : ZObj s.heap z f0 f1 TI TO) (h : Q (.ref z) s) : wpAny (model prog w) A (pyIter (.ref z)) Q E s := by
  have hT : s.TypeIs (.ref z) "zip" := ⟨_, hz, rfl⟩
  refine wpAny_pyIter_slot hT F.slot_zip_iter (wpAny_call_entry F.slot_zip_iter hT F.entry_zip_iter ?_ (F.args_zip_iter_1 _))
  show wpAny _ _ (ret (.ref z)) _ _ s
  exact wpAny_pure ⟨_, rfl, "zip", _, hT, F.slot_zip_next.lookup, h⟩

/-! ### zip(*xss): making it -/
theorem ct_zip : ∀ args : List Value, 0 < args.length → args.length ≤ 8 → checkTypeCall "zip" ⟨args, []⟩ = pure ()
  | [_], _, _ => by kernel_rfl
  | [_, _], _, _ => by kernel_rfl
  | [_, _, _], _, _ => by kernel_rfl
  | [_, _, _, _], _, _ => by kernel_rfl
  | [_, _, _, _, _], _, _ => by kernel_rfl
  | [_, _, _, _, _, _], _, _ => by kernel_rfl
  | [_, _, _, _, _, _, _], _, _ => by kernel_rfl
  | [_, _, _, _, _, _, _, _], _, _ => by kernel_rfl
  | [], h, _ => by simp at h
  | _ :: _ :: _ :: _ :: _ :: _ :: _ :: _ :: _ :: _, _, h => by
    simp only [List.length_cons] at h
    omega
theorem cn_zip : ∀ args : List Value, 0 < args.length → args.length ≤ 8 → checkBuiltinCall "zip.__new__" ⟨.type "zip" :: args, []⟩ = pure ()
  | [_], _, _ => by kernel_rfl
  | [_, _], _, _ => by kernel_rfl
  | [_, _, _], _, _ => by kernel_rfl
  | [_, _, _, _], _, _ => by kernel_rfl
  | [_, _, _, _, _], _, _ => by kernel_rfl
  | [_, _, _, _, _, _], _, _ => by kernel_rfl
  | [_, _, _, _, _, _, _], _, _ => by kernel_rfl
  | [_, _, _, _, _, _, _, _], _, _ => by kernel_rfl
  | [], h, _ => by simp at h
  | _ :: _ :: _ :: _ :: _ :: _ :: _ :: _ :: _ :: _, _, h => by
    simp only [List.length_cons] at h
    omega
theorem ao_zip (obj : Value) : ∀ args : List Value, 0 < args.length → args.length ≤ 8 → argsOk "object.__init__" ⟨obj :: args, []⟩
  | [_], _, _ => by
    unfold argsOk; rw [signature?_of (id := "object.__init__") (n := ['_', '_', 't', 'i', 'n', 'i', '_', '_']) (o := ['t', 'c', 'e', 'j', 'b', 'o']) (by kernel_rfl) F.owner_object]; kernel_rfl
  | [_, _], _, _ => by
    unfold argsOk; rw [signature?_of (id := "object.__init__") (n := ['_', '_', 't', 'i', 'n', 'i', '_', '_']) (o := ['t', 'c', 'e', 'j', 'b', 'o']) (by kernel_rfl) F.owner_object]; kernel_rfl
  | [_, _, _], _, _ => by
    unfold argsOk; rw [signature?_of (id := "object.__init__") (n := ['_', '_', 't', 'i', 'n', 'i', '_', '_']) (o := ['t', 'c', 'e', 'j', 'b', 'o']) (by kernel_rfl) F.owner_object]; kernel_rfl
  | [_, _, _, _], _, _ => by
    unfold argsOk; rw [signature?_of (id := "object.__init__") (n := ['_', '_', 't', 'i', 'n', 'i', '_', '_']) (o := ['t', 'c', 'e', 'j', 'b', 'o']) (by kernel_rfl) F.owner_object]; kernel_rfl
  | [_, _, _, _, _], _, _ => by
    unfold argsOk; rw [signature?_of (id := "object.__init__") (n := ['_', '_', 't', 'i', 'n', 'i', '_', '_']) (o := ['t', 'c', 'e', 'j', 'b', 'o']) (by kernel_rfl) F.owner_object]; kernel_rfl
  | [_, _, _, _, _, _], _, _ => by
    unfold argsOk; rw [signature?_of (id := "object.__init__") (n := ['_', '_', 't', 'i', 'n', 'i', '_', '_']) (o := ['t', 'c', 'e', 'j', 'b', 'o']) (by kernel_rfl) F.owner_object]; kernel_rfl
  | [_, _, _, _, _, _, _], _, _ => by
    unfold argsOk; rw [signature?_of (id := "object.__init__") (n := ['_', '_', 't', 'i', 'n', 'i', '_', '_']) (o := ['t', 'c', 'e', 'j', 'b', 'o']) (by kernel_rfl) F.owner_object]; kernel_rfl
  | [_, _, _, _, _, _, _, _], _, _ => by
    unfold argsOk; rw [signature?_of (id := "object.__init__") (n := ['_', '_', 't', 'i', 'n', 'i', '_', '_']) (o := ['t', 'c', 'e', 'j', 'b', 'o']) (by kernel_rfl) F.owner_object]; kernel_rfl
  | [], h, _ => by simp at h
  | _ :: _ :: _ :: _ :: _ :: _ :: _ :: _ :: _ :: _, _, h => by
    simp only [List.length_cons] at h
    omega
/-- the iterators laid one behind the other -/
def pushIts (h : Heap) : List Addr → Heap
  | [] => h
  | l :: r => pushIts (h.push { cls := .type "list_iterator", data := .fields #[.ref l, .int 0 0] }) r
theorem pushIts_size : ∀ (ls : List Addr) (h : Heap), (pushIts h ls).objs.size = h.objs.size + ls.length
  | [], h => rfl
  | l :: r, h => by
    show (pushIts _ r).objs.size = _
    rw [pushIts_size r, Heap.size_push, List.length_cons]
    omega
theorem pushIts_keep : ∀ (ls : List Addr) (h : Heap) (c : Addr) (o : Obj), h.get? c = some o → (pushIts h ls).get? c = some o
  | [], h, _, _, e => e
  | l :: r, h, c, o, e => pushIts_keep r _ c o (Heap.get?_push_of_some _ e)
theorem pushIts_at : ∀ (ls : List Addr) (h : Heap) (k : Nat) (l : Addr), ls[k]? = some l → (pushIts h ls).get? (h.objs.size + k) = some { cls := .type "list_iterator", data := .fields #[.ref l, .int 0 0] }
  | [], _, _, _, e => by simp at e
  | a :: r, h, 0, l, e => by
    have e' : a = l := by simpa using e
    subst e'
    exact pushIts_keep r _ _ _ (Heap.get?_push_size _ rfl)
  | a :: r, h, k + 1, l, e => by
    have g := pushIts_at r (h.push { cls := .type "list_iterator", data := .fields #[.ref a, .int 0 0] }) k l (by simpa using e)
    rw [Heap.size_push] at g
    show (pushIts _ r).get? (h.objs.size + (k + 1)) = _
    rw [show h.objs.size + (k + 1) = h.objs.size + 1 + k by omega]
    exact g
theorem pushIts_snoc : ∀ (ls : List Addr) (h : Heap) (l : Addr), pushIts h (ls ++ [l]) = (pushIts h ls).push { cls := .type "list_iterator", data := .fields #[.ref l, .int 0 0] }
  | [], h, l => rfl
  | a :: r, h, l => pushIts_snoc r _ l
abbrev itsOf (h : Heap) (ls : List Addr) : List Addr := List.range' h.objs.size ls.length
theorem meets_zip_new (ls : List Addr) (hn : ls.length ≤ 8) :
    Meets (Builtin.«zip.__new__» ⟨.type "zip" :: ls.map Value.ref, []⟩) (fun _ R s => (∀ l ∈ ls, ∃ xs, s.heap.IsList l xs) ∧
      R (.ok (.ret (.ref (s.heap.objs.size + ls.length + 2)))) { s with heap := (((pushIts s.heap ls).push { cls := .type "tuple", data := .seq ((itsOf s.heap ls).map Value.ref).toArray }).push { cls := .type "tuple", data := .seq ((itsOf s.heap ls).map fun _ => Value.none).toArray }).push { cls := .type "zip", data := .fields #[.none, .bool false, .bool false, .ref (s.heap.objs.size + ls.length), .ref (s.heap.objs.size + ls.length + 1)] } }) :=
  .of_wp fun prog w A R s h => by
    obtain ⟨hp, g, d, tk, os⟩ := s
    obtain ⟨hl, h⟩ := h
    have hsub := sub_zip
    wp_walk using wpAny_forIn_list _ (fun (rest : List Value) (b : Array Value) s' => ∃ (dn lr : List Addr), ls = dn ++ lr ∧ rest = lr.map Value.ref ∧ b = ((itsOf hp dn).map Value.ref).toArray ∧ s' = ⟨pushIts hp dn, g, d, tk, os⟩) _
    case turn =>
      rintro y rest b s' ⟨dn, lr, e1, e2, e3, e4⟩
      cases lr with
      | nil => cases e2
      | cons l lr =>
        simp only [List.map_cons, List.cons.injEq] at e2
        obtain ⟨rfl, rfl⟩ := e2
        subst e3 e4
        obtain ⟨xs, hxs⟩ := hl l (by rw [e1]; simp)
        have hxs' : (pushIts hp dn).IsList l xs := hxs.at fun o e => pushIts_keep _ _ _ _ e
        refine wpAny_bind (wpAny_holding (wpAny_pyIter_list hxs' ?_))
        refine wpAny_pure ?_
        refine ⟨dn ++ [l], lr, by rw [e1]; simp, rfl, ?_, ?_⟩
        · show ((List.map Value.ref (itsOf hp dn)).toArray.push (Value.ref (pushIts hp dn).objs.size)) = _
          rw [pushIts_size]
          unfold itsOf
          rw [List.length_append, List.length_singleton, List.range'_concat]
          simp
        · rw [pushIts_snoc]
    case fin =>
      rintro b s' ⟨dn, lr, e1, e2, e3, e4⟩
      cases lr with
      | cons l lr => cases e2
      | nil =>
        rw [List.append_nil] at e1
        subst e1 e3 e4
        have hsz : ls.length ≤ sizeLine := Nat.le_trans hn (by decide)
        refine wpAny_pure ?_
        refine wpAny_bind (wpAny_newTuple ?_ (by
          simp
          exact hsz))
        refine wpAny_bind (wpAny_newTuple ?_ (by
          simp
          exact hsz))
        have z1 := pushIts_size ls hp
        refine wpAny_bind ?_
        unfold Builtin.SmallTypes.newRecord
        refine wpAny_newObj_type ?_ (by
          show (5 : Nat) ≤ sizeLine + 2
          decide)
        refine wpAny_pure ⟨_, rfl, ?_⟩
        have e5 : ∀ h : Heap, ∀ o : Obj, (h.push o).objs.size = h.objs.size + 1 := fun h o => Heap.size_push ..
        simp only [e5, z1]
        simpa [Function.comp_def, Builtin.SmallTypes.ownedTupleFields] using h
    case h =>
      exact ⟨[], ls, rfl, rfl, rfl, rfl⟩
end
end ZS
set_option Elab.async false
set_option linter.all false
set_option maxRecDepth 100000
set_option maxHeartbeats 4000000
/-! zip(*xss) as a rule: for and comprehensions over it, list(zip(*xss)). -/
namespace ZS
open PySem PySem.Spec PyProof.Rows L2
set_option autoImplicit false
abbrev St := L2.St
theorem nodup_range' (n a : Nat) : (List.range' a n).Nodup := List.nodup_range'
theorem apart_new (h : Heap) (ls : List Addr) (hl : ∀ l ∈ ls, l < h.objs.size) : Apart (h.objs.size + ls.length + 2) (h.objs.size + ls.length) (h.objs.size + ls.length + 1) (itsOf h ls) ls := by
  have hm : ∀ x : Nat, x ∈ itsOf h ls → h.objs.size ≤ x ∧ x < h.objs.size + ls.length := fun x hx => by
    have := List.mem_range'_1.mp hx
    omega
  have key : ∀ (a b : Nat), a ≠ b → (a : Addr) ≠ b := fun a b h => h
  refine ⟨?_, fun l h' => ?_, by simp⟩
  · refine List.nodup_cons.mpr ⟨fun q => ?_, List.nodup_cons.mpr ⟨fun q => ?_, List.nodup_cons.mpr ⟨fun q => ?_, List.nodup_range'⟩⟩⟩
    · rcases List.mem_cons.mp q with q | q
      · exact absurd q (by show ¬ (h.objs.size + ls.length + 2 : Nat) = h.objs.size + ls.length; omega)
      · rcases List.mem_cons.mp q with q | q
        · exact absurd q (by show ¬ (h.objs.size + ls.length + 2 : Nat) = h.objs.size + ls.length + 1; omega)
        · have := hm _ q
          omega
    · rcases List.mem_cons.mp q with q | q
      · exact absurd q (by show ¬ (h.objs.size + ls.length : Nat) = h.objs.size + ls.length + 1; omega)
      · have := hm _ q
        omega
    · have := hm _ q
      omega
  · have hl' := hl l h'
    refine ⟨fun q => ?_, fun q => ?_, fun q => ?_⟩
    · exact absurd (Nat.lt_of_lt_of_le hl' (by rw [q]; exact Nat.le_trans (Nat.le_add_right _ _) (Nat.le_add_right _ _))) (Nat.lt_irrefl _)
    · exact absurd (Nat.lt_of_lt_of_le hl' (by rw [q]; exact Nat.le_trans (Nat.le_add_right _ _) (Nat.le_add_right _ _))) (Nat.lt_irrefl _)
    · exact absurd (Nat.lt_of_lt_of_le hl' (hm l q).1) (Nat.lt_irrefl _)
section
variable {prog : Program} {w : World} {A : Around} {E : Value → Shared → Prop} {s : Shared}
theorem call_zip {ls : List Addr} {Q : Value → Shared → Prop} (h0 : 0 < ls.length) (h8 : ls.length ≤ 8) (hl : ∀ l ∈ ls, ∃ xs, s.heap.IsList l xs)
    (h : ∀ h', ZSt h' (s.heap.objs.size + ls.length + 2) (s.heap.objs.size + ls.length) (s.heap.objs.size + ls.length + 1) (itsOf s.heap ls) ls 0 → h'.objs.size = s.heap.objs.size + ls.length + 3 →
      (∀ c o, s.heap.get? c = some o → h'.get? c = some o) → Q (.ref (s.heap.objs.size + ls.length + 2)) { s with heap := h' }) :
    wpAny (model prog w) A (call (.type "zip") (ls.map Value.ref)) Q E s := by
  refine callType_new F.called_zip (by decide) (ct_zip _ (by simpa using h0) (by simpa using h8)) (cn_zip _ (by simpa using h0) (by simpa using h8)) (fun obj => ao_zip obj _ (by simpa using h0) (by simpa using h8)) F.entry_zip_new
    (meets_zip_new ls h8) ⟨hl, ?_⟩
  have z1 := pushIts_size ls s.heap
  have z2 : ((pushIts s.heap ls).push { cls := .type "tuple", data := .seq ((itsOf s.heap ls).map Value.ref).toArray }).objs.size = s.heap.objs.size + ls.length + 1 := by rw [Heap.size_push, z1]
  have z3 : (((pushIts s.heap ls).push { cls := .type "tuple", data := .seq ((itsOf s.heap ls).map Value.ref).toArray }).push { cls := .type "tuple", data := .seq ((itsOf s.heap ls).map fun _ => Value.none).toArray }).objs.size = s.heap.objs.size + ls.length + 2 := by rw [Heap.size_push, z2]
  refine ⟨⟨{ cls := .type "zip", data := .fields #[.none, .bool false, .bool false, .ref (s.heap.objs.size + ls.length), .ref (s.heap.objs.size + ls.length + 1)] }, ?_, rfl⟩, h _ ⟨⟨.none, false, .inl rfl, ?_⟩, ?_, ⟨(itsOf s.heap ls).map fun _ => Value.none, by simp, ?_⟩, ?_⟩ ?_ ?_⟩
  · have g := Heap.get?_push_size (((pushIts s.heap ls).push { cls := .type "tuple", data := .seq ((itsOf s.heap ls).map Value.ref).toArray }).push { cls := .type "tuple", data := .seq ((itsOf s.heap ls).map fun _ => Value.none).toArray }) (o := { cls := .type "zip", data := .fields #[.none, .bool false, .bool false, .ref (s.heap.objs.size + ls.length), .ref (s.heap.objs.size + ls.length + 1)] }) rfl
    rw [z3] at g
    exact g
  · have g := Heap.get?_push_size (((pushIts s.heap ls).push { cls := .type "tuple", data := .seq ((itsOf s.heap ls).map Value.ref).toArray }).push { cls := .type "tuple", data := .seq ((itsOf s.heap ls).map fun _ => Value.none).toArray }) (o := { cls := .type "zip", data := .fields #[.none, .bool false, .bool false, .ref (s.heap.objs.size + ls.length), .ref (s.heap.objs.size + ls.length + 1)] }) rfl
    rw [z3] at g
    exact g
  · have g := Heap.get?_push_size (pushIts s.heap ls) (o := { cls := .type "tuple", data := .seq ((itsOf s.heap ls).map Value.ref).toArray }) rfl
    rw [z1] at g
    exact Heap.get?_push_of_some _ (Heap.get?_push_of_some _ g)
  · have g := Heap.get?_push_size ((pushIts s.heap ls).push { cls := .type "tuple", data := .seq ((itsOf s.heap ls).map Value.ref).toArray }) (o := { cls := .type "tuple", data := .seq ((itsOf s.heap ls).map fun _ => Value.none).toArray }) rfl
    rw [z2] at g
    exact Heap.get?_push_of_some _ g
  · intro k it l hi hll
    have e : it = s.heap.objs.size + k := by
      rw [List.getElem?_range' (by
        have := (List.getElem?_eq_some_iff.mp hi).1
        simpa using this)] at hi
      have e2 : s.heap.objs.size + 1 * k = it := Option.some.inj hi
      rw [← e2, Nat.one_mul]
    subst e
    exact ⟨_, Heap.get?_push_of_some _ (Heap.get?_push_of_some _ (Heap.get?_push_of_some _ (pushIts_at ls s.heap k l hll))), rfl, rfl⟩
  · rw [Heap.size_push, z3]
  · exact fun c o e => Heap.get?_push_of_some _ (Heap.get?_push_of_some _ (Heap.get?_push_of_some _ (pushIts_keep ls s.heap c o e)))
end

/-! ### the walk over it -/
/-- the lists at ls, side by side: a new tuple a turn; it ends with the first of them -/
def Its (K : PySem.W.Frag) (ls : List Addr) : It :=
  ⟨fun i H => ∃ vs : List V, vs.length = ls.length ∧ ∀ (k : Nat) (l : Addr) (v : V), ls[k]? = some l → vs[k]? = some v → ∃ xs, SqL K H l xs ∧ xs[i]? = some v,
   fun i H v H' => ∃ (T : Addr) (vs : List V), v = .ref T ∧ H T = none ∧ H' = upd H T (.tup vs) ∧ vs.length = ls.length ∧ ∀ (k : Nat) (l : Addr) (v : V), ls[k]? = some l → vs[k]? = some v → ∀ xs, SqL K H l xs → xs[i]? = some v,
   fun i H => ∃ l xs, ls[0]? = some l ∧ SqL K H l xs ∧ xs.length ≤ i⟩
def fpZ (z TI TO : Addr) (its : List Addr) : List Addr := z :: TI :: TO :: its
theorem pick {α β : Type} {R : α → β → Prop} : ∀ (n : Nat) (l : List α), l.length = n → (∀ (k : Nat) (a : α), l[k]? = some a → ∃ b, R a b) → ∃ bs : List β, bs.length = l.length ∧ ∀ (k : Nat) (a : α) (b : β), l[k]? = some a → bs[k]? = some b → R a b
  | _, [], _, _ => ⟨[], rfl, fun k a b e => by simp at e⟩
  | _, a :: r, _, h => by
    obtain ⟨b, hb⟩ := h 0 a rfl
    obtain ⟨bs, h1, h2⟩ := pick _ r rfl fun k a' e => h (k + 1) a' e
    refine ⟨b :: bs, by simp [h1], fun k a' b' e1 e2 => ?_⟩
    cases k with
    | zero =>
      have e3 : a = a' := by simpa using e1
      have e4 : b = b' := by simpa using e2
      subst e3 e4
      exact hb
    | succ k => exact h2 k a' b' (by simpa using e1) (by simpa using e2)
/-- the values of a turn -/
theorem turn_vals {X : Cx} {pins : List (Addr × Obj)} {σ : St} {H : Hp} {s : Shared} {i : Nat} (I : Inv X pins σ H s) : ∀ (vs : List V) (ls : List Addr), vs.length = ls.length →
    (∀ (k : Nat) (l : Addr) (v : V), ls[k]? = some l → vs[k]? = some v → ∃ xs, SqL X.K H l xs ∧ xs[i]? = some v) →
    ∃ us : List Value, Vals vs us ∧ ∀ (k : Nat) (l : Addr) (u : Value), ls[k]? = some l → us[k]? = some u → ∃ ys : Array Value, s.heap.IsList l ys ∧ ys[i]? = some u
  | [], [], _, _ => ⟨[], .nil, fun k l u e => by simp at e⟩
  | v :: vs, l :: ls, hl, h => by
    obtain ⟨us, h1, h2⟩ := turn_vals I vs ls (by simpa using hl) fun k l v e1 e2 => h (k + 1) l v e1 e2
    obtain ⟨xs, hq, hx⟩ := h 0 l v rfl rfl
    obtain ⟨its, rv, p, hz⟩ := I.list hq
    obtain ⟨u, hu, ru⟩ := rv.get hx
    refine ⟨u :: us, .cons ru h1, fun k l' u' e1 e2 => ?_⟩
    cases k with
    | zero =>
      have e3 : l = l' := by simpa using e1
      have e4 : u = u' := by simpa using e2
      subst e3 e4
      exact ⟨its.toArray, p.isList, by simpa using hu⟩
    | succ k => exact h2 k l' u' (by simpa using e1) (by simpa using e2)
  | [], _ :: _, hl, _ => by simp at hl
  | _ :: _, [], hl, _ => by simp at hl
theorem go_name {M : Model} {A : Around} {E : Value → Shared → Prop} {s : Shared} {x : Str} {p : Pos} {it u : Value} {Q : Unit → Shared → Prop} (hQ : Q () s) : wpAny M A (letOwnedTupleGo (.Name x p) it u) Q E s := wpAny_pure hQ
theorem turn_z {P : Program} {w : World} {K : PySem.W.Frag} {x : Str} {p : Pos} {z TI TO : Addr} {its ls : List Addr} (D : Apart z TI TO its ls) (h0 : 0 < its.length) (h8 : its.length ≤ 8) :
    Turn P w K (.Name x p) (Its K ls) (fpZ z TI TO its) z (fun i h => ZSt h z TI TO its ls i) where
  mem := by simp [fpZ]
  obj := fun i h st c hc => by
    obtain ⟨f0, f1, hf, hz⟩ := st.z
    obtain ⟨old, ho, hTO⟩ := st.to
    rcases List.mem_cons.mp hc with q | hc
    · rw [q]
      exact ⟨_, hz, fun v q => nomatch q⟩
    · rcases List.mem_cons.mp hc with q | hc
      · rw [q]
        exact ⟨_, st.ti, fun v q => nomatch q⟩
      · rcases List.mem_cons.mp hc with q | hc
        · rw [q]
          exact ⟨_, hTO, fun v q => nomatch q⟩
        · obtain ⟨k, hk⟩ := List.mem_iff_getElem?.mp hc
          have hkl : k < ls.length := by
            rw [← D.len]
            exact (List.getElem?_eq_some_iff.mp hk).1
          obtain ⟨o, e, _, d⟩ := st.its k c ls[k] hk (List.getElem?_eq_getElem hkl)
          exact ⟨o, e, fun v q => by
            rw [d] at q
            cases q⟩
  keep := fun i h h' st k => by
    obtain ⟨f0, f1, hf, hz⟩ := st.z
    obtain ⟨old, ho, hTO⟩ := st.to
    exact ⟨⟨f0, f1, hf, k z (by simp [fpZ]) _ hz⟩, k TI (by simp [fpZ]) _ st.ti, ⟨old, ho, k TO (by simp [fpZ]) _ hTO⟩, fun j it l hj hl => (st.its j it l hj hl).at fun o e => k it (by
      have := List.mem_of_getElem? hj
      simp [fpZ, this]) o e⟩
  item := by
    intro X hP hw hK hc i pins s σ H E I hf st hg
    subst hP hw hK
    obtain ⟨vs, hvl, hvs⟩ := hg
    obtain ⟨us, ru, hus⟩ := turn_vals I vs ls hvl hvs
    have hul : us.length = its.length := by rw [← ru.length, hvl, D.len]
    refine pyNext_item D st hul h0 (by omega) hus fun h' S' hT hsz el => ?_
    refine ⟨_, rfl, go_name ?_⟩
    have new : ObjOk X.prog X.w (upd H s.heap.objs.size (.tup vs)) h' s.heap.objs.size (.tup vs) :=
      ⟨by
        rw [hvl, ← D.len]
        exact Nat.le_trans h8 (by decide), us, ru, ⟨_, hT, rfl, _, rfl⟩⟩
    have I1 : Inv X pins σ (upd H s.heap.objs.size (.tup vs)) { s with heap := h' } :=
      I.turnedNew (t' := s.toks) (ch := fpZ z TI TO its) (fun c o hb q => el c o (fun q' => hb (by simp [fpZ, q'])) (fun q' => hb (by simp [fpZ, q'])) (fun q' => hb (by simp [fpZ, q'])) q) hf (Nat.le_refl _) new
    refine ⟨.ref s.heap.objs.size, _, I1, rfl, ⟨_, vs, rfl, I.hok.fresh (Nat.le_refl _), rfl, hvl, fun k l v e1 e2 xs hx => ?_⟩, S', fun c hcm => ?_⟩
    · obtain ⟨ys, hy, hyi⟩ := hvs k l v e1 e2
      rw [I.list_inj hx hy]
      exact hyi
    · have hlt : c < s.heap.objs.size := by
        obtain ⟨f0, f1, _, hz⟩ := st.z
        obtain ⟨old, ho, hTO⟩ := st.to
        rcases List.mem_cons.mp hcm with q | q
        · rw [q]
          exact Heap.lt_size hz
        · rcases List.mem_cons.mp q with q | q
          · rw [q]
            exact Heap.lt_size st.ti
          · rcases List.mem_cons.mp q with q | q
            · rw [q]
              exact Heap.lt_size hTO
            · obtain ⟨k, hk⟩ := List.mem_iff_getElem?.mp q
              have hkl : k < ls.length := by
                rw [← D.len]
                exact (List.getElem?_eq_some_iff.mp hk).1
              obtain ⟨o, e, _, d⟩ := st.its k c ls[k] hk (List.getElem?_eq_getElem hkl)
              exact Heap.lt_size e
      rw [upd_ne (Nat.ne_of_lt hlt)]
      exact (hf c hcm).1
  done := by
    intro X hP hw hK hc i pins s σ H E I hf st hg
    subst hP hw hK
    obtain ⟨l, xs, hl, hq, hx⟩ := hg
    cases ls with
    | nil => simp at hl
    | cons l' lr =>
      have e : l' = l := by simpa using hl
      subst e
      cases its with
      | nil => simp at h0
      | cons it rest =>
        obtain ⟨ys, rv, p, hz⟩ := I.list hq
        have hlen := rv.length
        exact pyNext_end (I.ok.hd hc) D st p.isList (by simp; omega) fun h' el => ⟨rfl, I.turnedL (t' := s.toks) (ch := fpZ z TI TO (it :: rest)) (fun c o hb q => el c o (fun q' => hb (by simp [fpZ, q'])) (fun q' => hb (by simp [fpZ, q'])) (fun q' => hb (by
          simp only [List.mem_cons] at q'
          simp only [fpZ, List.mem_cons]
          rcases q' with q' | q'
          · exact .inr (.inr (.inr (.inl q')))
          · exact .inr (.inr (.inr (.inr q'))))) q) hf⟩
  self := fun A i s Q E st h => by
    obtain ⟨f0, f1, hf, hz⟩ := st.z
    exact pyIter_z hz h

/-! ### the rule -/
theorem refs_of : ∀ {ls : List Addr} {us : List Value}, Vals (ls.map V.ref) us → us = ls.map Value.ref
  | [], _, .nil => rfl
  | l :: r, _, .cons h t => by
    cases h
    rw [refs_of t]
    rfl
/-- e comes to a list of lists, of 1 to 8 of them -/
def tRows (K : PySem.W.Frag) (te : TE) (R : List Addr → Hp → Prop) : St → Hp → Prop := fun σ H => te σ H fun x H1 => ∃ (p : Addr) (ls : List Addr), x = .ref p ∧ (SqT K H1 p (ls.map V.ref) ∨ SqL K H1 p (ls.map V.ref)) ∧ 0 < ls.length ∧ ls.length ≤ 8 ∧ (∀ l ∈ ls, ∃ xs, SqL K H1 l xs) ∧ R ls H1
def iZipS (K : PySem.W.Frag) (te : TE) : TI := fun σ H R => tRows K te (fun ls H1 => R (Its K ls) H1) σ H
theorem callWith_typeStar {M : Model} {A : Around} {E : Value → Shared → Prop} {s : Shared} {env : Env} {pos p : Pos} {T : String} {Q : Value → Shared → Prop} {e : Expr}
    (h : wpAny M A (eval e env) (fun v s₁ => PySem.W.StarOf M A E v (fun vs s₂ => wpAny M A (call (.type T) vs) Q E s₂) s₁) E s)
    (he : starEach [.Starred e p] env = [(true, eval e env)] := by rfl) :
    wpAny M A (callWith pos (.type T) [] (backTo pos (starEach [.Starred e p] env)) []) Q E s := by
  rw [he]
  unfold callWith
  refine wpAny_bind (wpAny_holding (wpAny_mono (PySem.W.ks_lone (Q := fun a s₁ => wpAny M A (call (.type T) a.pos a.kw) Q E s₁) h) (fun a s₁ h₁ => wpAny_bind (wpAny_standAt ?_)) fun _ _ x => x))
  refine wpAny_bind (wpAny_pure ?_)
  exact wpAny_bind (wpAny_operateT (wpAny_mono h₁ (fun r s₂ hr => wpAny_bind (wpAny_holding (wpAny_point (wpAny_pure hr)))) fun _ _ x => x))
end ZS
set_option Elab.async false
set_option linter.all false
set_option maxRecDepth 100000
set_option maxHeartbeats 4000000
/-! type(x) of plain data, == and != of types. -/
namespace TY
open PySem
set_option autoImplicit false
theorem slot_type_ne : Slot "type" (cmpInfo .NotEq).2.1 "object.__ne__" :=
  .of (owner := "object") (n := "__ne__") (by rw [typeLookup_type, builtinLookup_eq_fast]; kernel_rfl) (by decide +kernel) (by decide +kernel) (by decide +kernel)
    (by first | exact .inl (by decide +kernel) | exact .inr (by decide +kernel)) (by rw [isSubtype_type]; kernel_rfl)
theorem slot_type_ne_refl : Slot "type" (cmpInfo .NotEq).2.2 "object.__ne__" :=
  .of (owner := "object") (n := "__ne__") (by rw [typeLookup_type, builtinLookup_eq_fast]; kernel_rfl) (by decide +kernel) (by decide +kernel) (by decide +kernel)
    (by first | exact .inl (by decide +kernel) | exact .inr (by decide +kernel)) (by rw [isSubtype_type]; kernel_rfl)
theorem slot_type_eqn : Slot "type" (Str.ofString "__eq__") "object.__eq__" := TypeEq.slot_type_eq
section
variable {M : Model} {A : Around} {E : Value → Shared → Prop} {s : Shared}
theorem rc_ne_same_decline {a b : Value} {T id : String} {k : Bool} {Q : Value → Shared → Prop} (ha : ∀ s' : Shared, s'.TypeIs a T) (hb : ∀ s' : Shared, s'.TypeIs b T)
    (h1 : Slot T (cmpInfo .NotEq).2.1 id) (h2 : Slot T (cmpInfo .NotEq).2.2 id) (hv : [a, b].any Value.onHeap = false) (hk : isSame a b = pure k)
    (hc : wpAny M A (call (.builtin id) [a, b]) (fun v s₁ => v = .notImplemented ∧ wpAny M A (call (.builtin id) [b, a]) (fun v s₂ => v = .notImplemented ∧ Q (.bool (!k)) s₂) E s₁) E s) :
    wpAny M A (richCompare .NotEq a b) Q E s := by
  rcases hi : cmpInfo CmpOp.NotEq with ⟨sym, f, r⟩
  rw [hi] at h1 h2
  simp only [richCompare, hi, (ha s).oneThing_none]
  try with_reducible refine wpAny_holding ?_
  refine wpAny_bind (wpAny_cRoomFor_or (.inl hv) ?_)
  refine wpAny_bind (wpAny_typeOf (ha s) (wpAny_bind (wpAny_typeOf (hb s) ?_)))
  simp only [bne_self_eq_false, Bool.false_eq_true, if_false, pure_bind, Bool.not_false, if_true]
  refine wpAny_bind (m := tryCompare a _ b) (wpAny_tryCompare_declines (ha s) h1 (wpAny_mono hc (fun v s₁ h₁ => ⟨h₁.1, ?_⟩) fun _ _ x => x))
  refine wpAny_bind (m := tryCompare b _ a) (wpAny_tryCompare_declines (hb s₁) h2 (wpAny_mono h₁.2 (fun v s₂ h₂ => ⟨h₂.1, ?_⟩) fun _ _ x => x))
  refine wpAny_bind (wpAny_rule (wpAny_bind (wpAny_of_eq hk (wpAny_pure h₂.2))))
end
section
variable {prog : Program} {w : World} {A : Around} {E : Value → Shared → Prop} {s : Shared} {Q : Value → Shared → Prop}
theorem call_ne_same {X : String} (hX : ∀ s' : Shared, s'.TypeIs (.type X) "type") (h : Q (.bool false) s) : wpAny (model prog w) A (call (.builtin "object.__ne__") [.type X, .type X]) Q E s := by
  refine wpAny_call_entry slot_type_ne (hX s) F.entry_object_ne ?_ (F.args_object_ne_2 _ _)
  unfold Builtin.«object.__ne__»
  refine wpAny_bind (wpAny_pure ?_)
  refine wpAny_bind (wpAny_cRoomFor_or (.inl rfl) ?_)
  refine wpAny_bind (wpAny_callSpecialIfBound?_slot (hX s) slot_type_eqn (call_gives slot_type_eqn (hX s) F.entry_object_eq (F.args_object_eq_2 _ _) (TypeEq.object_eq_same rfl (by simp)) ?_))
  exact wpAny_bind (wpAny_truthy_bool (wpAny_pure ⟨_, rfl, h⟩))
theorem call_ne_other {X Y : String} (hX : ∀ s' : Shared, s'.TypeIs (.type X) "type") (hne : (Value.type X == Value.type Y) = false) (h : Q .notImplemented s) : wpAny (model prog w) A (call (.builtin "object.__ne__") [.type X, .type Y]) Q E s := by
  refine wpAny_call_entry slot_type_ne (hX s) F.entry_object_ne ?_ (F.args_object_ne_2 _ _)
  unfold Builtin.«object.__ne__»
  refine wpAny_bind (wpAny_pure ?_)
  refine wpAny_bind (wpAny_cRoomFor_or (.inl rfl) ?_)
  refine wpAny_bind (wpAny_callSpecialIfBound?_slot (hX s) slot_type_eqn (call_gives slot_type_eqn (hX s) F.entry_object_eq (F.args_object_eq_2 _ _) (TypeEq.object_eq_other rfl hne) ?_))
  exact wpAny_pure ⟨_, rfl, h⟩
theorem ne_type_same {X : String} (hX : ∀ s' : Shared, s'.TypeIs (.type X) "type") (h : Q (.bool false) s) : wpAny (model prog w) A (compareOp .NotEq (.type X) (.type X)) Q E s := by
  show wpAny _ A (richCompare .NotEq _ _) Q E s
  exact wpAny_richCompare_same (T := "type") (hX s) (hX s) slot_type_ne (call_ne_same hX ⟨(by intro e; cases e), h⟩)
theorem ne_type_other {X Y : String} (hX : ∀ s' : Shared, s'.TypeIs (.type X) "type") (hY : ∀ s' : Shared, s'.TypeIs (.type Y) "type") (hne : (Value.type X == Value.type Y) = false) (h : Q (.bool true) s) : wpAny (model prog w) A (compareOp .NotEq (.type X) (.type Y)) Q E s := by
  have hne' : (Value.type Y == Value.type X) = false := by
    rw [Bool.eq_false_iff] at hne ⊢
    intro e
    exact hne (by rw [beq_iff_eq] at e ⊢; exact e.symm)
  show wpAny _ A (richCompare .NotEq _ _) Q E s
  exact rc_ne_same_decline (T := "type") (k := false) hX hY slot_type_ne slot_type_ne_refl rfl (by rw [isSame_plain rfl, hne])
    (call_ne_other hX hne ⟨rfl, call_ne_other hY hne' ⟨rfl, h⟩⟩)
end
end TY
set_option Elab.async false
set_option linter.all false
set_option maxRecDepth 100000
set_option maxHeartbeats 4000000
/-! Data: types, isinstance, zip(*xss). -/
namespace DL
open PySem PySem.Spec PyProof.Rows L2 Evl
set_option autoImplicit false
variable [Kn]
abbrev TN : List String := ["NoneType", "bool", "int", "str", "list", "tuple", "dict"]
def tyName : PyData → String
  | .none => "NoneType"
  | .bool _ => "bool"
  | .int _ => "int"
  | .str _ => "str"
  | .list _ => "list"
  | .tuple _ => "tuple"
  | .dict _ => "dict"
theorem tyName_in (d : PyData) : tyName d ∈ TN := by
  cases d <;> simp [tyName, TN]
theorem meta_in {T : String} (h : T ∈ TN) : ∀ s' : Shared, s'.TypeIs (.type T) "type" := by
  simp only [TN, List.mem_cons, List.not_mem_nil, or_false] at h
  rcases h with rfl | rfl | rfl | rfl | rfl | rfl | rfl
  · exact PySem.TypeEq.meta_NoneType
  · exact PySem.TypeEq.meta_bool
  · exact PySem.TypeEq.meta_int
  · exact PySem.TypeEq.meta_str
  · exact PySem.TypeEq.meta_list
  · exact PySem.TypeEq.meta_tuple
  · exact PySem.TypeEq.meta_dict
/-- the type of a value of plain data -/
inductive TyD (H : Hp) : V → String → Prop
  | non : TyD H .non "NoneType"
  | bl (b : Bool) : TyD H (.bl b) "bool"
  | int (i : Int) : TyD H (.int i) "int"
  | str (x : Str) : TyD H (.str x) "str"
  | lst {a : Addr} {xs : List V} (e : SqL KK H a xs) : TyD H (.ref a) "list"
  | tup {a : Addr} {xs : List V} (e : Rd H a (.tup xs)) : TyD H (.ref a) "tuple"
  | dct {a : Addr} {kvs : List (Key × V)} (e : H a = some (.dK kvs)) : TyD H (.ref a) "dict"
section
variable {X : Cx}
theorem TyD.is {pins : List (Addr × Obj)} {σ : St} {H : Hp} {s : Shared} {x : V} {u : Value} {T : String} (t : TyD H x T) (hK : X.K = KK) (I : Inv X pins σ H s) (r : RelV x u) :
    s.TypeIs u T ∧ (Value.type T == Value.type "builtin_function_or_method") = false := by
  cases t with
  | non =>
    cases r
    exact ⟨rfl, by decide +kernel⟩
  | bl b =>
    cases r
    exact ⟨rfl, by decide +kernel⟩
  | int i =>
    obtain ⟨k, rfl⟩ := r
    exact ⟨typeIs_int s i k, by decide +kernel⟩
  | str z =>
    obtain ⟨k, rfl⟩ := r
    exact ⟨typeIs_str s z k, by decide +kernel⟩
  | lst e =>
    cases r
    rw [← hK] at e
    obtain ⟨its, rv, p, _⟩ := I.list e
    exact ⟨p.isList.typeIs, by decide +kernel⟩
  | tup e =>
    cases r
    obtain ⟨its, rv, p, _⟩ := I.tuple (.inl e)
    exact ⟨p.typeIs, by decide +kernel⟩
  | dct e =>
    cases r
    obtain ⟨_, _, vs, _, o, es, ep, h1, h2, _⟩ := (show ObjOk X.prog X.w H s.heap _ (.dK _) from I.hok _ _ e)
    exact ⟨⟨o, h1, h2.1⟩, by decide +kernel⟩
def rTyD : List V → Hp → VK → Prop := fun xs H Q => ∃ (x : V) (T : String), xs = [x] ∧ TyD H x T ∧ Q (.ty T) H
theorem call_typeD (hK : X.K = KK := by rfl) : CallR X (.type "type") rTyD := by
  intro pins s σ H xs us Q I r h
  obtain ⟨x, T, rfl, t, q⟩ := h
  obtain ⟨u, rfl, rx⟩ := vals1 r
  obtain ⟨h1, h2⟩ := t.is hK I rx
  exact call_type_of h1 h2 ⟨.ty T, H, I, rfl, q⟩
def rEqTy : R2 := fun x y H Q => ∃ a b, x = .ty a ∧ y = .ty b ∧ a ∈ TN ∧ b ∈ TN ∧ Q (.bl (decide (a = b))) H
def rNeTy : R2 := fun x y H Q => ∃ a b, x = .ty a ∧ y = .ty b ∧ a ∈ TN ∧ b ∈ TN ∧ Q (.bl (!decide (a = b))) H
theorem op_eqTy : OpR X (compareOp .Eq) rEqTy := by
  intro pins s σ H x y v u Q I rx ry h
  obtain ⟨a, b, rfl, rfl, ha, hb, q⟩ := h
  cases rx
  cases ry
  by_cases e : a = b
  · subst e
    rw [decide_eq_true rfl] at q
    exact PySem.TypeEq.eq_type_same (meta_in ha) ⟨.bl true, H, I, rfl, q⟩
  · rw [decide_eq_false e] at q
    exact PySem.TypeEq.eq_type_other (meta_in ha) (meta_in hb) (by simp [e]) ⟨.bl false, H, I, rfl, q⟩
theorem op_neTy : OpR X (compareOp .NotEq) rNeTy := by
  intro pins s σ H x y v u Q I rx ry h
  obtain ⟨a, b, rfl, rfl, ha, hb, q⟩ := h
  cases rx
  cases ry
  by_cases e : a = b
  · subst e
    rw [decide_eq_true rfl] at q
    exact TY.ne_type_same (meta_in ha) ⟨.bl false, H, I, rfl, q⟩
  · rw [decide_eq_false e] at q
    exact TY.ne_type_other (meta_in ha) (meta_in hb) (by simp [e]) ⟨.bl true, H, I, rfl, q⟩
end
theorem Rp.ty {N : Hp} {v : V} {d : PyData} (r : Rp N v d) : TyD N v (tyName d) := by
  cases r with
  | non => exact .non
  | bl b => exact .bl b
  | int i => exact .int i
  | str x => exact .str x
  | lst h _ => exact .lst h
  | tup h _ => exact .tup h
  | dct h _ => exact .dct h
theorem TyD.mono {N H : Hp} (e : Ex N H) {v : V} {T : String} (t : TyD N v T) : TyD H v T := by
  cases t with
  | non => exact .non
  | bl b => exact .bl b
  | int i => exact .int i
  | str x => exact .str x
  | lst h => exact .lst (ex_l e h)
  | tup h => exact .tup (ex_rd e h)
  | dct h => exact .dct (e _ _ h)
theorem TyD.tyX {H : Hp} {v : V} {T : String} (t : TyD H v T) : TyX KK H v (.type T) := by
  cases t with
  | non => exact .base .non
  | bl b => exact .base (.bl b)
  | int i => exact .base (.int i)
  | str x => exact .base (.str x)
  | lst h =>
    rcases h with (h | ⟨o, h⟩) | ⟨o, its, n, h, c, _⟩
    · exact .base (.lst h)
    · exact .base (.frz h)
    · exact .kList h c
  | tup h =>
    rcases h with h | ⟨o, h⟩
    · exact .base (.tup h)
    · exact .fTuple h
  | dct h => exact .base (.dK h)
section
variable {ds : De} {te ta : TE} {d : PyData} {T : String}
/-- type(x) == T, type(x) != T -/
theorem ev_tyEq (h : EvE te ds d) (hT : T ∈ TN) : EvE (tOp rEqTy (tCB rTyD (tCons te tNil)) (tC (.ty T))) ds (.bool (decide (tyName d = T))) := fun σ N hs H eN Q q =>
  h σ N hs H eN _ fun v H1 N1 e1 n1 k1 g1 r1 => ⟨v, tyName d, rfl, r1.ty.mono k1, tyName d, T, rfl, rfl, tyName_in d, hT, q _ H1 N1 e1 n1 k1 g1 (.bl _)⟩
theorem ev_tyNe (h : EvE te ds d) (hT : T ∈ TN) : EvE (tOp rNeTy (tCB rTyD (tCons te tNil)) (tC (.ty T))) ds (.bool (!decide (tyName d = T))) := fun σ N hs H eN Q q =>
  h σ N hs H eN _ fun v H1 N1 e1 n1 k1 g1 r1 => ⟨v, tyName d, rfl, r1.ty.mono k1, tyName d, T, rfl, rfl, tyName_in d, hT, q _ H1 N1 e1 n1 k1 g1 (.bl _)⟩
/-- isinstance(x, T) -/
def isT (T : String) (d : PyData) : Bool := decide (tyName d = T) || (decide (T = "int") && decide (tyName d = "bool"))
theorem kit_all : ∀ a ∈ TN, ∀ T ∈ TN, PySem.W.kitOne KK (.type a) (.type T) = some (decide (a = T) || (decide (T = "int") && decide (a = "bool"))) := by
  intro a ha T hT
  simp only [TN, List.mem_cons, List.not_mem_nil, or_false] at ha hT
  rcases ha with rfl | rfl | rfl | rfl | rfl | rfl | rfl <;> rcases hT with rfl | rfl | rfl | rfl | rfl | rfl | rfl <;> exact kit_ty (by decide +kernel)
theorem ev_isi (h : EvE te ds d) (hT : T ∈ TN) : EvE (tCB (rIsi KK) (tCons te (tCons (tC (.ty T)) tNil))) ds (.bool (isT T d)) := fun σ N hs H eN Q q =>
  h σ N hs H eN _ fun v H1 N1 e1 n1 k1 g1 r1 => ⟨v, .ty T, .type (tyName d), .type T, isT T d, rfl, .ty T, (r1.ty.mono k1).tyX, kit_all _ (tyName_in d) _ hT, q _ H1 N1 e1 n1 k1 g1 (.bl _)⟩
end

/-! ### zip(*xss) -/
section
variable {X : Cx}
theorem pi_zipS {e : Expr} {te : TE} {x : Str} {p p2 pos tp : Pos} (hg : Gl X "zip") (hm : X.mg "zip" = none) (he : PE X e te) (hst : starEach [.Starred e p2] X.env = [(true, eval e X.env)] := by rfl) :
    PI X (.Name x tp) (.Call (.Name "zip" p) [.Starred e p2] [] pos) (ZS.iZipS X.K te) := by
  refine ⟨fun pins s σ H R I h => ?_⟩
  refine Call_ (ld_blt I hg hm PyProof.Rows.boot_zip (ZS.callWith_typeStar (thn (he.run pins s σ H _ I h) fun v s1 ⟨y, H1, I1, ry, a, ls, ey, hx, h0, h8, hl, q⟩ => ?_) hst))
  subst ey
  obtain rfl : v = Value.ref a := ry
  refine StX.star_any I1 hx fun us s2 I2 rv => ?_
  have eu := ZS.refs_of rv
  subst eu
  have hls : ∀ l ∈ ls, l < s2.heap.objs.size := fun l hm => by
    obtain ⟨xs, hq⟩ := hl l hm
    obtain ⟨its, _, p, _⟩ := I2.list hq
    exact p.lt
  refine ZS.call_zip h0 h8 (fun l hm => ?_) fun h' S hsz hk => ?_
  · obtain ⟨xs, hq⟩ := hl l hm
    obtain ⟨its, _, p, _⟩ := I2.list hq
    exact ⟨_, p.isList⟩
  obtain ⟨f0, f1, _, hz⟩ := id S.z
  refine ZS.pyIter_z hz ?_
  have I3 : Inv X pins σ H1 { s2 with heap := h' } := I2.kept (t' := s2.toks) hk
  have hi0 : 0 < (ZS.itsOf s2.heap ls).length := by simpa using h0
  have hi8 : (ZS.itsOf s2.heap ls).length ≤ 8 := by simpa using h8
  refine ⟨_, _, _, _, H1, rfl, I3, ZS.turn_z (ZS.apart_new s2.heap ls hls) hi0 hi8, S, fun b hb => ?_, q⟩
  have hle : s2.heap.objs.size ≤ b := by
    rcases List.mem_cons.mp hb with z | hb
    · rw [z]
      exact Nat.le_trans (Nat.le_add_right _ _) (Nat.le_add_right _ _)
    · rcases List.mem_cons.mp hb with z | hb
      · rw [z]
        exact Nat.le_add_right _ _
      · rcases List.mem_cons.mp hb with z | hb
        · rw [z]
          exact Nat.le_trans (Nat.le_add_right _ _) (Nat.le_add_right _ _)
        · exact (List.mem_range'_1.mp hb).1
  exact I2.fpOk hle (I2.hok.fresh hle)
end
section
variable {N H H1 N1 : Hp} {D : Addr} {es : List PyData} {H' : Hp}
theorem Cq.more {N2 : Hp} (p : Cq N H H1 N1 D es H') (k : Ex N2 H') (hD : N2 D = none) (g : Reg N H N2) (n : Ex N1 N2) : Cq N H H1 N2 D es H' := by
  obtain ⟨acc, Nk, a, b, c, d, f, g0, r⟩ := p.ex
  refine ⟨acc, HU Nk N2, a, b, hu_r d k, hu_in d k, ?_, fun x hx => (hu_reg hx).elim (g0 x) (g x), r.mono (hu_l _ _)⟩
  unfold HU
  rw [f]
  exact hD
theorem Cq.less {N2 : Hp} (p : Cq N H H1 N2 D es H') (n : Ex N1 N2) : Cq N H H1 N1 D es H' := by
  obtain ⟨acc, Nk, a, b, c, d, f, g0, r⟩ := p.ex
  exact ⟨acc, Nk, a, b, n.trans c, d, f, g0, r⟩
end
theorem rp_lists {N : Hp} : ∀ {vs : List V} {rows : List (List PyData)}, RpAll N vs (rows.map PyData.list) → ∃ (ls : List Addr) (xss : List (List V)), vs = ls.map V.ref ∧ ls.length = rows.length ∧ xss.length = rows.length ∧
    (∀ (k : Nat) (l : Addr) (xs : List V) (r : List PyData), ls[k]? = some l → xss[k]? = some xs → rows[k]? = some r → SqL KK N l xs ∧ RpAll N xs r)
  | _, [], .nil => ⟨[], [], rfl, rfl, rfl, fun k l xs r e => by simp at e⟩
  | _, r :: rows, .cons h t => by
    cases h with
    | @lst a xs _ hr hall =>
      obtain ⟨ls, xss, e1, e2, e3, h⟩ := rp_lists t
      refine ⟨a :: ls, xs :: xss, by rw [e1]; rfl, by simp [e2], by simp [e3], fun k l xs' r' h1 h2 h3 => ?_⟩
      cases k with
      | zero =>
        have q1 : a = l := by simpa using h1
        have q2 : xs = xs' := by simpa using h2
        have q3 : r = r' := by simpa using h3
        subst q1 q2 q3
        exact ⟨hr, hall⟩
      | succ k => exact h k l xs' r' (by simpa using h1) (by simpa using h2) (by simpa using h3)
theorem rp_col {N : Hp} : ∀ (vs : List V) (c : List PyData), vs.length = c.length → (∀ (k : Nat) (v : V) (d : PyData), vs[k]? = some v → c[k]? = some d → Rp N v d) → RpAll N vs c
  | [], [], _, _ => .nil
  | v :: vs, d :: c, hl, h => .cons (h 0 v d rfl rfl) (rp_col vs c (by simpa using hl) fun k v' d' e1 e2 => h (k + 1) v' d' (by simpa using e1) (by simpa using e2))
  | [], _ :: _, hl, _ => by simp at hl
  | _ :: _, [], hl, _ => by simp at hl
section
variable {ds : De} {tl te : TE} {j : Nat}
/-- [f column for column in zip(*rows)] -/
theorem ev_lcZ {rows : List (List PyData)} {m : Nat} {cols : Nat → List PyData} {f : Nat → PyData} (h : EvE tl ds (.list (rows.map PyData.list))) (h0 : 0 < rows.length) (h8 : rows.length ≤ 8) (hm : ∀ r ∈ rows, r.length = m) (hz : m < 100000)
    (hc : ∀ i, i < m → (cols i).length = rows.length ∧ ∀ (k : Nat) (r : List PyData), rows[k]? = some r → (cols i)[k]? = r[i]?)
    (he : ∀ i, i < m → EvE te ((wipeD ds [j]).set j (some (.tuple (cols i)))) (f i)) :
    EvE (tLc (ZS.iZipS KK tl) (gName j) tYes te [j]) ds (.list ((List.range m).map f)) := fun σ N hs H eN Q q =>
  h σ N hs H eN _ fun v H1 N1 e1 n1 k1 g1 r1 => by
    cases r1 with
    | @lst a vs _ hr hall =>
      obtain ⟨ls, xss, ev, el1, el2, hrow⟩ := rp_lists hall
      subst ev
      have hrd : ∀ (k : Nat) (l : Addr), ls[k]? = some l → ∃ xs r, rows[k]? = some r ∧ SqL KK N1 l xs ∧ RpAll N1 xs r := fun k l hk => by
        have hk2 : k < rows.length := by
          rw [← el1]
          exact (List.getElem?_eq_some_iff.mp hk).1
        have hx : xss[k]? = some (xss[k]'(by omega)) := List.getElem?_eq_getElem _
        have hy : rows[k]? = some rows[k] := List.getElem?_eq_getElem hk2
        obtain ⟨p1, p2⟩ := hrow k l _ _ hk hx hy
        exact ⟨_, _, hy, p1, p2⟩
      refine ⟨a, ls, rfl, .inr (ex_l k1 hr), by omega, by omega, fun l hl => ?_, fun D hD => ?_⟩
      · obtain ⟨k, hk⟩ := List.mem_iff_getElem?.mp hl
        obtain ⟨xs, r, _, p1, _⟩ := hrd k l hk
        exact ⟨xs, ex_l k1 p1⟩
      refine ⟨fun i mm H' => mm = m - i ∧ i ≤ m ∧ Cq N H H1 N1 D ((List.range i).map f) H', ⟨m, by simp, Nat.zero_le _, Cq.start e1 k1 g1 hD⟩, ?_⟩
      rintro i mm H' ⟨rfl, hi, c⟩
      have sq : ∀ (k : Nat) (l : Addr), ls[k]? = some l → ∃ xs r, rows[k]? = some r ∧ SqL KK H' l xs ∧ RpAll N1 xs r := fun k l hk => by
        obtain ⟨xs, r, p0, p1, p2⟩ := hrd k l hk
        exact ⟨xs, r, p0, ex_l c.known p1, p2⟩
      by_cases hlt : i < m
      · refine .inr ⟨?_, fun H'' => Cq N H H1 N1 D ((List.range (i + 1)).map f) H'', fun H'' c' => ⟨m - (i + 1), by omega, rfl, hlt, c'⟩, fun x H'' y => ?_⟩
        · have hp : ∀ (k : Nat) (l : Addr), ls[k]? = some l → ∃ v : V, ∃ xs, SqL KK H' l xs ∧ xs[i]? = some v := fun k l hk => by
            obtain ⟨xs, r, p0, p1, p2⟩ := sq k l hk
            have hx : i < xs.length := by
              rw [p2.length, hm r (List.mem_of_getElem? p0)]
              exact hlt
            exact ⟨xs[i], xs, p1, List.getElem?_eq_getElem hx⟩
          obtain ⟨vs, hv1, hv2⟩ := ZS.pick (R := fun l v => ∃ xs, SqL KK H' l xs ∧ xs[i]? = some v) _ ls rfl hp
          exact ⟨vs, hv1, fun k l v a b => hv2 k l v a b⟩
        · obtain ⟨T, vs, rfl, hT, rfl, hvl, hv⟩ := y
          obtain ⟨hcl, hck⟩ := hc i hlt
          have rcol : RpAll N1 vs (cols i) := rp_col vs (cols i) (by rw [hvl, hcl, el1]) fun k v d e2 e3 => by
            have hk2 : k < ls.length := by
              rw [← hvl]
              exact (List.getElem?_eq_some_iff.mp e2).1
            obtain ⟨xs, r, p0, p1, p2⟩ := sq k ls[k] (List.getElem?_eq_getElem hk2)
            have e4 := hv k ls[k] v (List.getElem?_eq_getElem hk2) e2 xs p1
            rw [hck k r p0] at e3
            obtain ⟨v', e5, rv⟩ := p2.get e3
            rw [e4] at e5
            cases e5
            exact rv
          have hT1 : H1 T = none := ex_none c.old hT
          have hN1 : N1 T = none := ex_none k1 hT1
          have c2 : Cq N H H1 (upd N1 T (.tup vs)) D ((List.range i).map f) (upd H' T (.tup vs)) := by
            refine (c.on (Ex.new hT)).more (N2 := upd N1 T (.tup vs)) (fun b o hb => ?_) ?_ (fun b hb => ?_) (Ex.new hN1)
            · by_cases z : b = T
              · subst z
                rw [upd_same] at hb ⊢
                exact hb
              · rw [upd_ne z] at hb ⊢
                exact c.known b o hb
            · obtain ⟨acc, Nk, _, b2, _⟩ := c.ex
              have z : D ≠ T := ne_of_none b2 hT
              rw [upd_ne z]
              exact ex_none k1 hD
            · by_cases z : b = T
              · subst z
                exact .inr (ex_none e1 hT1)
              · rw [upd_ne z] at hb
                exact g1 b hb
          refine ⟨wipe1 σ j _, cq_turn (b := true) (d := f i) (ds := (wipeD ds [j]).set j (some (.tuple (cols i)))) c2 e1 hD (by rw [List.length_map, List.length_range]; omega)
            (((hs.mono (n1.trans (Ex.new hN1))).wipe [j]).set (.tup (.inl upd_same) (rcol.mono (Ex.new hN1))) j) eb_yes (fun _ => he i hlt) (fun _ H3 c3 => ?_) (fun z => by cases z)⟩
          rw [List.range_succ, List.map_append]
          exact c3.less (Ex.new hN1)
      · have e : i = m := by omega
        subst e
        have hl0 : 0 < ls.length := by omega
        obtain ⟨xs, r, p0, p1, p2⟩ := sq 0 ls[0] (List.getElem?_eq_getElem hl0)
        refine .inl ⟨⟨ls[0], xs, List.getElem?_eq_getElem hl0, p1, by rw [p2.length, hm r (List.mem_of_getElem? p0)]; exact Nat.le_refl _⟩, c.fin e1 n1 hD q⟩
end
end DL
set_option Elab.async false
set_option linter.all false
set_option maxRecDepth 100000
set_option maxHeartbeats 4000000
/-! Data that is new: trees of new lists and tuples, each at its own address; list + list, slices; an item stored. -/
namespace DL
open PySem PySem.Spec PyProof.Rows L2 Evl
set_option autoImplicit false
variable [Kn]

/-! ### list + list, slices, of lists that are read -/
def rCatR (K : PySem.W.Frag) : R2 := fun x y H Q => ∃ l b xs zs, x = .ref l ∧ y = .ref b ∧ SqL K H l xs ∧ SqL K H b zs ∧ xs.length + zs.length ≤ sizeLine ∧ ∀ p, H p = none → Q (.ref p) (upd H p (.lst (xs ++ zs)))
theorem add_any {prog : Program} {w : World} {A : Around} {E : Value → Shared → Prop} {s : Shared} {l b : Addr} {vs ws : List Value} {Q : Value → Shared → Prop} (hl : s.heap.IsList l vs.toArray) (hb : s.heap.IsList b ws.toArray)
    (h : Q (.ref s.heap.objs.size) { s with heap := s.heap.push { cls := .type "list", data := .seq (vs ++ ws).toArray } }) (hsz : vs.length + ws.length ≤ sizeLine) :
    wpAny (model prog w) A (binaryOp .Add (.ref l) (.ref b)) Q E s := by
  obtain ⟨⟨cls, dd, data, sl⟩, ho, hc, n, hd⟩ := id hl
  obtain ⟨⟨cls2, dd2, data2, sl2⟩, ho2, hc2, n2, hd2⟩ := id hb
  simp only at hc hd hc2 hd2
  subst hc hd hc2 hd2
  have e : vs.toArray ++ ws.toArray = (vs ++ ws).toArray := by simp
  refine concat_meets ⟨_, ho, rfl⟩ ⟨_, ho2, rfl⟩ noFill_list_add seq_list_add PySem.F.slot_list_add PySem.F.entry_list_add (PySem.F.args_list_add_2 _ _) (list_addW l b vs.toArray ws.toArray n n2 dd dd2 sl sl2 (by simpa using hsz)) ⟨ho, ho2, ?_⟩
  rw [e]
  exact h
theorem k_cat {X : Cx} {K : PySem.W.Frag} (hK : X.K = K := by rfl) : OpR X (binaryOp .Add) (rCatR K) := by
  subst hK
  intro pins s σ H x y v u Q I rx ry h
  obtain ⟨l, b, xs, zs, rfl, rfl, hH, hB, hz, q⟩ := h
  cases rx
  cases ry
  obtain ⟨its, r, p, _⟩ := I.list hH
  obtain ⟨its2, r2, p2, _⟩ := I.list hB
  have hl := r.length
  have hl2 := r2.length
  refine add_any p.isList p2.isList ?_ (by omega)
  exact ⟨.ref _, _, I.lnew (t' := s.toks) (r.append r2) (by rw [List.length_append]; omega), rfl, q _ I.fresh⟩

/-! ### trees -/
mutual
inductive RpT (H : Hp) : V → PyData → List Addr → Prop
  | non : RpT H .non .none []
  | bl (b : Bool) : RpT H (.bl b) (.bool b) []
  | int (i : Int) : RpT H (.int i) (.int i) []
  | str (x : Str) : RpT H (.str x) (.str x) []
  | lst {a : Addr} {xs : List V} {ds : List PyData} {S : List Addr} : H a = some (.lst xs) → RpTs H xs ds S → RpT H (.ref a) (.list ds) (a :: S)
  | tup {a : Addr} {xs : List V} {ds : List PyData} {S : List Addr} : H a = some (.tup xs) → RpTs H xs ds S → RpT H (.ref a) (.tuple ds) (a :: S)
inductive RpTs (H : Hp) : List V → List PyData → List Addr → Prop
  | nil : RpTs H [] [] []
  | cons {v : V} {vs : List V} {d : PyData} {ds : List PyData} {S S' : List Addr} : RpT H v d S → RpTs H vs ds S' → RpTs H (v :: vs) (d :: ds) (S ++ S')
end
/-! two heaps that agree at S -/
mutual
theorem RpT.agree {H H' : Hp} : ∀ {v : V} {d : PyData} {S : List Addr}, RpT H v d S → (∀ a ∈ S, H' a = H a) → RpT H' v d S
  | _, _, _, .non, _ => .non
  | _, _, _, .bl b, _ => .bl b
  | _, _, _, .int i, _ => .int i
  | _, _, _, .str x, _ => .str x
  | _, _, _, .lst h r, e => .lst (by rw [e _ List.mem_cons_self]; exact h) (RpTs.agree r fun a ha => e a (List.mem_cons_of_mem _ ha))
  | _, _, _, .tup h r, e => .tup (by rw [e _ List.mem_cons_self]; exact h) (RpTs.agree r fun a ha => e a (List.mem_cons_of_mem _ ha))
theorem RpTs.agree {H H' : Hp} : ∀ {vs : List V} {ds : List PyData} {S : List Addr}, RpTs H vs ds S → (∀ a ∈ S, H' a = H a) → RpTs H' vs ds S
  | _, _, _, .nil, _ => .nil
  | _, _, _, .cons h r, e => .cons (RpT.agree h fun a ha => e a (List.mem_append_left _ ha)) (RpTs.agree r fun a ha => e a (List.mem_append_right _ ha))
end
mutual
theorem RpT.there {H : Hp} : ∀ {v : V} {d : PyData} {S : List Addr}, RpT H v d S → ∀ a ∈ S, H a ≠ none
  | _, _, _, .lst h r, a, ha => (List.mem_cons.mp ha).elim (fun e => by rw [e, h]; intro z; cases z) fun q => RpTs.there r a q
  | _, _, _, .tup h r, a, ha => (List.mem_cons.mp ha).elim (fun e => by rw [e, h]; intro z; cases z) fun q => RpTs.there r a q
theorem RpTs.there {H : Hp} : ∀ {vs : List V} {ds : List PyData} {S : List Addr}, RpTs H vs ds S → ∀ a ∈ S, H a ≠ none
  | _, _, _, .cons h r, a, ha => (List.mem_append.mp ha).elim (fun q => RpT.there h a q) fun q => RpTs.there r a q
end
theorem RpT.mono {H H' : Hp} {v : V} {d : PyData} {S : List Addr} (r : RpT H v d S) (e : Ex H H') : RpT H' v d S := r.agree fun a ha => by
  cases h : H a with
  | none => exact absurd h (r.there a ha)
  | some o => exact e a o h
theorem RpTs.mono {H H' : Hp} {vs : List V} {ds : List PyData} {S : List Addr} (r : RpTs H vs ds S) (e : Ex H H') : RpTs H' vs ds S := r.agree fun a ha => by
  cases h : H a with
  | none => exact absurd h (r.there a ha)
  | some o => exact e a o h
/-- the part of H at S -/
def only (H : Hp) (S : List Addr) : Hp := fun a => if a ∈ S then H a else none
theorem only_in {H : Hp} {S : List Addr} {a : Addr} (h : a ∈ S) : only H S a = H a := by
  unfold only
  rw [if_pos h]
theorem only_out {H : Hp} {S : List Addr} {a : Addr} (h : a ∉ S) : only H S a = none := by
  unfold only
  rw [if_neg h]
theorem only_ex (H : Hp) (S : List Addr) : Ex (only H S) H := fun a o e => by
  by_cases h : a ∈ S
  · rw [only_in h] at e
    exact e
  · rw [only_out h] at e
    cases e
mutual
theorem RpT.rp {H : Hp} : ∀ {v : V} {d : PyData} {S : List Addr}, RpT H v d S → Rp H v d
  | _, _, _, .non => .non
  | _, _, _, .bl b => .bl b
  | _, _, _, .int i => .int i
  | _, _, _, .str x => .str x
  | _, _, _, .lst h r => .lst (sq_of h) (RpTs.rp r)
  | _, _, _, .tup h r => .tup (.inl h) (RpTs.rp r)
theorem RpTs.rp {H : Hp} : ∀ {vs : List V} {ds : List PyData} {S : List Addr}, RpTs H vs ds S → RpAll H vs ds
  | _, _, _, .nil => .nil
  | _, _, _, .cons h r => .cons (RpT.rp h) (RpTs.rp r)
end
theorem RpT.rpOnly {H : Hp} {v : V} {d : PyData} {S : List Addr} (r : RpT H v d S) : Rp (only H S) v d := (r.agree (H' := only H S) fun a ha => only_in ha).rp
theorem RpTs.length {H : Hp} : ∀ {vs : List V} {ds : List PyData} {S : List Addr}, RpTs H vs ds S → vs.length = ds.length
  | _, _, _, .nil => rfl
  | _, _, _, .cons _ r => by
    show _ + 1 = _ + 1
    rw [RpTs.length r]
theorem RpTs.snoc {H : Hp} : ∀ {vs : List V} {ds : List PyData} {S S' : List Addr} {v : V} {d : PyData}, RpTs H vs ds S → RpT H v d S' → RpTs H (vs ++ [v]) (ds ++ [d]) (S ++ S')
  | _, _, _, S', _, _, .nil, h => by
    have q := RpTs.cons h .nil
    rw [List.append_nil] at q
    exact q
  | _, _, _, _, _, _, .cons g r, h => by
    rw [List.append_assoc]
    exact .cons g (RpTs.snoc r h)
theorem RpTs.ints {H : Hp} : ∀ ns : List Int, RpTs H (ns.map V.int) (ns.map PyData.int) []
  | [] => .nil
  | n :: r => .cons (S := []) (.int n) (RpTs.ints r)
theorem RpTs.ofInts {H : Hp} : ∀ {vs : List V} {ns : List Int} {S : List Addr}, RpTs H vs (ns.map PyData.int) S → vs = ns.map V.int ∧ S = []
  | _, [], _, .nil => ⟨rfl, rfl⟩
  | _, n :: r, _, .cons h t => by
    cases h
    obtain ⟨e1, e2⟩ := RpTs.ofInts t
    rw [e1, e2]
    exact ⟨rfl, rfl⟩
/-- what is known grows by a tree -/
theorem absorb {N H' : Hp} {v : V} {d : PyData} {S : List Addr} (n : Ex N H') (r : RpT H' v d S) : Ex N (HU N (only H' S)) ∧ Ex (HU N (only H' S)) H' ∧ Rp (HU N (only H' S)) v d :=
  ⟨hu_l _ _, hu_in n (only_ex _ _), r.rpOnly.mono (hu_r n (only_ex _ _))⟩

/-! ### te comes to a new tree -/
def EvN (te : TE) (ds : De) (d : PyData) : Prop := ∀ σ N, Holds N σ ds → ∀ H, Ex N H → ∀ Q : VK, (∀ v H' S, Ex H H' → RpT H' v d S → S.Nodup → (∀ a ∈ S, H a = none) → Q v H') → te σ H Q
def EvNs (ta : TA) (ds : De) (es : List PyData) : Prop := ∀ σ N, Holds N σ ds → ∀ H, Ex N H → ∀ Q : List V → Hp → Prop, (∀ vs H' S, Ex H H' → RpTs H' vs es S → S.Nodup → (∀ a ∈ S, H a = none) → Q vs H') → ta σ H Q
section
variable {ds : De} {te : TE} {ta : TA} {d : PyData} {es : List PyData} {j : Nat}
theorem ev_n (h : EvN te ds d) : EvE te ds d := fun σ N hs H eN Q q => h σ N hs H eN _ fun v H' S e r _ hn => by
  obtain ⟨a1, a2, a3⟩ := absorb (eN.trans e) r
  exact q v H' _ e a1 a2 (fun a ha => (hu_reg ha).elim .inl fun z => .inr (hn a (by
    by_cases w : a ∈ S
    · exact w
    · rw [only_out w] at z
      exact absurd rfl z))) a3
/-- plain: no address -/
def flatD : PyData → Bool
  | .none => true
  | .bool _ => true
  | .int _ => true
  | .str _ => true
  | _ => false
theorem Rp.tree {N H : Hp} {v : V} (r : Rp N v d) (h : flatD d = true) : RpT H v d [] := by
  cases r with
  | non => exact .non
  | bl b => exact .bl b
  | int i => exact .int i
  | str x => exact .str x
  | lst _ _ => cases h
  | tup _ _ => cases h
  | dct _ _ => cases h
theorem en_flat (h : EvE te ds d) (hf : flatD d = true) : EvN te ds d := fun σ N hs H eN Q q => h σ N hs H eN _ fun v H' N' e _ _ _ r => q v H' [] e (r.tree hf) List.nodup_nil (fun _ z => nomatch z)
theorem ens_nil : EvNs tNil ds [] := fun σ N hs H eN Q q => q [] H [] (Ex.refl H) .nil List.nodup_nil (fun _ z => nomatch z)
theorem ens_cons (h : EvN te ds d) (hr : EvNs ta ds es) : EvNs (tCons te ta) ds (d :: es) := fun σ N hs H eN Q q =>
  h σ N hs H eN _ fun v H1 S e1 r1 nd1 f1 => hr σ N hs H1 (eN.trans e1) _ fun vs H2 S' e2 r2 nd2 f2 =>
    q (v :: vs) H2 (S ++ S') (e1.trans e2) (.cons (r1.mono e2) r2) (List.nodup_append.mpr ⟨nd1, nd2, fun a ha b hb z => by
      subst z
      exact r1.there a ha (f2 a hb)⟩) fun a ha => (List.mem_append.mp ha).elim (f1 a) fun z => ex_none e1 (f2 a z)
theorem en_lst (h : EvNs ta ds es) (hl : es.length ≤ 100000) : EvN (tLst ta) ds (.list es) := fun σ N hs H eN Q q =>
  h σ N hs H eN _ fun vs H1 S e1 r1 nd f => ⟨sz_100 (by rw [r1.length]; exact hl), fun p hp => q (.ref p) _ (p :: S) (e1.trans (Ex.new hp)) (.lst upd_same (r1.mono (Ex.new hp)))
    (List.nodup_cons.mpr ⟨fun z => r1.there p z hp, nd⟩) fun a ha => (List.mem_cons.mp ha).elim (fun z => by rw [z]; exact ex_none e1 hp) (f a)⟩
theorem en_tup (h : EvNs ta ds es) (hl : es.length ≤ 100000) : EvN (tTup ta) ds (.tuple es) := fun σ N hs H eN Q q =>
  h σ N hs H eN _ fun vs H1 S e1 r1 nd f => ⟨sz_100 (by rw [r1.length]; exact hl), fun p hp => q (.ref p) _ (p :: S) (e1.trans (Ex.new hp)) (.tup upd_same (r1.mono (Ex.new hp)))
    (List.nodup_cons.mpr ⟨fun z => r1.there p z hp, nd⟩) fun a ha => (List.mem_cons.mp ha).elim (fun z => by rw [z]; exact ex_none e1 hp) (f a)⟩
theorem RpAll.treeInts {N H : Hp} {vs : List V} {ns : List Int} (r : RpAll N vs (ns.map PyData.int)) : RpTs H vs (ns.map PyData.int) [] := by
  rw [r.ofInts]
  exact .ints ns
theorem RpAll.treeFlat {N H : Hp} : ∀ {vs : List V} {es : List PyData}, RpAll N vs es → es.all flatD = true → RpTs H vs es []
  | _, _, .nil, _ => .nil
  | _, _, .cons h r, f => by
    have f' := (Bool.and_eq_true _ _).mp (show (flatD _ && List.all _ flatD) = true from f)
    exact .cons (S := []) (h.tree f'.1) (RpAll.treeFlat r f'.2)
/-- list(xs), the items without addresses -/
theorem en_list_of {ts : List PyData} {tx : TE} (h : EvE tx ds (.list ts)) (hf : ts.all flatD = true) :
    EvN (tCB (fun xs H Q => ∃ (p : Addr) (ys : List V), xs = [.ref p] ∧ (SqL KK H p ys ∨ SqT KK H p ys) ∧ ∀ l, H l = none → Q (.ref l) (upd H l (.lst ys))) (tCons tx tNil)) ds (.list ts) := fun σ N hs H eN Q q =>
  h σ N hs H eN _ fun v H1 N1 e1 n1 k1 g1 r1 => by
    cases r1 with
    | lst hr hall =>
      exact ⟨_, _, rfl, .inl (ex_l k1 hr), fun p hp => q (.ref p) _ [p] (e1.trans (Ex.new hp)) (.lst upd_same (hall.treeFlat hf)) (by simp) fun a ha => by
        rw [List.mem_singleton.mp ha]
        exact ex_none e1 hp⟩
/-- xs + ys -/
theorem en_cat {ta tb : TE} {ts us : List PyData} (ha : EvE ta ds (.list ts)) (hb : EvE tb ds (.list us)) (hf : (ts ++ us).all flatD = true) (hl : ts.length + us.length ≤ 100000) : EvN (tOp (rCatR KK) ta tb) ds (.list (ts ++ us)) := fun σ N hs H eN Q q =>
  ha σ N hs H eN _ fun x H1 N1 e1 n1 k1 g1 r1 => hb σ N1 (hs.mono n1) H1 k1 _ fun y H2 N2 e2 n2 k2 g2 r2 => by
    cases r1 with
    | lst hr hall =>
      cases r2 with
      | lst hr2 hall2 =>
        refine ⟨_, _, _, _, rfl, rfl, ex_l (n2.trans k2) hr, ex_l k2 hr2, sz_100 (by rw [hall.length, hall2.length]; exact hl), fun p hp => ?_⟩
        exact q (.ref p) _ [p] ((e1.trans e2).trans (Ex.new hp)) (.lst upd_same (((hall.mono n2).append hall2).treeFlat hf)) (by simp) fun a ha => by
          rw [List.mem_singleton.mp ha]
          exact ex_none (e1.trans e2) hp
theorem ev_cat {ta tb : TE} {ts us : List PyData} (ha : EvE ta ds (.list ts)) (hb : EvE tb ds (.list us)) (hl : ts.length + us.length ≤ 100000) : EvE (tOp (rCatR KK) ta tb) ds (.list (ts ++ us)) :=
  ev_op ha hb fun x y N H eN rx ry Q q => by
    cases rx with
    | lst hr hall =>
      cases ry with
      | lst hr2 hall2 =>
        refine ⟨_, _, _, _, rfl, rfl, ex_l eN hr, ex_l eN hr2, sz_100 (by rw [hall.length, hall2.length]; exact hl), fun p hp => ?_⟩
        obtain ⟨a1, a2, a3, a4, a5⟩ := laid (o := .lst _) (Ex.refl H) (Ex.refl N) eN Reg.refl hp
        exact q (.ref p) _ _ a1 a2 a3 a4 (.lst (sq_of upd_same) ((hall.append hall2).mono a5))
/-- xs[a:b] -/
def cutD (xs : List PyData) (lo hi : Option Int) : List PyData := (xs.drop (HT.sIx xs.length 0 lo)).take (HT.sIx xs.length xs.length hi - HT.sIx xs.length 0 lo)
theorem RpAll.cut {N : Hp} {vs : List V} {es : List PyData} (r : RpAll N vs es) (lo hi : Option Int) : RpAll N (cutV vs lo hi) (cutD es lo hi) := by
  unfold cutV cutD
  rw [r.length]
  exact (r.drop _).take _
def EvO (to : TO) (ds : De) (o : Option Int) : Prop := ∀ σ N, Holds N σ ds → ∀ H, Ex N H → ∀ Q : Option Int → Hp → Prop, (∀ H', Ex H H' → Q o H') → to σ H Q
theorem eo_non : EvO tNoPart ds none := fun σ N hs H eN Q q => q H (Ex.refl H)
theorem eo_int {i : Int} (h : EvE te ds (.int i)) : EvO (tPart te) ds (some i) := fun σ N hs H eN Q q => h σ N hs H eN _ fun v H' N' e _ _ _ r => by
  cases r
  exact ⟨i, rfl, q H' e⟩
theorem ev_slice {tl th : TO} {ts : List PyData} {lo hi : Option Int} (h : EvE te ds (.list ts)) (h1 : EvO tl ds lo) (h2 : EvO th ds hi) : EvE (tSl (rSlL KK) te tl th) ds (.list (cutD ts lo hi)) := fun σ N hs H eN Q q =>
  h σ N hs H eN _ fun v H1 N1 e1 n1 k1 g1 r1 => h1 σ N hs H1 (eN.trans e1) _ fun H2 e2 => h2 σ N hs H2 ((eN.trans e1).trans e2) _ fun H3 e3 => by
    cases r1 with
    | lst hr hall =>
      refine ⟨_, _, rfl, ex_l ((k1.trans e2).trans e3) hr, fun p hp => ?_⟩
      obtain ⟨a1, a2, a3, a4, a5⟩ := laid (o := .lst _) ((e1.trans e2).trans e3) n1 ((k1.trans e2).trans e3) (fun a ha => (g1 a ha)) hp
      exact q (.ref p) _ _ a1 a2 a3 a4 (.lst (sq_of upd_same) ((hall.cut lo hi).mono a5))
/-- [f x for x in xs], each f x a new tree -/
theorem en_lcL {A : Type} {tl : TE} {xs : List A} {g : A → PyData} {f : A → PyData} (h : EvE tl ds (.list (xs.map g))) (hz : xs.length < 100000)
    (he : ∀ x ∈ xs, EvN te ((wipeD ds [j]).set j (some (g x))) (f x)) : EvN (tLc (iList KK tl) (gName j) tYes te [j]) ds (.list (xs.map f)) := fun σ N hs H eN Q q =>
  h σ N hs H eN _ fun v H1 N1 e1 n1 k1 g1 r1 => by
    cases r1 with
    | @lst a vs _ hr hall =>
      refine ⟨a, rfl, ⟨vs, ex_l k1 hr⟩, fun D hD => ?_⟩
      have hlen : vs.length = xs.length := by rw [hall.length, List.length_map]
      have hND : N1 D = none := ex_none k1 hD
      refine lc_list (xs := vs) (fun i H' => ∃ (acc : List V) (S : List Addr), Ex H1 H' ∧ H' D = some (.lst acc) ∧ RpTs H' acc ((xs.take i).map f) S ∧ (D :: S).Nodup ∧ ∀ a ∈ S, H1 a = none) ⟨[], [], Ex.new hD, upd_same, .nil, by simp, fun _ z => nomatch z⟩ (fun i H' _ c => ?_) (fun i v H' hi c => ?_) (fun H' c => ?_)
      · obtain ⟨acc, S, c1, _⟩ := c
        exact ex_l (k1.trans c1) hr
      · obtain ⟨acc, S, c1, c2, c3, c4, c5⟩ := c
        obtain ⟨d, ed, rv⟩ := hall.getV hi
        rw [List.getElem?_map] at ed
        cases ex : xs[i]? with
        | none =>
          rw [ex] at ed
          cases ed
        | some x =>
          rw [ex] at ed
          have ed' : g x = d := Option.some.inj ed
          subst ed'
          have hm : x ∈ xs := List.mem_of_getElem? ex
          refine ⟨wipe1 σ j v, ?_⟩
          simp only [tYes, if_true]
          refine he x hm _ N1 (((hs.mono n1).wipe [j]).set rv j) H' (k1.trans c1) _ fun y H4 S' e4 r4 nd4 f4 => ?_
          have hDS : D ∉ S' := fun z => by
            have := f4 D z
            rw [c2] at this
            cases this
          refine ⟨acc, e4 _ _ c2, by
            rw [c3.length, List.length_map, List.length_take]
            exact sz_lt (by omega), acc ++ [y], S ++ S', Ex.mut (c1.trans e4) hD, upd_same, ?_, ?_, ?_⟩
          · rw [take_snoc ex, List.map_append]
            have q1 := (c3.mono e4).snoc r4
            refine q1.agree fun b hb => upd_ne fun z => ?_
            subst z
            rcases List.mem_append.mp hb with hb | hb
            · exact (List.nodup_cons.mp c4).1 hb
            · exact hDS hb
          · obtain ⟨p1, p2⟩ := List.nodup_cons.mp c4
            refine List.nodup_cons.mpr ⟨fun z => (List.mem_append.mp z).elim p1 hDS, List.nodup_append.mpr ⟨p2, nd4, fun a ha b hb z => ?_⟩⟩
            subst z
            exact c3.there a ha (f4 a hb)
          · exact fun b hb => (List.mem_append.mp hb).elim (c5 b) fun z => ex_none c1 (f4 b z)
      · obtain ⟨acc, S, c1, c2, c3, c4, c5⟩ := c
        rw [show (xs.take vs.length).map f = xs.map f by rw [hlen, List.take_length]] at c3
        exact q (.ref D) H' (D :: S) (e1.trans c1) (.lst c2 c3) c4 fun b hb => (List.mem_cons.mp hb).elim (fun z => by rw [z]; exact ex_none e1 hD) fun z => ex_none e1 (c5 b z)
end
/-- a promise of a new tree -/
def spN (R : List PyData → PyData → Prop) : Sp := fun vs H Q _ => ∃ (N : Hp) (ds : List PyData) (d : PyData), Ex N H ∧ RpAll N vs ds ∧ R ds d ∧ ∀ v H' S, Ex H H' → RpT H' v d S → S.Nodup → (∀ a ∈ S, H a = none) → Q v H'
section
variable {R : List PyData → PyData → Prop} {E : XK} {ds : De} {ta : TA} {te : TE} {es : List PyData} {d : PyData}
theorem en_call (h : EvAs ta ds es) (hr : R es d) : EvN (tCall (spN R) [] E ta) ds d := fun σ N hs H eN Q q =>
  h σ N hs H eN _ fun vs H1 N1 e1 n1 k1 g1 r1 => ⟨N1, es, d, k1, by rw [List.append_nil]; exact r1, hr, fun v H2 S e2 r2 nd f => q v H2 S (e1.trans e2) r2 nd fun a ha => ex_none e1 (f a ha)⟩
/-- a block that ends with a new tree -/
def EvSn (E : XK) (t : TS) (ds : De) (d : PyData) : Prop := ∀ σ N, Holds N σ ds → ∀ (D : Ends) H, Ex N H → (∀ v H' S, Ex H H' → RpT H' v d S → S.Nodup → (∀ a ∈ S, H a = none) → D.rt v H') → t D σ H
theorem esn_ret (h : EvN te ds d) : EvSn E (tRet te) ds d := fun σ N hs D H eN a => h σ N hs H eN _ a
theorem esn_seq {t u : TS} {ds1 : De} (h1 : EvS E t ds (.nx ds1)) (h2 : EvSn E u ds1 d) : EvSn E (tSeq t u) ds d := fun σ N hs D H eN a =>
  h1 σ N hs { D with nx := u D } H eN fun σ' H' N' e n k g hs' => h2 σ' N' hs' D H' k fun v H2 S e2 r nd f => a v H2 S (e.trans e2) r nd fun b hb => ex_none e (f b hb)
theorem body_retN {t : TS} {names : List Str} {vs : List V} {H : Hp} {Q : VK} (h : spN R vs H Q E) (hb : ∀ es d, R es d → EvSn E t (startD names.length es) d) :
    t { nx := fun _ H' => Q .non H', rt := Q } (L2.start names vs) H := by
  obtain ⟨N, es, d, eN, r, hr, q⟩ := h
  exact hb es d hr (L2.start names vs) N (holds_start r) _ H eN q
theorem lenN_of {n : Nat} (h : ∀ es d, R es d → es.length = n) : ∀ vs H Q E, spN R vs H Q E → vs.length = n := fun vs H Q E ⟨N, es, d, eN, r, hr, q⟩ => by
  rw [r.length]
  exact h es d hr
end
/-- the row r of a new table, and the table with another count there -/
theorem mat_at {H : Hp} {p : Addr} {M : List (List Int)} {S : List Addr} (r : RpT H (.ref p) (.list (M.map fun row => .list (row.map PyData.int))) S) (nd : S.Nodup) : ∃ rs : List Addr, S = p :: rs ∧ H p = some (.lst (rs.map V.ref)) ∧ rs.length = M.length ∧
    ∀ (k : Nat) (q : Addr) (row : List Int), rs[k]? = some q → M[k]? = some row → H q = some (.lst (row.map V.int)) := by
  cases r with
  | lst h rr =>
    have key : ∀ (M : List (List Int)) (xs : List V) (S : List Addr), RpTs H xs (M.map fun row => .list (row.map PyData.int)) S → xs = S.map V.ref ∧ S.length = M.length ∧ ∀ (k : Nat) (q : Addr) (row : List Int), S[k]? = some q → M[k]? = some row → H q = some (.lst (row.map V.int)) := by
      intro M
      induction M with
      | nil =>
        intro xs S r
        cases r
        exact ⟨rfl, rfl, fun k q row e => by simp at e⟩
      | cons row M ih =>
        intro xs S r
        cases r with
        | cons h1 r2 =>
          cases h1 with
          | lst hh ri =>
            obtain ⟨e1, e2⟩ := ri.ofInts
            subst e1 e2
            obtain ⟨i1, i2, i3⟩ := ih _ _ r2
            subst i1
            refine ⟨rfl, by
              show (_ :: ([] ++ _)).length = _
              simp [i2], fun k q row' e1 e2 => ?_⟩
            cases k with
            | zero =>
              have e3 : _ = q := Option.some.inj e1
              have e4 : row = row' := Option.some.inj e2
              subst e3 e4
              exact hh
            | succ k => exact i3 k q row' e1 e2
    obtain ⟨e1, e2, e3⟩ := key M _ _ rr
    subst e1
    exact ⟨_, rfl, h, e2, e3⟩
theorem mat_mk {H : Hp} {p : Addr} {rs : List Addr} : ∀ {M : List (List Int)} {rs : List Addr}, rs.length = M.length → (∀ (k : Nat) (q : Addr) (row : List Int), rs[k]? = some q → M[k]? = some row → H q = some (.lst (row.map V.int))) →
    RpTs H (rs.map V.ref) (M.map fun row => .list (row.map PyData.int)) rs
  | [], [], _, _ => .nil
  | row :: M, q :: rs, hl, h => by
    have q1 : RpT H (.ref q) (.list (row.map PyData.int)) [q] := .lst (h 0 q row rfl rfl) (.ints row)
    exact .cons (S := [q]) q1 (mat_mk (p := p) (rs := rs) (by simpa using hl) fun k a b e1 e2 => h (k + 1) a b (by simpa using e1) (by simpa using e2))
  | [], _ :: _, hl, _ => by simp at hl
  | _ :: _, [], hl, _ => by simp at hl
end DL
set_option Elab.async false
set_option linter.all false
set_option maxRecDepth 100000
set_option maxHeartbeats 4000000
namespace DL
open PySem PySem.Spec PyProof.Rows L2 Evl
set_option autoImplicit false
variable [Kn]
section
variable {ds : De} {tl te : TE} {j : Nat}
/-- [f column for column in zip(*rows)], each f column a new tree -/
theorem en_lcZ {rows : List (List PyData)} {m : Nat} {cols : Nat → List PyData} {f : Nat → PyData} (h : EvE tl ds (.list (rows.map PyData.list))) (h0 : 0 < rows.length) (h8 : rows.length ≤ 8) (hm : ∀ r ∈ rows, r.length = m) (hz : m < 100000)
    (hc : ∀ i, i < m → (cols i).length = rows.length ∧ ∀ (k : Nat) (r : List PyData), rows[k]? = some r → (cols i)[k]? = r[i]?)
    (he : ∀ i, i < m → EvN te ((wipeD ds [j]).set j (some (.tuple (cols i)))) (f i)) :
    EvN (tLc (ZS.iZipS KK tl) (gName j) tYes te [j]) ds (.list ((List.range m).map f)) := fun σ N hs H eN Q q =>
  h σ N hs H eN _ fun v H1 N1 e1 n1 k1 g1 r1 => by
    cases r1 with
    | @lst a vs _ hr hall =>
      obtain ⟨ls, xss, ev, el1, el2, hrow⟩ := rp_lists hall
      subst ev
      have hrd : ∀ (k : Nat) (l : Addr), ls[k]? = some l → ∃ xs r, rows[k]? = some r ∧ SqL KK N1 l xs ∧ RpAll N1 xs r := fun k l hk => by
        have hk2 : k < rows.length := by
          rw [← el1]
          exact (List.getElem?_eq_some_iff.mp hk).1
        have hx : xss[k]? = some (xss[k]'(by omega)) := List.getElem?_eq_getElem _
        have hy : rows[k]? = some rows[k] := List.getElem?_eq_getElem hk2
        obtain ⟨p1, p2⟩ := hrow k l _ _ hk hx hy
        exact ⟨_, _, hy, p1, p2⟩
      refine ⟨a, ls, rfl, .inr (ex_l k1 hr), by omega, by omega, fun l hl => ?_, fun D hD => ?_⟩
      · obtain ⟨k, hk⟩ := List.mem_iff_getElem?.mp hl
        obtain ⟨xs, r, _, p1, _⟩ := hrd k l hk
        exact ⟨xs, ex_l k1 p1⟩
      refine ⟨fun i mm H' => mm = m - i ∧ i ≤ m ∧ ∃ (acc : List V) (S : List Addr), Ex H1 H' ∧ H' D = some (.lst acc) ∧ RpTs H' acc ((List.range i).map f) S ∧ (D :: S).Nodup ∧ ∀ a ∈ S, H1 a = none, ⟨m, by simp, Nat.zero_le _, [], [], Ex.new hD, upd_same, .nil, by simp, fun _ z => nomatch z⟩, ?_⟩
      rintro i mm H' ⟨rfl, hi, acc, S, c1, c2, c3, c4, c5⟩
      have sq : ∀ (k : Nat) (l : Addr), ls[k]? = some l → ∃ xs r, rows[k]? = some r ∧ SqL KK H' l xs ∧ RpAll N1 xs r := fun k l hk => by
        obtain ⟨xs, r, p0, p1, p2⟩ := hrd k l hk
        exact ⟨xs, r, p0, ex_l (k1.trans c1) p1, p2⟩
      by_cases hlt : i < m
      · refine .inr ⟨?_, fun H'' => ∃ (acc : List V) (S : List Addr), Ex H1 H'' ∧ H'' D = some (.lst acc) ∧ RpTs H'' acc ((List.range (i + 1)).map f) S ∧ (D :: S).Nodup ∧ ∀ a ∈ S, H1 a = none, fun H'' c' => ⟨m - (i + 1), by omega, rfl, hlt, c'⟩, fun x H'' y => ?_⟩
        · have hp : ∀ (k : Nat) (l : Addr), ls[k]? = some l → ∃ v : V, ∃ xs, SqL KK H' l xs ∧ xs[i]? = some v := fun k l hk => by
            obtain ⟨xs, r, p0, p1, p2⟩ := sq k l hk
            have hx : i < xs.length := by
              rw [p2.length, hm r (List.mem_of_getElem? p0)]
              exact hlt
            exact ⟨xs[i], xs, p1, List.getElem?_eq_getElem hx⟩
          obtain ⟨vs, hv1, hv2⟩ := ZS.pick (R := fun l v => ∃ xs, SqL KK H' l xs ∧ xs[i]? = some v) _ ls rfl hp
          exact ⟨vs, hv1, fun k l v a b => hv2 k l v a b⟩
        · obtain ⟨T, vs, rfl, hT, rfl, hvl, hv⟩ := y
          obtain ⟨hcl, hck⟩ := hc i hlt
          have rcol : RpAll N1 vs (cols i) := rp_col vs (cols i) (by rw [hvl, hcl, el1]) fun k v d e2 e3 => by
            have hk2 : k < ls.length := by
              rw [← hvl]
              exact (List.getElem?_eq_some_iff.mp e2).1
            obtain ⟨xs, r, p0, p1, p2⟩ := sq k ls[k] (List.getElem?_eq_getElem hk2)
            have e4 := hv k ls[k] v (List.getElem?_eq_getElem hk2) e2 xs p1
            rw [hck k r p0] at e3
            obtain ⟨v', e5, rv⟩ := p2.get e3
            rw [e4] at e5
            cases e5
            exact rv
          have hT1 : H1 T = none := ex_none c1 hT
          have hN1 : N1 T = none := ex_none k1 hT1
          have eT : Ex H' (upd H' T (.tup vs)) := Ex.new hT
          have kN : Ex (upd N1 T (.tup vs)) (upd H' T (.tup vs)) := fun b o hb => by
            by_cases z : b = T
            · subst z
              rw [upd_same] at hb ⊢
              exact hb
            · rw [upd_ne z] at hb ⊢
              exact c1 b o (k1 b o hb)
          refine ⟨wipe1 σ j _, ?_⟩
          simp only [tYes, if_true]
          refine he i hlt _ (upd N1 T (.tup vs)) (((hs.mono (n1.trans (Ex.new hN1))).wipe [j]).set (.tup (.inl upd_same) (rcol.mono (Ex.new hN1))) j) _ kN _ fun y H4 S' e4 r4 nd4 f4 => ?_
          have e5 := eT.trans e4
          have hDS : D ∉ S' := fun z => by
            have := f4 D z
            rw [eT _ _ c2] at this
            cases this
          refine ⟨acc, e5 _ _ c2, by
            rw [c3.length, List.length_map, List.length_range]
            exact sz_lt (by omega), acc ++ [y], S ++ S', Ex.mut (c1.trans e5) hD, upd_same, ?_, ?_, ?_⟩
          · rw [List.range_succ, List.map_append]
            have q1 := (c3.mono e5).snoc r4
            refine q1.agree fun b hb => upd_ne fun z => ?_
            subst z
            rcases List.mem_append.mp hb with hb | hb
            · exact (List.nodup_cons.mp c4).1 hb
            · exact hDS hb
          · obtain ⟨p1, p2⟩ := List.nodup_cons.mp c4
            refine List.nodup_cons.mpr ⟨fun z => (List.mem_append.mp z).elim p1 hDS, List.nodup_append.mpr ⟨p2, nd4, fun a ha b hb z => ?_⟩⟩
            subst z
            exact (c3.mono eT).there a ha (f4 a hb)
          · exact fun b hb => (List.mem_append.mp hb).elim (c5 b) fun z => ex_none (c1.trans eT) (f4 b z)
      · have e : i = m := by omega
        subst e
        have hl0 : 0 < ls.length := by omega
        obtain ⟨xs, r, p0, p1, p2⟩ := sq 0 ls[0] (List.getElem?_eq_getElem hl0)
        refine .inl ⟨⟨ls[0], xs, List.getElem?_eq_getElem hl0, p1, by rw [p2.length, hm r (List.mem_of_getElem? p0)]; exact Nat.le_refl _⟩, ?_⟩
        exact q (.ref D) H' (D :: S) (e1.trans c1) (.lst c2 c3) c4 fun b hb => (List.mem_cons.mp hb).elim (fun z => by rw [z]; exact ex_none e1 hD) fun z => ex_none e1 (c5 b z)
end
end DL
set_option Elab.async false
set_option linter.all false
set_option maxRecDepth 100000
set_option maxHeartbeats 4000000
namespace DL
open PySem PySem.Spec PyProof.Rows L2 Evl
set_option autoImplicit false
variable [Kn]
theorem reg_none {N1 H3 N2 : Hp} {D : Addr} (g : Reg N1 H3 N2) (h1 : N1 D = none) (h3 : H3 D ≠ none) : N2 D = none := by
  cases q : N2 D with
  | none => rfl
  | some o =>
    rcases g D (by rw [q]; intro z; cases z) with z | z
    · exact absurd h1 z
    · exact absurd z h3
theorem Cq.at {N H H1 N1 H' : Hp} {D : Addr} {es : List PyData} (p : Cq N H H1 N1 D es H') : H' D ≠ none := by
  obtain ⟨acc, Nk, a, b, _⟩ := p.ex
  rw [b]
  intro z
  cases z
theorem fm_snoc {A B : Type} {xs : List A} {f : A → List B} {i : Nat} {x : A} (h : xs[i]? = some x) : (xs.take (i + 1)).flatMap f = (xs.take i).flatMap f ++ f x := by
  rw [take_snoc h, List.flatMap_append]
  simp
theorem fm2_len {A B : Type} {f : A → List B} : ∀ (xs : List A) (i : Nat), ((xs.take i).flatMap f).length ≤ (xs.flatMap f).length
  | [], i => by simp
  | x :: xs, 0 => by simp
  | x :: xs, i + 1 => by
    rw [List.take_succ_cons, List.flatMap_cons, List.flatMap_cons, List.length_append, List.length_append]
    have := fm2_len (f := f) xs i
    omega
theorem fm2_at {A B : Type} {f : A → List B} : ∀ (xs : List A) (i : Nat) (x : A), xs[i]? = some x → ((xs.take i).flatMap f).length + (f x).length ≤ (xs.flatMap f).length
  | [], i, x, h => by simp at h
  | y :: xs, 0, x, h => by
    have e : y = x := by simpa using h
    subst e
    rw [List.flatMap_cons, List.length_append]
    simp
  | y :: xs, i + 1, x, h => by
    rw [List.take_succ_cons, List.flatMap_cons, List.flatMap_cons, List.length_append, List.length_append]
    have := fm2_at (f := f) xs i x (by simpa using h)
    omega
theorem wipe2a (σ : St) (j k : Nat) (hjk : j ≠ k) (x : V) : wipe ((wipe σ [j, k]).set j (some x)) [j, k] = wipe σ [j, k] := by
  show ((((σ.set k none).set j none).set j (some x)).set k none).set j none = (σ.set k none).set j none
  rw [List.set_set, List.set_comm _ _ hjk, List.set_set, List.set_set]
theorem wipe2b (σ : St) (k : Nat) (y : V) : wipe ((wipe σ [k]).set k (some y)) [k] = wipe σ [k] := wipe1 σ k y
section
variable {ds : De} {tl te : TE} {j : Nat}
/-- [f a b for a in xs for b in ys a if p a b] -/
theorem ev_lc2L {A B : Type} {tl2 : TE} {tt : TT} {k : Nat} {xs : List A} {ga : A → PyData} {ys : A → List B} {gb : B → PyData} {p : A → B → Bool} {f : A → B → PyData} (hjk : j ≠ k) (h : EvE tl ds (.list (xs.map ga))) (hx : xs.length < 100000) (hz : (xs.flatMap ys).length < 100000)
    (h2 : ∀ x ∈ xs, EvE tl2 ((wipeD ds [j, k]).set j (some (ga x))) (.list ((ys x).map gb)))
    (ht : ∀ x ∈ xs, ∀ y ∈ ys x, EvB tt ((wipeD ((wipeD ds [j, k]).set j (some (ga x))) [k]).set k (some (gb y))) (p x y))
    (he : ∀ x ∈ xs, ∀ y ∈ ys x, p x y = true → EvE te ((wipeD ((wipeD ds [j, k]).set j (some (ga x))) [k]).set k (some (gb y))) (f x y)) :
    EvE (tLc2 (iList KK tl) (gName j) tYes (iList KK tl2) (gName k) tt te [j, k] [k]) ds (.list (xs.flatMap fun x => ((ys x).filter (p x)).map (f x))) := fun σ N hs H eN Q q =>
  h σ N hs H eN _ fun v H1 N1 e1 n1 k1 g1 r1 => by
    cases r1 with
    | @lst a vs _ hr hall =>
      refine ⟨a, rfl, ⟨vs, ex_l k1 hr⟩, fun D hD => ?_⟩
      have hlen : vs.length = xs.length := by rw [hall.length, List.length_map]
      have hND : N1 D = none := ex_none k1 hD
      refine ⟨fun i m H' => m = xs.length - i ∧ i ≤ xs.length ∧ Cq N H H1 N1 D ((xs.take i).flatMap fun x => ((ys x).filter (p x)).map (f x)) H', ⟨xs.length, by simp, Nat.zero_le _, Cq.start e1 k1 g1 hD⟩, ?_⟩
      rintro i m H' ⟨rfl, hi, c⟩
      have sq : SqL KK H' a vs := ex_l c.known hr
      by_cases hlt : i < xs.length
      · have ex : xs[i]? = some xs[i] := List.getElem?_eq_getElem hlt
        have hm : xs[i] ∈ xs := List.getElem_mem hlt
        have ed : (xs.map ga)[i]? = some (ga xs[i]) := by rw [List.getElem?_map, ex]; rfl
        obtain ⟨v, ev, rv⟩ := hall.get ed
        refine .inr ⟨⟨vs, v, sq, ev⟩, fun H'' => Cq N H H1 N1 D ((xs.take (i + 1)).flatMap fun x => ((ys x).filter (p x)).map (f x)) H'', fun H'' c' => ⟨xs.length - (i + 1), by omega, rfl, hlt, c'⟩, fun x H'' y => ?_⟩
        obtain ⟨rfl, y⟩ := y
        have exv : x = v := Option.some.inj ((y vs sq).symm.trans ev)
        subst exv
        refine ⟨wipe2a σ j k hjk x, ?_⟩
        simp only [tYes, if_true]
        have hs1 : Holds N1 ((wipe σ [j, k]).set j (some x)) ((wipeD ds [j, k]).set j (some (ga xs[i]))) := ((hs.mono n1).wipe [j, k]).set rv j
        refine h2 _ hm _ N1 hs1 H'' c.known _ fun u H3 N2 e3 n3 k3 g3 r3 => ?_
        have hN2 : N2 D = none := reg_none g3 hND c.at
        have c3 : Cq N H H1 N2 D ((xs.take i).flatMap fun x => ((ys x).filter (p x)).map (f x)) H3 := (c.on e3).more k3 hN2 (fun b hb => (g3 b hb).elim (g1 b) fun z => .inr (ex_none (e1.trans c.old) z)) n3
        cases r3 with
        | @lst b us _ hr3 hall3 =>
          have hlen3 : us.length = (ys xs[i]).length := by rw [hall3.length, List.length_map]
          refine ⟨b, rfl, ⟨us, ex_l k3 hr3⟩, ?_⟩
          refine ⟨fun jj kk H4 => kk = (ys xs[i]).length - jj ∧ jj ≤ (ys xs[i]).length ∧ Cq N H H1 N2 D (((xs.take i).flatMap fun x => ((ys x).filter (p x)).map (f x)) ++ (((ys xs[i]).take jj).filter (p xs[i])).map (f xs[i])) H4, ⟨_, rfl, Nat.zero_le _, by simpa using c3⟩, ?_⟩
          rintro jj kk H4 ⟨rfl, hjj, c4⟩
          have sq4 : SqL KK H4 b us := ex_l c4.known hr3
          by_cases hlt2 : jj < (ys xs[i]).length
          · have ey : (ys xs[i])[jj]? = some (ys xs[i])[jj] := List.getElem?_eq_getElem hlt2
            have hmy : (ys xs[i])[jj] ∈ ys xs[i] := List.getElem_mem hlt2
            have ed2 : ((ys xs[i]).map gb)[jj]? = some (gb (ys xs[i])[jj]) := by rw [List.getElem?_map, ey]; rfl
            obtain ⟨u2, eu2, ru2⟩ := hall3.get ed2
            refine .inr ⟨⟨us, u2, sq4, eu2⟩, fun H5 => Cq N H H1 N2 D (((xs.take i).flatMap fun x => ((ys x).filter (p x)).map (f x)) ++ (((ys xs[i]).take (jj + 1)).filter (p xs[i])).map (f xs[i])) H5, fun H5 c5 => ⟨(ys xs[i]).length - (jj + 1), by omega, rfl, hlt2, c5⟩, fun x2 H5 y2 => ?_⟩
            obtain ⟨rfl, y2⟩ := y2
            have exv2 : x2 = u2 := Option.some.inj ((y2 us sq4).symm.trans eu2)
            subst exv2
            have bound : (((xs.take i).flatMap fun x => ((ys x).filter (p x)).map (f x)) ++ (((ys xs[i]).take jj).filter (p xs[i])).map (f xs[i])).length < 100000 := by
              rw [List.length_append]
              have b1 : ∀ l : List A, (l.flatMap fun x => ((ys x).filter (p x)).map (f x)).length ≤ (l.flatMap ys).length := by
                intro l
                induction l with
                | nil => simp
                | cons z l ih =>
                  rw [List.flatMap_cons, List.flatMap_cons, List.length_append, List.length_append, List.length_map]
                  have := List.length_filter_le (p z) (ys z)
                  omega
              have b2 := fm2_at (f := ys) xs i xs[i] ex
              have b3 := b1 (xs.take i)
              have b4 : ((((ys xs[i]).take jj).filter (p xs[i])).map (f xs[i])).length ≤ (ys xs[i]).length := fm_len
              omega
            refine ⟨wipe2b _ k _, cq_turn (b := p xs[i] (ys xs[i])[jj]) (d := f xs[i] (ys xs[i])[jj]) c4 e1 hD bound (((hs1.mono n3).wipe [k]).set ru2 k) (ht _ hm _ hmy) (he _ hm _ hmy) (fun hp H6 c6 => ?_) (fun hp H6 c6 => ?_)⟩
            · rw [fm_yes ey hp, ← List.append_assoc]
              exact c6
            · rw [fm_no ey hp]
              exact c6
          · have ej : jj = (ys xs[i]).length := by omega
            subst ej
            refine .inl ⟨⟨us, sq4, by omega⟩, ?_⟩
            rw [fm_snoc ex]
            rw [List.take_length] at c4
            exact c4.less n3
      · have e : i = xs.length := by omega
        subst e
        refine .inl ⟨⟨vs, sq, by omega⟩, ?_⟩
        rw [List.take_length] at c
        exact c.fin e1 n1 hD q
end
end DL
set_option Elab.async false
set_option linter.all false
set_option maxRecDepth 100000
set_option maxHeartbeats 4000000
namespace DL
open PySem PySem.Spec PyProof.Rows L2 Evl
set_option autoImplicit false
variable [Kn]
section
variable {ds : De} {tl te tx ta tb tc : TE} {j : Nat}
theorem ev_lcD {xs : List PyData} {f : PyData → PyData} (h : EvE tl ds (.list xs)) (hz : xs.length < 100000) (he : ∀ x ∈ xs, EvE te ((wipeD ds [j]).set j (some x)) (f x)) :
    EvE (tLc (iList KK tl) (gName j) tYes te [j]) ds (.list (xs.map f)) := ev_lcL1 (g := fun x => x) (by rw [List.map_id']; exact h) hz he
theorem ev_anyF {A : Type} {xs : List A} {b : A → Bool} (h : EvE tx ds (.list (xs.map fun x => .bool (b x)))) : EvE (tCB (rAny KK) (tCons tx tNil)) ds (.bool (xs.any b)) := by
  have h2 : EvE tx ds (.list ((xs.map b).map .bool)) := by
    rw [List.map_map]
    exact h
  have h3 := ev_any  h2
  rw [List.any_map] at h3
  exact h3
theorem ev_allF {A : Type} {xs : List A} {b : A → Bool} (h : EvE tx ds (.list (xs.map fun x => .bool (b x)))) : EvE (tCB (rAll KK) (tCons tx tNil)) ds (.bool (xs.all b)) := by
  have h2 : EvE tx ds (.list ((xs.map b).map .bool)) := by
    rw [List.map_map]
    exact h
  have h3 := ev_all  h2
  rw [List.all_map] at h3
  exact h3
theorem ev_chainLe {a b c : Int} (ha : EvE ta ds (.int a)) (hb : EvE tb ds (.int b)) (hc : EvE tc ds (.int c)) :
    EvE (tChain (rI0 fun i j => .bl (decide (i ≤ j))) (rI0 fun i j => .bl (decide (i ≤ j))) ta tb tc) ds (.bool (decide (a ≤ b) && decide (b ≤ c))) := fun σ N hs H eN Q q =>
  ha σ N hs H eN _ fun x H1 N1 e1 n1 k1 g1 r1 => hb σ N1 (hs.mono n1) H1 k1 _ fun y H2 N2 e2 n2 k2 g2 r2 => by
    cases r1
    cases r2
    refine ⟨a, b, rfl, rfl, decide (a ≤ b), rfl, ?_⟩
    by_cases h : a ≤ b
    · rw [decide_eq_true h]
      refine iteT ?_
      refine hc σ N2 ((hs.mono n1).mono n2) H2 k2 _ fun z H3 N3 e3 n3 k3 g3 r3 => ?_
      cases r3
      refine ⟨b, c, rfl, rfl, ?_⟩
      have hq := q (.bl (decide (b ≤ c))) H3 N3 ((e1.trans e2).trans e3) ((n1.trans n2).trans n3) k3 ((g1.trans e1 g2).trans (e1.trans e2) g3)
      rw [decide_eq_true h] at hq
      exact hq (.bl _)
    · rw [decide_eq_false h] at q ⊢
      exact iteF (q (.bl false) H2 N2 (e1.trans e2) (n1.trans n2) k2 (g1.trans e1 g2) (.bl false))
theorem ev_ixI {ns : List Int} {i : Int} {ti : TE} (h : EvE tx ds (.list (ns.map .int))) (hi : EvE ti ds (.int i)) (h0 : 0 ≤ i) (h1 : i < ns.length) : EvE (tOp (rIxL KK) tx ti) ds (.int (ns.getD i.toNat 0)) := by
  refine ev_ixL h hi ?_
  have e : i = ((i.toNat : Nat) : Int) := by omega
  rw [e]
  refine atI_nat ?_
  rw [List.getElem?_map, Int.toNat_natCast, List.getD_eq_getElem?_getD]
  have h2 : i.toNat < ns.length := by omega
  rw [List.getElem?_eq_getElem h2]
  rfl
end
/-- ints, rows of ints -/
abbrev eI (ns : List Int) : PyData := .list (ns.map PyData.int)
abbrev eM (M : List (List Int)) : PyData := .list (M.map eI)
theorem noDict_ints : ∀ ns : List Int, noDictAll (ns.map PyData.int) = true
  | [] => rfl
  | n :: r => by
    show (true && noDictAll (r.map PyData.int)) = true
    rw [noDict_ints r]
    rfl
theorem noDict_eI (ns : List Int) : noDict (eI ns) = true := noDict_ints ns
theorem noDict_rows : ∀ M : List (List Int), noDictAll (M.map eI) = true
  | [] => rfl
  | n :: r => by
    show (noDict (eI n) && noDictAll (r.map eI)) = true
    rw [noDict_rows r, noDict_eI]
    rfl
theorem noDict_eM (M : List (List Int)) : noDict (eM M) = true := noDict_rows M
theorem lay_ints : ∀ ns : List Int, PyData.canLayAll0 (ns.map PyData.int) = true
  | [] => by simp [PyData.canLayAll0]
  | n :: r => by
    simp only [List.map_cons, PyData.canLayAll0, PyData.canLay0, lay_ints r, Bool.and_self, Bool.true_and]
theorem lay_rows : ∀ M : List (List Int), PyData.canLayAll0 (M.map eI) = true
  | [] => by simp [PyData.canLayAll0]
  | n :: r => by
    simp only [List.map_cons, PyData.canLayAll0, PyData.canLay0, lay_ints n, lay_rows r, Bool.and_self, Bool.true_and]
theorem dep_ints : ∀ ns : List Int, PyData.depthAll (ns.map PyData.int) ≤ 1
  | [] => by simp [PyData.depthAll]
  | n :: r => by
    have := dep_ints r
    simp only [List.map_cons, PyData.depthAll, PyData.depth]
    omega
theorem dep_rows : ∀ M : List (List Int), PyData.depthAll (M.map eI) ≤ 3
  | [] => by simp [PyData.depthAll]
  | n :: r => by
    have := dep_rows r
    have := dep_ints n
    simp only [List.map_cons, PyData.depthAll, PyData.depth]
    omega
theorem shaped_eI (ns : List Int) : SeqAt.shaped (eI ns) = true := by
  unfold SeqAt.shaped
  have := dep_ints ns
  simp only [PyData.canLay0, lay_ints, PyData.depth, Bool.true_and, decide_eq_true_eq]
  exact decide_eq_true (by omega)
theorem shaped_eM (M : List (List Int)) : SeqAt.shaped (eM M) = true := by
  unfold SeqAt.shaped
  have := dep_rows M
  simp only [PyData.canLay0, lay_rows, PyData.depth, Bool.true_and, decide_eq_true_eq]
  exact decide_eq_true (by omega)
theorem lay_of {d : PyData} (h : SeqAt.shaped d = true) : d.canLay0 = true := by
  unfold SeqAt.shaped at h
  exact ((Bool.and_eq_true _ _).mp h).1
theorem eqv_eI (ns : List Int) : PyData.eqv (eI ns) (eI ns) = true := SeqAt.eqv_refl _ (lay_of (shaped_eI ns))
theorem eqv_eM (M : List (List Int)) : PyData.eqv (eM M) (eM M) = true := SeqAt.eqv_refl _ (lay_of (shaped_eM M))
end DL
set_option Elab.async false
set_option linter.all false
set_option maxRecDepth 100000
set_option maxHeartbeats 4000000
/-! the rules by their written part's own name, for use within a comprehension -/
namespace DL
open PySem PySem.Spec PyProof.Rows L2 Evl
set_option autoImplicit false
variable [Kn]
section
variable {X : Cx} {K : PySem.W.Frag}
def rLen (K : PySem.W.Frag) : List V → Hp → VK → Prop := fun xs H Q => ∃ (p : Addr) (ys : List V), xs = [.ref p] ∧ (SqL K H p ys ∨ SqT K H p ys) ∧ Q (.int ys.length) H
def rListOf (K : PySem.W.Frag) : List V → Hp → VK → Prop := fun xs H Q => ∃ (p : Addr) (ys : List V), xs = [.ref p] ∧ (SqL K H p ys ∨ SqT K H p ys) ∧ ∀ l, H l = none → Q (.ref l) (upd H l (.lst ys))
theorem k_len (h : X.K = K := by rfl) : CallR X (.builtin "len") (rLen K) := by
  subst h
  exact call_len_seq
theorem k_list (h : X.K = K := by rfl) : CallR X (.type "list") (rListOf K) := by
  subst h
  exact call_list_of
theorem k_any (hc : X.calm = true) (h : X.K = K := by rfl) : CallR X (.builtin "any") (rAny K) := by
  subst h
  exact cr_any hc
theorem k_all (hc : X.calm = true) (h : X.K = K := by rfl) : CallR X (.builtin "all") (rAll K) := by
  subst h
  exact cr_all hc
theorem k_sum (hc : X.calm = true) (h : X.K = K := by rfl) : CallR X (.builtin "sum") (rSum K) := by
  subst h
  exact cr_sum hc
theorem k_isi (h : X.K = K := by rfl) : CallR X (.builtin "isinstance") (rIsi K) := by
  subst h
  exact call_isi
theorem k_ixL (h : X.K = K := by rfl) : IxR X (rIxL K) := by
  subst h
  exact ix_list
theorem k_ixT (h : X.K = K := by rfl) : IxR X (rIxT K) := by
  subst h
  exact ix_tup
theorem k_eqD (hu : X.A.units + 64 < cLine) (h : X.K = K := by rfl) : OpR X (compareOp .Eq) (rEqD K) := by
  subst h
  exact op_eqD hu
theorem k_neD (hu : X.A.units + 64 < cLine) (h : X.K = K := by rfl) : OpR X (compareOp .NotEq) (rNeD K) := by
  subst h
  exact op_neD hu
theorem k_slL (h : X.K = K := by rfl) : SlR X (rSlL K) := by
  subst h
  exact sl_list
theorem k_pi_list {tg e : Expr} {te : TE} (he : PE X e te) (h : X.K = K := by rfl) : PI X tg e (iList K te) := by
  subst h
  exact pi_list he
theorem k_pi_zipS {e : Expr} {te : TE} {x : Str} {p p2 pos tp : Pos} (hg : Gl X "zip") (hm : X.mg "zip" = none) (he : PE X e te) (h : X.K = K := by rfl) (hst : starEach [.Starred e p2] X.env = [(true, eval e X.env)] := by rfl) :
    PI X (.Name x tp) (.Call (.Name "zip" p) [.Starred e p2] [] pos) (ZS.iZipS K te) := by
  subst h
  exact pi_zipS hg hm he hst
end
section
variable {ds : De} {tx te : TE} {ts : List PyData}
theorem e_len (h : EvE tx ds (.list ts)) : EvE (tCB (rLen KK) (tCons tx tNil)) ds (.int (ts.length : Int)) := ev_len_l h
theorem e_lenT (h : EvE tx ds (.tuple ts)) : EvE (tCB (rLen KK) (tCons tx tNil)) ds (.int (ts.length : Int)) := ev_len_t h
theorem e_list (h : EvE tx ds (.list ts)) : EvE (tCB (rListOf KK) (tCons tx tNil)) ds (.list ts) := ev_list_of h
theorem n_list (h : EvE tx ds (.list ts)) (hf : ts.all flatD = true) : EvN (tCB (rListOf KK) (tCons tx tNil)) ds (.list ts) := en_list_of h hf
end
end DL
set_option Elab.async false
set_option linter.all false
set_option maxRecDepth 100000
set_option maxHeartbeats 4000000
namespace DL
open PySem PySem.Spec PyProof.Rows L2 Evl
set_option autoImplicit false
variable [Kn]
theorem sum_rawT {prog : Program} {w : World} {A : Around} {E : Value → Shared → Prop} {s : Shared} {l : Addr} {its : List Value} {ns : List Int} {Q : Value → Shared → Prop} (hh : A.handled = none) (hl : s.heap.IsTuple l its.toArray) (hi : IntsAre its ns)
    (h : ∀ h' tk t', (∀ b o, s.heap.get? b = some o → h'.get? b = some o) → Q (.int ns.sum t') { s with heap := h', toks := tk }) : wpAny (model prog w) A (call (.builtin "sum") [.ref l]) Q E s := by
  obtain ⟨xs, e⟩ := hi.allInts.items
  have hn : numsOf (intItems xs).toList = ns := by rw [← e]; exact hi.numsOf
  rw [nums_intItems] at hn
  rw [e] at hl
  refine PySem.W.ktm_sumG hh hl fun h' tk t' hk => ?_
  have := h h' tk t' hk
  rw [preSum_eq, List.take_of_length_le (by simp), hn]
  exact this
/-- sum of a list or a tuple of ints -/
def rSumX (K : PySem.W.Frag) : List V → Hp → VK → Prop := fun vs H Q => ∃ (a : Addr) (ns : List Int), vs = [V.ref a] ∧ (SqL K H a (ns.map V.int) ∨ SqT K H a (ns.map V.int)) ∧ Q (.int ns.sum) H
section
variable {X : Cx} {K : PySem.W.Frag}
theorem k_sumX (hc : X.calm = true) (h : X.K = K := by rfl) : CallR X (.builtin "sum") (rSumX K) := by
  subst h
  intro pins s σ H vs us Q I r h
  obtain ⟨a, ns, rfl, hs, q⟩ := h
  rcases hs with hs | hs
  · obtain ⟨its, rv, hl, _⟩ := I.list hs
    rw [Vals.ref1 r]
    exact sum_raw (I.ok.hd hc) hl.isList rv.ints fun h' tk t' hk => ⟨.int _, H, I.kept hk, ⟨_, rfl⟩, q⟩
  · obtain ⟨its, rv, hl, _⟩ := I.tuple hs
    rw [Vals.ref1 r]
    exact sum_rawT (I.ok.hd hc) hl rv.ints fun h' tk t' hk => ⟨.int _, H, I.kept hk, ⟨_, rfl⟩, q⟩
end
section
variable {ds : De} {tx te : TE} {ns : List Int}
theorem e_sum (h : EvE tx ds (.list (ns.map .int))) : EvE (tCB (rSumX KK) (tCons tx tNil)) ds (.int ns.sum) :=
  ev_cbV (v := .int ns.sum) (ea_cons h ea_nil) (fun _ => .int _) fun vs N H eN rv Q q => by
    cases rv with
    | cons r rr =>
      cases rr
      cases r with
      | lst hr hall =>
        have e := hall.ofInts
        subst e
        exact ⟨_, ns, rfl, .inl (ex_l eN hr), q⟩
theorem e_sumT (h : EvE tx ds (.tuple (ns.map .int))) : EvE (tCB (rSumX KK) (tCons tx tNil)) ds (.int ns.sum) :=
  ev_cbV (v := .int ns.sum) (ea_cons h ea_nil) (fun _ => .int _) fun vs N H eN rv Q q => by
    cases rv with
    | cons r rr =>
      cases rr
      cases r with
      | tup hr hall =>
        have e := hall.ofInts
        subst e
        exact ⟨_, ns, rfl, .inr (set_of_rd (rd_ex eN hr)), q⟩
theorem en_is {d d' : PyData} (h : EvN te ds d) (e : d = d') : EvN te ds d' := e ▸ h
end
/-- a body that comes to its end without a return -/
theorem body_end {R : List PyData → PyData → Prop} {t : TS} {names : List Str} {vs : List V} {H : Hp} {Q : VK} {E : XK} (h : spF R vs H Q E) (hb : ∀ es d, R es d → d = .none ∧ ∃ ds', EvS E t (startD names.length es) (.nx ds')) :
    t { nx := fun _ H' => Q .non H', rt := Q } (L2.start names vs) H := by
  obtain ⟨N, es, d, eN, r, hr, q⟩ := h
  obtain ⟨rfl, ds', hb⟩ := hb es d hr
  exact hb (L2.start names vs) N (holds_start r) _ H eN fun σ' H' N' e n k g _ => q .non H' N' e n k g .non
end DL
set_option Elab.async false
set_option linter.all false
set_option maxRecDepth 100000
set_option maxHeartbeats 4000000
namespace DL
open PySem PySem.Spec PyProof.Rows L2 Evl
set_option autoImplicit false
variable [Kn]
theorem le_unset (ds : De) (j : Nat) : Le (ds.set j none) ds := ⟨by rw [List.length_set], fun i d h => by
  by_cases z : j = i
  · subst z
    by_cases hj : j < ds.length
    · rw [List.getElem?_set_self hj] at h
      cases h
    · rw [List.getElem?_eq_none (by rw [List.length_set]; omega)] at h
      cases h
  · rw [List.getElem?_set_ne z] at h
    exact h⟩
theorem sum_take1 {ns : List Int} {i : Nat} {x : Int} (h : ns[i]? = some x) : (ns.take (i + 1)).sum = (ns.take i).sum + x := by
  rw [take_snoc h, List.sum_append]
  simp
end DL
set_option Elab.async false
set_option linter.all false
set_option maxRecDepth 100000
set_option maxHeartbeats 4000000
/-! A block that ends with True, beside one thing of its own that it changes. -/
namespace DL
open PySem PySem.Spec PyProof.Rows L2 Evl
set_option autoImplicit false
variable [Kn]
theorem Holds.put {N : Hp} {σ : St} {ds : De} {i : Nat} {v : V} {d : PyData} (h : Holds N σ ds) (e : σ[i]? = some (some v)) (r : Rp N v d) : Holds N σ (ds.set i (some d)) := ⟨by rw [List.length_set, h.len], fun j d' q => by
  by_cases z : i = j
  · subst z
    by_cases hj : i < ds.length
    · rw [List.getElem?_set_self hj] at q
      have q' := Option.some.inj (Option.some.inj q)
      subst q'
      exact ⟨v, e, r⟩
    · rw [List.getElem?_eq_none (by rw [List.length_set]; omega)] at q
      cases q
  · rw [List.getElem?_set_ne z] at q
    exact h.at_ j d' q⟩
/-- ends with True -/
def EvR (t : TS) (ds : De) : Prop := ∀ σ N H, Holds N σ ds → Ex N H → ∀ D : Ends, (∀ H', D.rt (.bl true) H') → t D σ H
structure WSt (N H : Hp) (σ : St) (ds : De) (i : Nat) (d : PyData) (S : List Addr) : Prop where
  hs : Holds N σ ds
  eN : Ex N H
  at_ : ∃ v, σ[i]? = some (some v) ∧ RpT H v d S
  nd : S.Nodup
  out : ∀ a ∈ S, N a = none
/-- .. beside a new tree that stands for d in slot i -/
def EvW (t : TS) (ds : De) (i : Nat) (d : PyData) : Prop := ∀ σ N H S, WSt N H σ ds i d S → ∀ D : Ends, (∀ H', D.rt (.bl true) H') → t D σ H
section
variable {E : XK} {t u : TS} {ds ds1 : De} {te : TE} {i k : Nat} {d e : PyData} {c : TT}
theorem r_seq (h : EvS E t ds (.nx ds1)) (r : EvR u ds1) : EvR (tSeq t u) ds := fun σ N H hs eN D q => h σ N hs { D with nx := u D } H eN fun σ' H' N' _ _ k' _ hs' => r σ' N' H' hs' k' D q
theorem r_ret (h : EvE te ds (.bool true)) : EvR (tRet te) ds := fun σ N H hs eN D q => h σ N hs H eN _ fun v H' N' _ _ _ _ r => by
  cases r
  exact q H'
theorem r_new (h : EvN te ds d) (hi : i < ds.length) (r : EvW u (ds.set i none) i d) : EvR (tSeq (tAsg te (gName i)) u) ds := fun σ N H hs eN D q =>
  h σ N hs H eN _ fun v H' S e1 rt nd f => r (σ.set i (some v)) N H' S ⟨hs.setIn i v, eN.trans e1, ⟨v, by rw [List.getElem?_set_self (by rw [hs.len]; exact hi)], rt⟩, nd, fun a ha => ex_none eN (f a ha)⟩ D q
theorem WSt.all {N H : Hp} {σ : St} {S : List Addr} (w : WSt N H σ ds i d S) : Holds (HU N (only H S)) σ (ds.set i (some d)) ∧ Ex (HU N (only H S)) H ∧ Ex N (HU N (only H S)) := by
  obtain ⟨v, e1, r⟩ := w.at_
  obtain ⟨a1, a2, a3⟩ := absorb w.eN r
  exact ⟨(w.hs.mono a1).put e1 a3, a2, a1⟩
theorem w_asg (hk : k ≠ i) (h : EvE te ds e) (r : EvW u (ds.set k (some e)) i d) : EvW (tSeq (tAsg te (gName k)) u) ds i d := fun σ N H S w D q =>
  h σ N w.hs H w.eN _ fun v H' N' e1 n1 k1 g1 r1 => by
    obtain ⟨x, ex, rt⟩ := w.at_
    refine r (σ.set k (some v)) N' H' S ⟨(w.hs.mono n1).set r1 k, k1, ⟨x, by rw [List.getElem?_set_ne hk]; exact ex, rt.mono e1⟩, w.nd, fun a ha => ?_⟩ D q
    cases z : N' a with
    | none => rfl
    | some o =>
      rcases g1 a (by rw [z]; intro y; cases y) with y | y
      · exact absurd (w.out a ha) y
      · exact absurd y (rt.there a ha)
theorem w_asg2 {j : Nat} {d1 d2 : PyData} (hk : k ≠ i) (hj : j ≠ i) (h : EvE te ds (.tuple [d1, d2])) (r : EvW u ((ds.set k (some d1)).set j (some d2)) i d) : EvW (tSeq (tAsg te (gTup KK 2 (gCons (gName k) (gCons (gName j) gNil)))) u) ds i d := fun σ N H S w D q =>
  h σ N w.hs H w.eN _ fun v H' N' e1 n1 k1 g1 r1 => by
    obtain ⟨x, ex, rt⟩ := w.at_
    cases r1 with
    | tup hr hall =>
      cases hall with
      | cons ra rr =>
        cases rr with
        | cons rb rr =>
          cases rr
          refine ⟨_, _, rfl, set_of_rd (rd_ex k1 hr), rfl, _, _, rfl, _, _, rfl, rfl, ?_⟩
          refine r _ N' H' S ⟨((w.hs.mono n1).set ra k).set rb j, k1, ⟨x, by rw [List.getElem?_set_ne hj, List.getElem?_set_ne hk]; exact ex, rt.mono e1⟩, w.nd, fun a ha => ?_⟩ D q
          cases z : N' a with
          | none => rfl
          | some o =>
            rcases g1 a (by rw [z]; intro y; cases y) with y | y
            · exact absurd (w.out a ha) y
            · exact absurd y (rt.there a ha)
/-- what is made of the thing itself is new -/
theorem w_asgN (hk : k ≠ i) (h : EvN te (ds.set i (some d)) e) (r : EvW u (ds.set k (some e)) i d) : EvW (tSeq (tAsg te (gName k)) u) ds i d := fun σ N H S w D q => by
  obtain ⟨h1, h2, h3⟩ := w.all
  refine h σ _ h1 H h2 _ fun v H' S' e1 r1 nd f => ?_
  obtain ⟨x, ex, rt⟩ := w.at_
  obtain ⟨a1, a2, a3⟩ := absorb (w.eN.trans e1) r1
  refine r (σ.set k (some v)) _ H' S ⟨(w.hs.mono a1).set a3 k, a2, ⟨x, by rw [List.getElem?_set_ne hk]; exact ex, rt.mono e1⟩, w.nd, fun a ha => ?_⟩ D q
  cases z : HU N (only H' S') a with
  | none => rfl
  | some o =>
    rcases hu_reg (show HU N (only H' S') a ≠ none by rw [z]; intro y; cases y) with y | y
    · exact absurd (w.out a ha) y
    · by_cases m : a ∈ S'
      · exact absurd (f a m) (rt.there a ha)
      · rw [only_out m] at y
        exact absurd rfl y
theorem w_if0 (h : EvB c (ds.set i (some d)) false) (r : EvW u ds i d) : EvW (tSeq (tIfS c t tNext) u) ds i d := fun σ N H S w D q => by
  obtain ⟨h1, h2, h3⟩ := w.all
  refine h σ _ h1 H h2 _ fun H' e1 => iteF ?_
  obtain ⟨x, ex, rt⟩ := w.at_
  exact r σ N H' S ⟨w.hs, w.eN.trans e1, ⟨x, ex, rt.mono e1⟩, w.nd, w.out⟩ D q
theorem w_ret (h : EvE te (ds.set i (some d)) (.bool true)) : EvW (tRet te) ds i d := fun σ N H S w D q => by
  obtain ⟨h1, h2, h3⟩ := w.all
  refine h σ _ h1 H h2 _ fun v H' N' _ _ _ _ r => ?_
  cases r
  exact q H'
def setM (M : List (List Int)) (r c : Int) (z : Int) : List (List Int) := M.set r.toNat ((M.getD r.toNat []).set c.toNat z)
/-- x[r][c] = z -/
theorem w_setM {M : List (List Int)} {tr tc : TE} {r c z : Int} (h : EvE te (ds.set i (some (eM M))) (.int z)) (hr : EvE tr (ds.set i (some (eM M))) (.int r)) (hc : EvE tc (ds.set i (some (eM M))) (.int c)) (r0 : 0 ≤ r) (r1 : r < M.length) (c0 : 0 ≤ c) (c1 : c < (M.getD r.toNat []).length)
    (k : EvW u ds i (eM (setM M r c z))) : EvW (tSeq (tAsg te (gSub (tOp (rIxL KK) (tVar i) tr) tc rSetL)) u) ds i (eM M) := fun σ N H S w D q => by
  obtain ⟨h1, h2, h3⟩ := w.all
  refine h σ _ h1 H h2 _ fun v H1 N1 e1 n1 k1 g1 q1 => ?_
  cases q1
  obtain ⟨x, ex, rt⟩ := w.at_
  refine ⟨x, ex, ?_⟩
  refine hr σ N1 (h1.mono n1) H1 k1 _ fun y H2 N2 e2 n2 k2 g2 q2 => ?_
  cases q2
  have rt2 := rt.mono (e1.trans e2)
  obtain ⟨p, S', hx, hS⟩ : ∃ (p : Addr) (S' : List Addr), x = .ref p ∧ S = p :: S' := by
    cases rt with
    | lst a b => exact ⟨_, _, rfl, rfl⟩
  subst hx
  obtain ⟨rs, eS, hp, hlen, hrow⟩ := mat_at rt2 w.nd
  have hrr : r.toNat < M.length := by omega
  have hrs : r.toNat < rs.length := by omega
  have er : r = ((r.toNat : Nat) : Int) := by omega
  have ec : c = ((c.toNat : Nat) : Int) := by omega
  have eM0 : M[r.toNat]? = some (M.getD r.toNat []) := by
    rw [List.getD_eq_getElem?_getD, List.getElem?_eq_getElem hrr]
    rfl
  have hat : atI (rs.map V.ref) r = some (.ref rs[r.toNat]) := by
    have q : (rs.map V.ref)[r.toNat]? = some (V.ref rs[r.toNat]) := by
      rw [List.getElem?_map, List.getElem?_eq_getElem hrs]
      rfl
    have q2 := atI_nat q
    rw [← er] at q2
    exact q2
  refine ⟨p, rs.map V.ref, r, _, rfl, rfl, sq_of hp, hat, ?_⟩
  refine hc σ N2 ((h1.mono n1).mono n2) H2 k2 _ fun y H3 N3 e3 n3 k3 g3 q3 => ?_
  cases q3
  have hq := hrow r.toNat rs[r.toNat] _ (List.getElem?_eq_getElem hrs) eM0
  refine ⟨rs[r.toNat], _, c, c.toNat, rfl, rfl, e3 _ _ hq, ?_, ?_⟩
  · unfold ixN
    rw [if_pos c0, if_pos (by rw [List.length_map]; exact c1)]
  have hmem : rs[r.toNat] ∈ S := by
    rw [eS]
    exact List.mem_cons_of_mem _ (List.getElem_mem hrs)
  have ndS := w.nd
  rw [eS] at ndS
  obtain ⟨np, ndr⟩ := List.nodup_cons.mp ndS
  refine k σ N _ S ⟨w.hs, Ex.mut ((w.eN.trans (e1.trans e2)).trans e3) (w.out _ hmem), ⟨.ref p, ex, ?_⟩, w.nd, w.out⟩ D q
  rw [eS]
  refine .lst (xs := rs.map V.ref) ?_ ?_
  · rw [upd_ne (fun z => np (by rw [z]; exact List.getElem_mem hrs))]
    exact e3 _ _ hp
  · refine mat_mk (p := p) (rs := rs) (by rw [setM, List.length_set]; exact hlen) fun kk a row e4 e5 => ?_
    by_cases hk : r.toNat = kk
    · subst hk
      have e6 : a = rs[r.toNat] := by
        rw [List.getElem?_eq_getElem hrs] at e4
        exact (Option.some.inj e4).symm
      rw [setM, List.getElem?_set_self hrr] at e5
      have e7 := Option.some.inj e5
      subst e6 e7
      rw [upd_same, List.map_set]
    · rw [setM, List.getElem?_set_ne hk] at e5
      have hne : a ≠ rs[r.toNat] := fun z => by
        obtain ⟨l1, f1⟩ := List.getElem?_eq_some_iff.mp e4
        exact hk ((List.getElem_inj ndr).mp (by rw [f1, ← z])).symm
      rw [upd_ne hne]
      exact e3 _ _ (hrow kk a row e4 e5)
end
end DL
set_option Elab.async false
set_option linter.all false
set_option maxRecDepth 100000
set_option maxHeartbeats 2000000
/-! Caught errors: a def that is asked within an except suite, what it may say of the error; isinstance of the error. -/
namespace DL
open PySem PySem.Spec PyProof.Rows L2 L2H Evl
set_option autoImplicit false
variable [Kn]
/-- a promise that may speak of the error that is being handled -/
abbrev SpP := Addr × Obj → Sp
/-- a def that is asked while an error is handled -/
structure FnX (pg : Program) (w : World) (K : PySem.W.Frag) (mg : Str → Option Value) (base : Heap) (C : CXT) (k : Nat) (f : Addr) (fd : FuncData) (ps : List Str) (sp : SpP) : Prop where
  many : ∀ p vs H Q E, sp p vs H Q E → vs.length = ps.length
  goes : ∀ (p : Addr × Obj) (B : Around) (out : List Env) (t : Shared) (H : Hp) (ar : Args) (ws : List Value) (vs : List V) (Q : VK) (E : XK), RoomH k B → PinOk out H t p → Env0 pg w K mg base B out t H →
    BindsTo t fd ar (ps.zip ws) → Vals vs ws → sp p vs H Q E → codeAny (model pg w) B (.call (.ref f) ar) (CR C out pg w H t Q E) t
theorem fnX_of {C : CXT} {pg : Program} {w : World} {K : PySem.W.Frag} {mg : Str → Option Value} {base : Heap} {k : Nat} {f : Addr} {nm ql : Str} {as : Arguments} {bd : List Stmt} {sc : Scope} {dV kV doc pm cd ct oc : Value} {an od : Option Addr}
    {sl : Array (Option Value)} {N ps : List Str} {sp : SpP} (look : K.lookup f = some ⟨oc, od, .func (PySem.W.fnOf nm ql as bd sc dV kV doc pm an cd ct), sl⟩) (code : PySem.W.codeIn K cd ql = true) (S : FnScope N ps sc)
    (many : ∀ p vs H Q E, sp p vs H Q E → vs.length = ps.length)
    (inner : ∀ (p : Addr × Obj) (B : Around) (out : List Env) (t : Shared) (H : Hp) (vs : List V) (Q : VK) (E : XK), RoomH k (B.deeper (envOfC ql sc t.heap.objs.size f cd)) → sp p vs H Q E →
      ∃ tt, PSs (cxH C pg w K mg base N ql sc f cd B out t H E p) bd tt ∧ tt { nx := fun _ H' => Q .non H', rt := Q } (L2.start N vs) H) :
    FnX pg w K mg base C (k + 1) f (PySem.W.fnOf nm ql as bd sc dV kV doc pm an cd ct) ps sp := by
  refine ⟨many, fun p B out t H ar ws vs Q E room pin e0 bind rel prom => ?_⟩
  have nv := many p vs H Q E prom
  have known : K.In t.heap := e0.mod.kin.keeps fun b o z => (e0.bs b o z).1
  have free : t.heap.NoLimit := e0.mod.nolimit.keeps fun b o z => (e0.bs b o z).1
  have kinds : ∀ z ∈ ps.zip ws, sc.names.lookup z.1 = some .local ∨ (sc.names.lookup z.1 = some .cell ∧ ((cellsFrom (t.heap.objs.size + 1) sc.names []).lookup z.1).isSome = true) := by
    rintro ⟨n, v⟩ hz
    rcases S.par n (List.of_mem_zip hz).1 with a | a
    · exact Or.inl a
    · exact Or.inr ⟨a, PySem.W.cellsFrom_some _ _ _ (Or.inl a)⟩
  refine codeAny_call_function room.depth (known _ _ look) rfl S.co S.gen rfl (PySem.W.codeRec_of known code) (bind _ _ _ _ ?_)
  refine wpAny_newFunctionEnv_cells S.kind kinds fun en hen t1 call => ?_
  subst hen
  refine ⟨free.keeps call.toInCall.keep, codeAny_func ?_⟩
  obtain ⟨tt, run, q⟩ := inner p B out t H vs Q E (room.deeper _) prom
  have begins : Inv (cxH C pg w K mg base N ql sc f cd B out t H E p) [] (L2.start N vs) H t1 := inv_startH S pin e0 nv rel call
  refine wpAny_mono (run.run [] t1 (L2.start N vs) H _ begins q) ?_ fun _ _ z => z
  intro flow t2 after
  cases flow with
  | ret u =>
    obtain ⟨v, σ2, H2, J, rv, z⟩ := after
    exact ⟨v, H2, J.os, J.bare, J.base, J.hok, rv, z⟩
  | next =>
    obtain ⟨σ2, H2, J, z⟩ := after
    exact ⟨V.non, H2, J.os, J.bare, J.base, J.hok, rfl, z⟩
  | brk =>
    obtain ⟨σ2, H2, J, z⟩ := after
    exact z.elim
  | cont =>
    obtain ⟨σ2, H2, J, z⟩ := after
    exact z.elim
/-- the call, the error's promise told -/
def tCallX (sp : SpP) (p : Addr × Obj) (E : St → XK) (ta : TA) : TE := fun σ H Q => ta σ H fun vs H1 => sp p vs H1 Q (E σ)
theorem pe_callX {X : Cx} {C : CXT} {k : Nat} {f : Addr} {fd : FuncData} {ps : List Str} {sp : SpP} {E : St → XK} {x : Str} {q pos : Pos} {e : Expr} {es : List Expr} {ta : TA} {p : Addr × Obj} (F : FnX X.prog X.w X.K X.mg X.base C k f fd ps sp)
    (room : RoomH k X.A) (hp : p ∈ X.pn) (hg : Gl X x) (hm : X.mg x = some (.ref f)) (hk : PySem.W.keepIn X.K (.ref f) = true) (hb : Binds X.K fd ps []) (hx : ∀ σ, PassesAt C X σ (E σ))
    (ha : PA X (e :: es) ta) (hdb : (x == ("__debug__" : Str)) = false := by decide) (he : starEach (e :: es) X.env = (false, eval e X.env) :: starEach es X.env := by rfl) (hpl : (backTo pos (starEach es X.env)).any (·.1) = false := by rfl) :
    PE X (.Call (.Name x q) (e :: es) [] pos) (tCallX sp p E ta) := by
  constructor
  intro pins t σ H Q I h
  refine wpAny_Call_Name_kw (ld_glob I hg hm ?_ hdb)
  refine PySem.W.callWith_K (h₀ := X.base) I.ok.mod.kin hk (thn (ha.run pos pins t σ H _ I h) ?_) he hpl
  rintro ws t1 ⟨vs, H1, I1, rel, prom⟩
  refine ⟨I1.kIn, ?_⟩
  have nv : ws.length = ps.length := rel.length.symm.trans (F.many _ _ _ _ _ prom)
  have bind := hb t1 ws I1.kIn (by rw [List.append_nil]; exact nv)
  rw [List.append_nil] at bind
  obtain ⟨g1, g2, g3, g4, g5⟩ := I1.pin p (List.mem_append_left _ hp)
  have pin : PinOk X.stack H1 t1 p := ⟨g1, g2, fun hm => (List.mem_cons.mp (I1.stkSub p.1 hm)).elim g3 g4, g5⟩
  refine wpAny_call (codeAny_mono (F.goes p X.A X.stack t1 H1 ⟨ws, []⟩ ws vs Q (E σ) room pin I1.env0 bind rel prom) ?_)
  intro r t2 out
  cases r with
  | error z => exact hx σ pins H1 t1 z t2 I1 out
  | ok fl =>
    cases fl with
    | ret u => exact I1.after out
    | next => exact False.elim out
    | brk => exact False.elim out
    | cont => exact False.elim out
/-! isinstance of the error, wherever its object is known -/
theorem call_isP {X : Cx} {p : Addr × Obj} {D : Addr} (C : ExcC X.K D) (hp : p ∈ X.pn) (hz : p.2.cls = .ref D) (hd : p.2.dict = none) (hf : ∃ vs, p.2.data = .fields vs) : CallR X (.builtin "isinstance") (rIsE X.K D p.1) := by
  intro pins s σ H xs us Q I r h
  obtain ⟨c, cv, b, rfl, hcv, e, q⟩ := h
  obtain ⟨u1, u2, rfl, r1, r2⟩ := vals2 r
  cases (show u1 = Value.ref p.1 from r1)
  cases hcv _ r2
  obtain ⟨at_, _⟩ := I.pin p (List.mem_append_left _ hp)
  obtain ⟨vs, hv⟩ := hf
  have J : PySem.W.InstAt s.heap p.1 p.2 D none := by
    obtain ⟨a, oc, od, oda, osl⟩ := p
    dsimp only at hz hd hv
    subst hz hd hv
    exact ⟨at_, rfl, rfl, trivial⟩
  exact PySem.W.kia_one (PySem.W.handS_kitx_exc C.hg C.hk C.hs C.hd C.ha C.hn C.ht C.hm) I.kIn J e (fun z => nomatch z) fun tk => ⟨.bl b, H, I.tok tk, rfl, q⟩
/-- .. of one of several classes, told as a tuple -/
def rIsEs (K : PySem.W.Frag) (D a : Addr) : List V → Hp → VK → Prop := fun xs H Q => ∃ (tp : Addr) (cs : List V) (us : List Value) (b : Bool), xs = [.ref a, .ref tp] ∧ H tp = some (.tup cs) ∧ Paired ClsV cs us ∧ PySem.W.kitAny K (.ref D) us = some b ∧ Q (.bl b) H
theorem call_isPs {X : Cx} {p : Addr × Obj} {D : Addr} (C : ExcC X.K D) (hp : p ∈ X.pn) (hz : p.2.cls = .ref D) (hd : p.2.dict = none) (hf : ∃ vs, p.2.data = .fields vs) : CallR X (.builtin "isinstance") (rIsEs X.K D p.1) := by
  intro pins s σ H xs us Q I r h
  obtain ⟨tp, cs, ws, b, rfl, hT, k, e, q⟩ := h
  obtain ⟨u1, u2, rfl, r1, r2⟩ := vals2 r
  cases (show u1 = Value.ref p.1 from r1)
  cases (show u2 = Value.ref tp from r2)
  obtain ⟨at_, _⟩ := I.pin p (List.mem_append_left _ hp)
  obtain ⟨vs, hv⟩ := hf
  have J : PySem.W.InstAt s.heap p.1 p.2 D none := by
    obtain ⟨a, oc, od, oda, osl⟩ := p
    dsimp only at hz hd hv
    subst hz hd hv
    exact ⟨at_, rfl, rfl, trivial⟩
  obtain ⟨_, its, rv, o, h1, h2, n, h3⟩ := (show ObjOk X.prog X.w H s.heap tp (.tup cs) from I.hok tp _ hT)
  cases ClsV.all k rv
  obtain ⟨oc, od, dt, sl⟩ := o
  dsimp only at h2 h3
  subst h2 h3
  exact PySem.W.kia_tup (PySem.W.handS_kitx_exc C.hg C.hk C.hs C.hd C.ha C.hn C.ht C.hm) I.kIn J h1 e (fun z => nomatch z) fun tk => ⟨.bl b, H, I.tok tk, rfl, q⟩
end DL
set_option Elab.async false
set_option linter.all false
set_option maxRecDepth 100000
set_option maxHeartbeats 2000000
/-! Refusals: a promise that may raise, blocks that raise, try .. except X as e, the def that looks at the error. -/
namespace DL
open PySem PySem.Spec PyProof.Rows L2 Evl
set_option autoImplicit false
variable [Kn]
/-- what comes of a call -/
inductive Res
  | ok (d : PyData) | er (c : Value)
def resOut : Res → Out
  | .ok d => .rt d
  | .er c => .er c
/-- data, or a class of error -/
def spX (R : List PyData → Res → Prop) : Sp := fun vs H Q E => ∃ (N : Hp) (ds : List PyData) (r : Res), Ex N H ∧ RpAll N vs ds ∧ R ds r ∧
  (∀ d, r = .ok d → ∀ v H' N', Ex H H' → Ex N N' → Ex N' H' → Reg N H N' → Rp N' v d → Q v H') ∧ (∀ c, r = .er c → ∀ H', Ex H H' → E c none H')
theorem lenX_of {R : List PyData → Res → Prop} {n : Nat} (h : ∀ es r, R es r → es.length = n) : ∀ vs H Q E, spX R vs H Q E → vs.length = n := fun vs H Q E ⟨N, es, r, eN, rv, hr, _⟩ => by
  rw [rv.length]
  exact h es r hr
theorem body_retX {R : List PyData → Res → Prop} {t : TS} {names : List Str} {vs : List V} {H : Hp} {Q : VK} {E : XK} (h : spX R vs H Q E)
    (hb : ∀ es r, R es r → EvS E t (startD names.length es) (resOut r) ∨ (r = .ok .none ∧ ∃ ds', EvS E t (startD names.length es) (.nx ds'))) :
    t { nx := fun _ H' => Q .non H', rt := Q, bk := fun _ _ => False, ct := fun _ _ => False } (L2.start names vs) H := by
  obtain ⟨N, es, r, eN, rv, hr, q1, q2⟩ := h
  rcases hb es r hr with hb | ⟨rfl, ds', hb⟩
  · refine hb (L2.start names vs) N (holds_start rv) _ H eN ?_
    cases r with
    | ok d => exact q1 d rfl
    | er c => exact q2 c rfl
  · exact hb (L2.start names vs) N (holds_start rv) _ H eN fun σ' H' N' e n k g _ => q1 _ rfl .non H' N' e n k g .non
section
variable {R : List PyData → Res → Prop} {W : WX} {E : XK} {Es : St → XK} {ds ds1 ds2 : De} {t u : TS} {ta : TA} {te : TE} {es : List PyData} {d : PyData} {cl : Value} {o : Out} {c : TT} {b : Bool}
/-- a call that hands back -/
theorem ev_callX (h : EvAs ta ds es) (hr : R es (.ok d)) : EvE (tCallS (spX R) Es ta) ds d := fun σ N hs H eN Q q =>
  h σ N hs H eN _ fun vs H1 N1 e1 n1 k1 g1 r1 => ⟨N1, es, .ok d, k1, r1, hr, fun d' z v H2 N2 e2 n2 k2 g2 r2 => by
    cases z
    exact q v H2 N2 (e1.trans e2) (n1.trans n2) k2 (g1.trans e1 g2) r2, fun c z => nomatch z⟩
/-- a block that raises cl, the slots at ds1 -/
def EvX (W : WX) (t : TS) (ds : De) (cl : Value) (ds1 : De) : Prop := ∀ σ N, Holds N σ ds → ∀ (D : Ends) H, Ex N H → (∀ σ' H' N', Ex H H' → Ex N N' → Ex N' H' → Reg N H N' → Holds N' σ' ds1 → W cl none σ' H') → t D σ H
/-- an expression that raises cl -/
def EvEx (W : WX) (te : TE) (ds : De) (cl : Value) : Prop := ∀ σ N, Holds N σ ds → ∀ (Q : VK) H, Ex N H → (∀ H' N', Ex H H' → Ex N N' → Ex N' H' → Reg N H N' → W cl none σ H') → te σ H Q
theorem ee_call (h : EvAs ta ds es) (hr : R es (.er cl)) : EvEx W (tCallS (spX R) (WE W) ta) ds cl := fun σ N hs Q H eN q =>
  h σ N hs H eN _ fun vs H1 N1 e1 n1 k1 g1 r1 => ⟨N1, es, .er cl, k1, r1, hr, (fun d2 z => nomatch z), fun c z H2 e2 => by
    cases z
    exact q H2 N1 (e1.trans e2) n1 (k1.trans e2) g1⟩
theorem x_of {t : TS} (h : ∀ σ N, Holds N σ ds → ∀ (D : Ends) H, Ex N H → (∀ H' N', Ex H H' → Ex N N' → Ex N' H' → Reg N H N' → W cl none σ H') → t D σ H) : EvX W t ds cl ds := fun σ N hs D H eN q =>
  h σ N hs D H eN fun H' N' e n k g => q σ H' N' e n k g (hs.mono n)
theorem x_drop (h : EvEx W te ds cl) : EvX W (tDrop te) ds cl ds := x_of fun σ N hs D H eN q => h σ N hs _ H eN q
theorem x_asg {g : TG} (h : EvEx W te ds cl) : EvX W (tAsg te g) ds cl ds := x_of fun σ N hs D H eN q => h σ N hs _ H eN q
theorem x_ret (h : EvEx W te ds cl) : EvX W (tRet te) ds cl ds := x_of fun σ N hs D H eN q => h σ N hs _ H eN q
theorem x_raise {C : Addr} : EvX W (fun _ σ H => W (.ref C) none σ H) ds (.ref C) ds := fun σ N hs D H eN q => q σ H N (Ex.refl H) (Ex.refl N) eN Reg.refl hs
theorem x_seq (h1 : EvS E t ds (.nx ds1)) (h2 : EvX W u ds1 cl ds2) : EvX W (tSeq t u) ds cl ds2 := fun σ N hs D H eN a =>
  h1 σ N hs { D with nx := u D } H eN fun σ' H' N' e n k g hs' => h2 σ' N' hs' D H' k fun σ2 H2 N2 e2 n2 k2 g2 hs2 => a σ2 H2 N2 (e.trans e2) (n.trans n2) k2 (g.trans e g2) hs2
theorem x_seqE (h1 : EvX W t ds cl ds1) : EvX W (tSeq t u) ds cl ds1 := fun σ N hs D H eN a => h1 σ N hs { D with nx := u D } H eN a
theorem x_if (h : EvB c ds b) (h1 : b = true → EvX W t ds cl ds1) (h2 : b = false → EvX W u ds cl ds1) : EvX W (tIfS c t u) ds cl ds1 := fun σ N hs D H eN a =>
  h σ N hs H eN _ fun H1 e1 => by
    have a' : ∀ σ' H' N', Ex H1 H' → Ex N N' → Ex N' H' → Reg N H1 N' → Holds N' σ' ds1 → W cl none σ' H' := fun σ' H' N' e n k g hs' => a σ' H' N' (e1.trans e) n k (fun x hx => (g x hx).elim .inl fun z => .inr (ex_none e1 z)) hs'
    cases b with
    | true => exact iteT (h1 rfl σ N hs D H1 (eN.trans e1) a')
    | false => exact iteF (h2 rfl σ N hs D H1 (eN.trans e1) a')
/-- out of a def -/
theorem es_x (h : EvX (fun cls d _ H => E cls d H) t ds cl ds1) : EvS E t ds (.er cl) := fun σ N hs D H eN a => h σ N hs D H eN fun σ' H' N' e n k g _ => a H' e
/-- try, as a word of its own: the body told by what it wishes of its error -/
def tTry (K : PySem.W.Frag) (cv : Value) (i : Nat) (tb : WX → TS) (ts : Addr → Value → Option Addr → TS) (Wo : WX) : TS := fun D σ H => tb (wAs K cv i ts Wo D) D σ H
theorem k_try {X : Cx} {x n : Str} {cv : Value} {i : Nat} {body more : List Stmt} {one : Stmt} {p1 p2 p3 : Pos} {tb : WX → TS} {ts : Addr → Value → Option Addr → TS} (st : X.stack = X.env :: X.outer) (fr : X.env.frame = some X.env.locals) (nd : X.N.Nodup) (at_ : X.N[i]? = some n) (lo : X.env.kindOf n = some .local) (nm : Names X x cv)
    (inner : ∀ (W : WX) (pn : List (Addr × Obj)) (xe : Value → Shared → Prop), Takes (X.tr pn xe) W → PSs (X.tr pn xe) body (tb W)) (caught : ∀ (a : Addr) (oe : Obj) (cls : Value) (dc : Option Addr) (pn : List (Addr × Obj)), Zc cls dc oe → (∃ vs, oe.data = .fields vs) → PSs (X.suite a ((a, oe) :: pn)) (one :: more) (ts a cls dc)) :
    PS X (.Try body [.ExceptHandler (some (.Name x p1)) (some n) (one :: more) p2] [] [] p3) (tTry X.K cv i tb ts fun _ _ _ _ => False) := ps_try_as st fr nd at_ lo nm takes0 (fun W pn xe tk _ => inner W pn xe tk) caught
/-- try: nothing is raised -/
theorem es_tryN {tb : WX → TS} {K : PySem.W.Frag} {cv : Value} {i : Nat} {ts : Addr → Value → Option Addr → TS} {Wo : WX} (h : ∀ W, EvS E (tb W) ds o) : EvS E (tTry K cv i tb ts Wo) ds o := fun σ N hs D H eN a => h _ σ N hs D H eN a
/-- .. cl is raised and caught, what is done then hands back -/
def EvSu (i : Nat) (ts : TS) (a : Addr) (ds : De) (d : PyData) : Prop := ∀ σ N, σ[i]? = some (some (.ref a)) → Holds N σ ds → ∀ (D : Ends) H, Ex N H → (∀ v H' N', Ex H H' → Ex N N' → Ex N' H' → Reg N H N' → Rp N' v d → D.rt v H') → ts D σ H
theorem es_tryR {tb : WX → TS} {cv : Value} {i : Nat} {ts : Addr → Value → Option Addr → TS} {Wo : WX} (h : ∀ W, EvX W (tb W) ds cl ds1) (hm : PySem.W.exmOne KK cl cv = some true) (hi : i < ds1.length) (hs : ∀ a, EvSu i (ts a cl none) a (ds1.set i none) d) :
    EvS E (tTry KK cv i tb ts Wo) ds (.rt d) := fun σ N hd D H eN a =>
  h _ σ N hd D H eN fun σ' H' N' e n k g hs' => ⟨true, hm, fun _ p hp => hs p (σ'.set i (some (.ref p))) N' (by rw [List.getElem?_set_self (by rw [hs'.len]; exact hi)]) (hs'.setIn i _) _ H' k fun v H2 N2 e2 n2 k2 g2 r2 => a v H2 N2 (e.trans e2) (n.trans n2) k2 (g.trans e g2) r2, fun z => nomatch z⟩
end

/-! ### the def that looks at the error -/
/-- what it is told: the error's object, of the class D, without a dict of its own -/
def spQ (R : Addr → PyData → Prop) : SpP := fun p vs H Q _ => ∃ (N : Hp) (C : Addr) (d : PyData), Ex N H ∧ vs = [.ref p.1] ∧ (p.2.cls = .ref C ∧ p.2.dict = none ∧ ∃ us, p.2.data = .fields us) ∧ R C d ∧
  ∀ v H' N', Ex H H' → Ex N N' → Ex N' H' → Reg N H N' → Rp N' v d → Q v H'
theorem lenQ_of {R : Addr → PyData → Prop} : ∀ p vs H Q E, spQ R p vs H Q E → vs.length = 1 := fun p vs H Q E ⟨N, C, d, _, e, _⟩ => by
  rw [e]
  rfl
theorem okQ {P : Program} {w : World} {mg : Str → Option Value} {base : Heap} {x qual : Str} {st : Stmt} {f : Addr} {fd : FuncData} {N ps : List Str} {k : Nat} {sp : SpP} (F : Fun KK x qual st f fd) (S : FnScope N ps (defScope st)) (len : ∀ p vs H Q E, sp p vs H Q E → vs.length = ps.length)
    (inner : ∀ (cd : Value) (p : Addr × Obj) (B : Around) (out : List Env) (s : Shared) (H : Hp) (vs : List V) (Q : VK) (E : XK), L2H.RoomH k (B.deeper (envOfC qual (defScope st) s.heap.objs.size f cd)) → sp p vs H Q E →
      ∃ t, PSs (L2H.cxH CX0 P w KK mg base N qual (defScope st) f cd B out s H E p) (defBody st) t ∧ t { nx := fun _ H' => Q .non H', rt := Q } (L2.start N vs) H) : FnX P w KK mg base CX0 (k + 1) f fd ps sp := by
  obtain ⟨oc, od, kV, doc, pm, an, cd, ct, sl, rfl, look, code⟩ := F.ex
  exact fnX_of look code S len fun p B out s H vs Q E r h => inner cd p B out s H vs Q E r h
/-- an expression beside the error in slot i -/
def EvP (i : Nat) (a : Addr) (te : TE) (ds : De) (d : PyData) : Prop := ∀ σ N, σ[i]? = some (some (.ref a)) → Holds N σ ds → EvD te σ N d
def EvPA (i : Nat) (a : Addr) (ta : TA) (ds : De) (es : List PyData) : Prop := ∀ σ N, σ[i]? = some (some (.ref a)) → Holds N σ ds → ∀ H, Ex N H → ∀ Q : List V → Hp → Prop, (∀ vs H' N', Ex H H' → Ex N N' → Ex N' H' → Reg N H N' → RpAll N' vs es → Q vs H') → ta σ H Q
def EvPB (i : Nat) (a : Addr) (tt : TT) (ds : De) (b : Bool) : Prop := ∀ σ N, σ[i]? = some (some (.ref a)) → Holds N σ ds → ∀ H, Ex N H → ∀ Q : Bool → Hp → Prop, (∀ H', Ex H H' → Q b H') → tt σ H Q
def tcs : List V → TA
  | [] => tNil
  | c :: r => tCons (tC c) (tcs r)
theorem tcs_go : ∀ (cs : List V) (σ : St) (H : Hp) (Q : List V → Hp → Prop), Q cs H → tcs cs σ H Q
  | [], _, _, _, q => q
  | c :: r, σ, H, Q, q => tcs_go r σ H (fun xs H2 => Q (c :: xs) H2) q
section
variable {i j k : Nat} {a D : Addr} {ds : De} {te ta tb : TE} {tr : TA} {tt uu : TT} {d e : PyData} {es : List PyData} {x y b : Bool} {t u : TS}
theorem p_ev (h : EvE te ds d) : EvP i a te ds d := fun σ N _ hs => h σ N hs
theorem p_is1 {c : V} {cv : Value} (hc : ∀ u, RelV c u → u = cv) (h : PySem.W.kitOne KK (.ref D) cv = some b) : EvP i a (tCB (rIsE KK D a) (tCons (tVar i) (tCons (tC c) tNil))) ds (.bool b) := fun σ N hi hs H eN Q q =>
  ⟨_, hi, c, cv, b, rfl, hc, h, q _ H N (Ex.refl H) (Ex.refl N) eN Reg.refl (.bl b)⟩
theorem p_isN {cs : List V} {us : List Value} (hc : Paired ClsV cs us) (hl : cs.length ≤ 1000) (h : PySem.W.kitAny KK (.ref D) us = some b) : EvP i a (tCB (rIsEs KK D a) (tCons (tVar i) (tCons (tTup (tcs cs)) tNil))) ds (.bool b) := fun σ N hi hs H eN Q q =>
  ⟨_, hi, tcs_go cs σ H _ ⟨Nat.le_trans hl (by decide), fun p hp => by
    obtain ⟨a1, a2, a3, a4, a5⟩ := laid (o := .tup cs) (Ex.refl H) (Ex.refl N) eN Reg.refl hp
    exact ⟨p, cs, us, b, rfl, upd_same, hc, h, q _ _ N a1 (Ex.refl N) (eN.trans a1) Reg.refl (.bl b)⟩⟩⟩
theorem p_and (h1 : EvP i a ta ds (.bool x)) (h2 : EvP i a tb ds (.bool y)) : EvP i a (tAndV ta tb) ds (.bool (x && y)) := fun σ N hi hs H eN Q q => h1 σ N hi hs H eN _ fun v H1 N1 e1 n1 k1 g1 r => by
  cases r
  refine ⟨x, rfl, ?_⟩
  cases x with
  | true => exact iteT (h2 σ N1 hi (hs.mono n1) H1 k1 _ fun v H2 N2 e2 n2 k2 g2 r2 => q v H2 N2 (e1.trans e2) (n1.trans n2) k2 (g1.trans e1 g2) r2)
  | false => exact iteF (q _ H1 N1 e1 n1 k1 g1 (.bl false))
theorem p_not (h1 : EvP i a ta ds (.bool x)) : EvP i a (tNotV ta) ds (.bool (!x)) := fun σ N hi hs H eN Q q => h1 σ N hi hs H eN _ fun v H1 N1 e1 n1 k1 g1 r => by
  cases r
  exact ⟨x, rfl, q _ H1 N1 e1 n1 k1 g1 (.bl _)⟩
theorem pa_nil' : EvPA i a tNil ds [] := fun σ N hi hs H eN Q q => q [] H N (Ex.refl H) (Ex.refl N) eN Reg.refl .nil
theorem pa_cons' (h : EvP i a te ds d) (hr : EvPA i a tr ds es) : EvPA i a (tCons te tr) ds (d :: es) := fun σ N hi hs H eN Q q =>
  h σ N hi hs H eN _ fun v H1 N1 e1 n1 k1 g1 r1 => hr σ N1 hi (hs.mono n1) H1 k1 _ fun vs H2 N2 e2 n2 k2 g2 r2 =>
    q (v :: vs) H2 N2 (e1.trans e2) (n1.trans n2) k2 (g1.trans e1 g2) (.cons (r1.mono n2) r2)
theorem p_lst (h : EvPA i a tr ds es) (hl : es.length ≤ 100000) : EvP i a (tLst tr) ds (.list es) := fun σ N hi hs H eN Q q =>
  h σ N hi hs H eN _ fun vs H1 N1 e1 n1 k1 g1 r1 => ⟨sz_100 (by rw [r1.length]; exact hl), fun p hp => by
    obtain ⟨a1, a2, a3, a4, a5⟩ := laid (o := .lst vs) e1 n1 k1 g1 hp
    exact q (.ref p) _ _ a1 a2 a3 a4 (.lst (sq_of upd_same) (r1.mono a5))⟩
theorem pb_test (h : EvP i a te ds (.bool b)) : EvPB i a (tTest te) ds b := fun σ N hi hs H eN Q q => h σ N hi hs H eN _ fun v H' N' e _ _ _ r => by
  cases r
  exact ⟨b, rfl, q H' e⟩
theorem pb_not (h : EvPB i a tt ds x) : EvPB i a (tNot tt) ds (!x) := fun σ N hi hs H eN Q q => h σ N hi hs H eN _ fun H' e => q H' e
theorem pb_or (h1 : EvPB i a tt ds x) (h2 : EvPB i a uu ds y) : EvPB i a (tOr tt uu) ds (x || y) := fun σ N hi hs H eN Q q => h1 σ N hi hs H eN _ fun H1 e1 => by
  cases x with
  | true => exact iteT (q H1 e1)
  | false => exact iteF (h2 σ N hi hs H1 (eN.trans e1) _ fun H2 e2 => q H2 (e1.trans e2))
theorem pb_is (h : EvPB i a tt ds x) (e : x = y) : EvPB i a tt ds y := e ▸ h
theorem p_is (h : EvP i a te ds d) (z : d = e) : EvP i a te ds e := z ▸ h
theorem su_asg (hk : k ≠ i) (h : EvP i a te ds e) (r : EvSu i u a (ds.set k (some e)) d) : EvSu i (tSeq (tAsg te (gName k)) u) a ds d := fun σ N hi hs D H eN q =>
  h σ N hi hs H eN _ fun v H1 N1 e1 n1 k1 g1 r1 => r (σ.set k (some v)) N1 (by rw [List.getElem?_set_ne hk]; exact hi) ((hs.mono n1).set r1 k) D H1 k1 fun w H2 N2 e2 n2 k2 g2 r2 => q w H2 N2 (e1.trans e2) (n1.trans n2) k2 (g1.trans e1 g2) r2
theorem su_ret (h : EvP i a te ds d) : EvSu i (tRet te) a ds d := fun σ N hi hs D H eN q => h σ N hi hs H eN _ q
theorem su_if (h : EvPB i a tt ds b) (h1 : b = true → EvSu i t a ds d) (h2 : b = false → EvSu i u a ds d) : EvSu i (tIfS tt t u) a ds d := fun σ N hi hs D H eN q =>
  h σ N hi hs H eN _ fun H1 e1 => by
    have q' : ∀ v H' N', Ex H1 H' → Ex N N' → Ex N' H' → Reg N H1 N' → Rp N' v d → D.rt v H' := fun v H' N' e n k g r => q v H' N' (e1.trans e) n k (fun x hx => (g x hx).elim .inl fun z => .inr (ex_none e1 z)) r
    cases b with
    | true => exact iteT (h1 rfl σ N hi hs D H1 (eN.trans e1) q')
    | false => exact iteF (h2 rfl σ N hi hs D H1 (eN.trans e1) q')
theorem su_if0 (h : EvPB i a tt ds false) (r : EvSu i u a ds d) : EvSu i (tSeq (tIfS tt t tNext) u) a ds d := fun σ N hi hs D H eN q =>
  h σ N hi hs H eN _ fun H1 e1 => iteF (r σ N hi hs D H1 (eN.trans e1) fun v H' N' e n k g rr => q v H' N' (e1.trans e) n k (fun x hx => (g x hx).elim .inl fun z => .inr (ex_none e1 z)) rr)
theorem body_retQ {p : Addr × Obj} {names : List Str} {H : Hp} {Q : VK} {N : Hp} (eN : Ex N H) (hn : 1 ≤ names.length) (q : ∀ v H' N', Ex H H' → Ex N N' → Ex N' H' → Reg N H N' → Rp N' v d → Q v H')
    (hb : EvSu 0 t p.1 (List.replicate names.length none) d) : t { nx := fun _ H' => Q .non H', rt := Q } (L2.start names [.ref p.1]) H := by
  refine hb (L2.start names [.ref p.1]) N rfl ⟨?_, fun m d' e => ?_⟩ _ H eN q
  · unfold L2.start
    simp
    omega
  · rw [List.getElem?_replicate] at e
    split at e
    · cases Option.some.inj e
    · cases e
/-- the suite that hands the error on: f(e), whatever the error's object is -/
def tsCall (sp : SpP) (i : Nat) : Addr → Value → Option Addr → TS := fun a cls dc D σ H => ∀ oe : Obj, Zc cls dc oe → (∃ vs, oe.data = .fields vs) → tRet (tCallX sp (a, oe) (fun _ => E0) (tCons (tVar i) tNil)) D σ H
theorem su_call {R : Addr → PyData → Prop} {C : Addr} (hr : R C d) : EvSu i (tsCall (spQ R) i a (.ref C) none) a ds d := fun σ N hi hs D H eN q oe hz hf =>
  ⟨_, hi, N, C, d, eN, rfl, ⟨hz.1, hz.2, hf⟩, hr, q⟩
end
theorem pss_all {X : Cx} {st : List Stmt} {A : Type} {c : A → Prop} {t : A → TS} {a : A} (h : PSs X st (t a)) (ha : c a) : PSs X st (fun D σ H => ∀ z, c z → t z D σ H) := ⟨fun pins s σ H D I q => h.run pins s σ H D I (q a ha)⟩
theorem pss_tsCall {X : Cx} {st : List Stmt} {sp : SpP} {i : Nat} {a : Addr} {cls : Value} {dc : Option Addr} {oe : Obj} (h : PSs X st (tRet (tCallX sp (a, oe) (fun _ => E0) (tCons (tVar i) tNil)))) (hz : Zc cls dc oe) (hf : ∃ vs, oe.data = .fields vs) : PSs X st (tsCall sp i a cls dc) :=
  ⟨fun pins s σ H D I q => h.run pins s σ H D I (q oe hz hf)⟩
theorem k_pi_enum {X : Cx} {K : PySem.W.Frag} {e : Expr} {ta : TA} {p pos tpos : Pos} {elts : List Expr} {kk : Nat} (hg : Gl X "enumerate") (hm : X.mg "enumerate" = none) (ha : PA X [e] ta) (h : X.K = K := by rfl) (hs : starEach [e] X.env = [(false, eval e X.env)] := by rfl) :
    PI X (.Tuple elts kk tpos) (.Call (.Name "enumerate" p) [e] [] pos) (iEnum K ta) := by
  subst h
  exact pi_enum hg hm ha hs
theorem k_pg_tup {X : Cx} {K : PySem.W.Frag} {pos : Pos} {es : List Expr} {k : Nat} {t : TGs} {n : Nat} (hc : X.calm = true) (h : PGs X es t) (hk : X.K = K := by rfl)
    (hn : (assignEach es X.env).length = n := by rfl) (hst : (assignEach es X.env).findIdx? (·.1) = none := by rfl) : PG X (.Tuple es k pos) (gTup K n t) := by
  subst hk
  exact pg_tup hc h hn hst
theorem k_pi_zip {X : Cx} {K : PySem.W.Frag} {e e2 : Expr} {ta : TA} {p pos tpos : Pos} {elts : List Expr} {kk : Nat} (hg : Gl X "zip") (hm : X.mg "zip" = none) (ha : PA X [e, e2] ta) (hk : X.K = K := by rfl)
    (hs : starEach [e, e2] X.env = (false, eval e X.env) :: starEach [e2] X.env := by rfl) (hpl : (backTo pos (starEach [e2] X.env)).any (·.1) = false := by rfl) :
    PI X (.Tuple elts kk tpos) (.Call (.Name "zip" p) [e, e2] [] pos) (iZip K ta) := by
  subst hk
  exact pi_zip hg hm ha hs hpl
theorem roomH_suite {k : Nat} {A : Around} {x : Option Value} (r : Room k A) : L2H.RoomH k (A.mark x) := ⟨r.dp, r.un⟩
/-- a class of errors that is raised with a text -/
structure ErrC (C : Addr) : Prop where
  x : PySem.W.excIn KK C [.type "ValueError", .type "Exception", .type "BaseException", .type "object"] "ValueError.__new__" = true
  k : PySem.W.keepIn KK (.ref C) = true
  s : PySem.W.subIn KK (.ref C) (.type "BaseException") = some true
  t : PySem.W.typeIn KK (.ref C) = some (.type "type")
end DL
set_option Elab.async false
set_option linter.all false
set_option maxRecDepth 100000
set_option maxHeartbeats 2000000
/-! [.. for i, x in enumerate(xs) for j, y in enumerate(ys) if ..]; a list that loops append to; a new thing beside which tests return. -/
namespace DL
open PySem PySem.Spec PyProof.Rows L2 Evl
set_option autoImplicit false
variable [Kn]
theorem wipe_at : ∀ (vs : List Nat) (σ : St) (i : Nat), (wipe σ vs)[i]? = if i ∈ vs then (σ[i]?).map (fun _ => none) else σ[i]?
  | [], σ, i => by simp [wipe]
  | v :: vs, σ, i => by
    show ((wipe σ vs).set v none)[i]? = _
    by_cases e : v = i
    · subst e
      rw [if_pos List.mem_cons_self]
      by_cases h : v < (wipe σ vs).length
      · rw [List.getElem?_set_self h]
        have hl : v < σ.length := by
          have q := wipe_at vs σ v
          rw [List.getElem?_eq_getElem h] at q
          split at q
          · cases z : σ[v]? with
            | none =>
              rw [z] at q
              cases q
            | some u => exact (List.getElem?_eq_some_iff.mp z).1
          · exact (List.getElem?_eq_some_iff.mp q.symm).1
        rw [List.getElem?_eq_getElem hl]
        rfl
      · rw [List.getElem?_eq_none (by rw [List.length_set]; omega)]
        have q := wipe_at vs σ v
        rw [List.getElem?_eq_none (by omega)] at q
        split at q
        · exact q
        · rw [← q]
          rfl
    · rw [List.getElem?_set_ne e, wipe_at vs σ i]
      have e' : i ≠ v := fun z => e z.symm
      by_cases m : i ∈ vs
      · rw [if_pos m, if_pos (List.mem_cons_of_mem _ m)]
      · rw [if_neg m, if_neg (by simp [e', m])]
theorem wipe_set {vs : List Nat} {σ : St} {j : Nat} (v : Option V) (h : j ∈ vs) : wipe (σ.set j v) vs = wipe σ vs := by
  refine List.ext_getElem? fun i => ?_
  rw [wipe_at, wipe_at]
  by_cases m : i ∈ vs
  · rw [if_pos m, if_pos m]
    by_cases e : j = i
    · subst e
      by_cases hl : j < σ.length
      · rw [List.getElem?_set_self hl, List.getElem?_eq_getElem hl]
        rfl
      · rw [List.getElem?_eq_none (by rw [List.length_set]; omega), List.getElem?_eq_none (by omega)]
    · rw [List.getElem?_set_ne e]
  · rw [if_neg m, if_neg m, List.getElem?_set_ne (fun z => m (by rw [← z]; exact h))]
theorem wipe_wipe (vs : List Nat) (σ : St) : wipe (wipe σ vs) vs = wipe σ vs := by
  refine List.ext_getElem? fun i => ?_
  rw [wipe_at, wipe_at]
  by_cases m : i ∈ vs
  · rw [if_pos m, if_pos m, Option.map_map]
    rfl
  · rw [if_neg m, if_neg m]
theorem zip_at {A : Type} {xs : List A} {i : Nat} {x : A} (h : xs[i]? = some x) : xs.zipIdx[i]? = some (x, i) := by
  rw [List.getElem?_zipIdx, h]
  simp
section
variable {ds : De} {tl te : TE} {j : Nat}
theorem ev_lc2E {A B : Type} {tl2 : TE} {tt : TT} {j1 j2 k1 k2 : Nat} {xs : List A} {ga : A → PyData} {ys : A → List B} {gb : B → PyData} {p : A × Nat → B × Nat → Bool} {f : A × Nat → B × Nat → PyData} (h : EvE tl ds (.list (xs.map ga))) (hx : xs.length < 100000) (hz : (xs.zipIdx.flatMap fun x => (ys x.1).zipIdx).length < 100000)
    (h2 : ∀ x ∈ xs.zipIdx, EvE tl2 (((wipeD ds [j1, j2, k1, k2]).set j1 (some (.int (x.2 : Int)))).set j2 (some (ga x.1))) (.list ((ys x.1).map gb)))
    (ht : ∀ x ∈ xs.zipIdx, ∀ y ∈ (ys x.1).zipIdx, EvB tt (((wipeD (((wipeD ds [j1, j2, k1, k2]).set j1 (some (.int (x.2 : Int)))).set j2 (some (ga x.1))) [k1, k2]).set k1 (some (.int (y.2 : Int)))).set k2 (some (gb y.1))) (p x y))
    (he : ∀ x ∈ xs.zipIdx, ∀ y ∈ (ys x.1).zipIdx, p x y = true → EvE te (((wipeD (((wipeD ds [j1, j2, k1, k2]).set j1 (some (.int (x.2 : Int)))).set j2 (some (ga x.1))) [k1, k2]).set k1 (some (.int (y.2 : Int)))).set k2 (some (gb y.1))) (f x y)) :
    EvE (tLc2 (iEnum KK (tCons tl tNil)) (gTup KK 2 (gCons (gName j1) (gCons (gName j2) gNil))) tYes (iEnum KK (tCons tl2 tNil)) (gTup KK 2 (gCons (gName k1) (gCons (gName k2) gNil))) tt te [j1, j2, k1, k2] [k1, k2]) ds (.list (xs.zipIdx.flatMap fun x => ((ys x.1).zipIdx.filter (p x)).map (f x))) := fun σ N hs H eN Q q =>
  h σ N hs H eN _ fun v H1 N1 e1 n1 k1' g1 r1 => by
    cases r1 with
    | @lst a vs _ hr hall =>
      refine ⟨a, vs, rfl, ex_l k1' hr, fun D hD => ?_⟩
      have hlen : vs.length = xs.length := by rw [hall.length, List.length_map]
      have hND : N1 D = none := ex_none k1' hD
      refine ⟨fun i m H' => m = xs.length - i ∧ i ≤ xs.length ∧ Cq N H H1 N1 D ((xs.zipIdx.take i).flatMap fun x => ((ys x.1).zipIdx.filter (p x)).map (f x)) H', ⟨xs.length, by simp, Nat.zero_le _, Cq.start e1 k1' g1 hD⟩, ?_⟩
      rintro i m H' ⟨rfl, hi, c⟩
      have sq : SqL KK H' a vs := ex_l c.known hr
      by_cases hlt : i < xs.length
      · have ex0 : xs[i]? = some xs[i] := List.getElem?_eq_getElem hlt
        have ex := zip_at ex0
        have hm : (xs[i], i) ∈ xs.zipIdx := List.mem_of_getElem? ex
        have ed : (xs.map ga)[i]? = some (ga xs[i]) := by rw [List.getElem?_map, ex0]; rfl
        obtain ⟨v, ev, rv⟩ := hall.get ed
        refine .inr ⟨⟨vs, v, sq, ev⟩, fun H'' => Cq N H H1 N1 D ((xs.zipIdx.take (i + 1)).flatMap fun x => ((ys x.1).zipIdx.filter (p x)).map (f x)) H'', fun H'' c' => ⟨xs.length - (i + 1), by omega, rfl, hlt, c'⟩, fun x H'' y => ?_⟩
        obtain ⟨T, x', rfl, hT, rfl, y⟩ := y
        have exv : x' = v := Option.some.inj ((y vs sq).symm.trans ev)
        subst exv
        have eT : Ex H' (upd H' T (.tup [.int (i : Nat), x'])) := Ex.new hT
        refine ⟨T, _, rfl, .inl (.inl upd_same), rfl, _, _, rfl, _, _, rfl, rfl, ?_⟩
        refine ⟨by rw [wipe_set _ (by simp), wipe_set _ (by simp), wipe_wipe], ?_⟩
        simp only [tYes, if_true]
        have hs1 : Holds N1 (((wipe σ [j1, j2, k1, k2]).set j1 (some (.int (i : Nat)))).set j2 (some x')) (((wipeD ds [j1, j2, k1, k2]).set j1 (some (.int (i : Int)))).set j2 (some (ga xs[i]))) := (((hs.mono n1).wipe [j1, j2, k1, k2]).set (.int _) j1).set rv j2
        refine h2 _ hm _ N1 hs1 _ (c.known.trans eT) _ fun u H3 N2 e3 n3 k3 g3 r3 => ?_
        have cT := c.on eT
        have hN2 : N2 D = none := reg_none g3 hND cT.at
        have c3 : Cq N H H1 N2 D ((xs.zipIdx.take i).flatMap fun x => ((ys x.1).zipIdx.filter (p x)).map (f x)) H3 := (cT.on e3).more k3 hN2 (fun b hb => (g3 b hb).elim (g1 b) fun z => .inr (ex_none (e1.trans cT.old) z)) n3
        cases r3 with
        | @lst b us _ hr3 hall3 =>
          have hlen3 : us.length = (ys xs[i]).length := by rw [hall3.length, List.length_map]
          refine ⟨b, us, rfl, ex_l k3 hr3, ?_⟩
          refine ⟨fun jj kk H4 => kk = (ys xs[i]).length - jj ∧ jj ≤ (ys xs[i]).length ∧ Cq N H H1 N2 D (((xs.zipIdx.take i).flatMap fun x => ((ys x.1).zipIdx.filter (p x)).map (f x)) ++ (((ys xs[i]).zipIdx.take jj).filter (p (xs[i], i))).map (f (xs[i], i))) H4, ⟨_, rfl, Nat.zero_le _, by simpa using c3⟩, ?_⟩
          rintro jj kk H4 ⟨rfl, hjj, c4⟩
          have sq4 : SqL KK H4 b us := ex_l c4.known hr3
          by_cases hlt2 : jj < (ys xs[i]).length
          · have ey0 : (ys xs[i])[jj]? = some (ys xs[i])[jj] := List.getElem?_eq_getElem hlt2
            have ey := zip_at ey0
            have hmy : ((ys xs[i])[jj], jj) ∈ (ys xs[i]).zipIdx := List.mem_of_getElem? ey
            have ed2 : ((ys xs[i]).map gb)[jj]? = some (gb (ys xs[i])[jj]) := by rw [List.getElem?_map, ey0]; rfl
            obtain ⟨u2, eu2, ru2⟩ := hall3.get ed2
            refine .inr ⟨⟨us, u2, sq4, eu2⟩, fun H5 => Cq N H H1 N2 D (((xs.zipIdx.take i).flatMap fun x => ((ys x.1).zipIdx.filter (p x)).map (f x)) ++ (((ys xs[i]).zipIdx.take (jj + 1)).filter (p (xs[i], i))).map (f (xs[i], i))) H5, fun H5 c5 => ⟨(ys xs[i]).length - (jj + 1), by omega, rfl, hlt2, c5⟩, fun x2 H5 y2 => ?_⟩
            obtain ⟨T2, x2', rfl, hT2, rfl, y2⟩ := y2
            have exv2 : x2' = u2 := Option.some.inj ((y2 us sq4).symm.trans eu2)
            subst exv2
            have eT2 : Ex H4 (upd H4 T2 (.tup [.int (jj : Nat), x2'])) := Ex.new hT2
            have bound : (((xs.zipIdx.take i).flatMap fun x => ((ys x.1).zipIdx.filter (p x)).map (f x)) ++ (((ys xs[i]).zipIdx.take jj).filter (p (xs[i], i))).map (f (xs[i], i))).length < 100000 := by
              rw [List.length_append]
              have b1 : ∀ l : List (A × Nat), (l.flatMap fun x => ((ys x.1).zipIdx.filter (p x)).map (f x)).length ≤ (l.flatMap fun x => (ys x.1).zipIdx).length := by
                intro l
                induction l with
                | nil => simp
                | cons z l ih =>
                  rw [List.flatMap_cons, List.flatMap_cons, List.length_append, List.length_append, List.length_map]
                  have := List.length_filter_le (p z) (ys z.1).zipIdx
                  omega
              have b2 := fm2_at (f := fun x : A × Nat => (ys x.1).zipIdx) xs.zipIdx i (xs[i], i) ex
              have b3 := b1 (xs.zipIdx.take i)
              have b4 : ((((ys xs[i]).zipIdx.take jj).filter (p (xs[i], i))).map (f (xs[i], i))).length ≤ ((ys xs[i]).zipIdx).length := fm_len
              have b2' : ((xs.zipIdx.take i).flatMap fun x : A × Nat => (ys x.1).zipIdx).length + ((ys xs[i]).zipIdx).length ≤ (xs.zipIdx.flatMap fun x : A × Nat => (ys x.1).zipIdx).length := b2
              omega
            refine ⟨T2, _, rfl, .inl (.inl upd_same), rfl, _, _, rfl, _, _, rfl, rfl, ?_⟩
            refine ⟨by rw [wipe_set _ (by simp), wipe_set _ (by simp), wipe_wipe], cq_turn (b := p (xs[i], i) ((ys xs[i])[jj], jj)) (d := f (xs[i], i) ((ys xs[i])[jj], jj)) (c4.on eT2) e1 hD bound ((((hs1.mono n3).wipe [k1, k2]).set (.int _) k1).set ru2 k2) (ht _ hm _ hmy) (he _ hm _ hmy) (fun hp H6 c6 => ?_) (fun hp H6 c6 => ?_)⟩
            · rw [fm_yes ey hp, ← List.append_assoc]
              exact c6
            · rw [fm_no ey hp]
              exact c6
          · have ej : jj = (ys xs[i]).length := by omega
            subst ej
            refine .inl ⟨⟨us, sq4, by omega⟩, ?_⟩
            rw [fm_snoc ex]
            have z : (ys xs[i]).zipIdx.take (ys xs[i]).length = (ys xs[i]).zipIdx := List.take_of_length_le (by simp)
            rw [z] at c4
            exact c4.less n3
      · have e : i = xs.length := by omega
        subst e
        refine .inl ⟨⟨vs, sq, by omega⟩, ?_⟩
        have z : xs.zipIdx.take xs.length = xs.zipIdx := List.take_of_length_le (by simp)
        rw [z] at c
        exact c.fin e1 n1 hD q
end
end DL
set_option Elab.async false
set_option linter.all false
set_option maxRecDepth 100000
set_option maxHeartbeats 2000000
/-! A list that loops append to, whatever their tests; comprehensions over a tuple; a new thing beside which tests return. -/
namespace DL
open PySem PySem.Spec PyProof.Rows L2 Evl
set_option autoImplicit false
variable [Kn]
/-- in slot k stands a list that is being made, at L: so far the list of es -/
def Bs (N H : Hp) (L : Addr) (k : Nat) (ds : De) (es : List PyData) (σ : St) (H' : Hp) : Prop := σ[k]? = some (some (.ref L)) ∧ ∃ (acc : List V) (Nk : Hp), Ex H H' ∧ H' L = some (.lst acc) ∧ Ex N Nk ∧ Ex Nk H' ∧ Nk L = none ∧ Reg N H Nk ∧ RpAll Nk acc es ∧ Holds Nk σ ds
theorem Bs.on {N H : Hp} {L : Addr} {k : Nat} {ds : De} {es : List PyData} {σ : St} {H' H'' : Hp} (b : Bs N H L k ds es σ H') (e : Ex H' H'') : Bs N H L k ds es σ H'' := by
  obtain ⟨a, acc, Nk, b1, b2, b3, b4, b5, b6, b7, b8⟩ := b
  exact ⟨a, acc, Nk, b1.trans e, e _ _ b2, b3, b4.trans e, b5, b6, b7, b8⟩
theorem Bs.le {N H : Hp} {L : Addr} {k : Nat} {ds ds2 : De} {es : List PyData} {σ : St} {H' : Hp} (b : Bs N H L k ds es σ H') (l : Le ds2 ds) : Bs N H L k ds2 es σ H' := by
  obtain ⟨a, acc, Nk, b1, b2, b3, b4, b5, b6, b7, b8⟩ := b
  exact ⟨a, acc, Nk, b1, b2, b3, b4, b5, b6, b7, b8.le l⟩
/-- t makes es into es' -/
def EvAp (t : TS) (k : Nat) (ds : De) (es : List PyData) (ds' : De) (es' : List PyData) : Prop := ∀ (N H : Hp) (L : Addr), H L = none → ∀ σ H', Bs N H L k ds es σ H' → ∀ D : Ends, (∀ σ2 H2, Bs N H L k ds' es' σ2 H2 → D.nx σ2 H2) → t D σ H'
section
variable {E : XK} {t u : TS} {k j : Nat} {ds ds1 ds2 : De} {es es1 es2 : List PyData} {te : TE} {d : PyData} {c : TT} {b : Bool} {o : Out}
theorem ap_append (hl : es.length < 100000) (h : EvE te ds d) : EvAp (tDrop (tBM KK "list" rAppend (tVar k) (tCons te tNil))) k ds es ds (es ++ [d]) := fun N H L hL σ H' bs D q => by
  obtain ⟨hk, acc, Nk, b1, b2, b3, b4, b5, b6, b7, b8⟩ := bs
  refine ⟨_, hk, .inl ⟨rfl, acc, .inl (.inl b2)⟩, ?_⟩
  refine h σ Nk b8 H' b4 _ fun y H4 N4 e4 n4 k4 g4 r4 => ?_
  have f4 : N4 L = none := reg_none g4 b5 (by rw [b2]; intro z; cases z)
  refine ⟨L, acc, y, rfl, rfl, e4 _ _ b2, sz_lt (by rw [b7.length]; exact hl), q _ _ ⟨hk, acc ++ [y], N4, Ex.mut (b1.trans e4) hL, upd_same, b3.trans n4, Ex.mut k4 f4, f4, b6.trans b1 g4, (b7.mono n4).append (.one r4), b8.mono n4⟩⟩
theorem ap_next : EvAp tNext k ds es ds es := fun N H L hL σ H' bs D q => q σ H' bs
theorem ap_if (h : EvB c ds b) (h1 : b = true → EvAp t k ds es ds1 es1) (h2 : b = false → EvAp u k ds es ds1 es1) : EvAp (tIfS c t u) k ds es ds1 es1 := fun N H L hL σ H' bs D q => by
  obtain ⟨hk, acc, Nk, b1, b2, b3, b4, b5, b6, b7, b8⟩ := id bs
  refine h σ Nk b8 H' b4 _ fun H1 e1 => ?_
  cases b with
  | true => exact iteT (h1 rfl N H L hL σ H1 (bs.on e1) D q)
  | false => exact iteF (h2 rfl N H L hL σ H1 (bs.on e1) D q)
theorem ap_seq (h1 : EvAp t k ds es ds1 es1) (h2 : EvAp u k ds1 es1 ds2 es2) : EvAp (tSeq t u) k ds es ds2 es2 := fun N H L hL σ H' bs D q =>
  h1 N H L hL σ H' bs { D with nx := u D } fun σ2 H2 b2 => h2 N H L hL σ2 H2 b2 D q
theorem ap_asg (hjk : j ≠ k) (h : EvE te ds d) : EvAp (tAsg te (gName j)) k ds es (ds.set j (some d)) es := fun N H L hL σ H' bs D q => by
  obtain ⟨hk, acc, Nk, b1, b2, b3, b4, b5, b6, b7, b8⟩ := bs
  refine h σ Nk b8 H' b4 _ fun y H4 N4 e4 n4 k4 g4 r4 => ?_
  have f4 : N4 L = none := reg_none g4 b5 (by rw [b2]; intro z; cases z)
  exact q _ _ ⟨by rw [List.getElem?_set_ne hjk]; exact hk, acc, N4, b1.trans e4, e4 _ _ b2, b3.trans n4, k4, f4, b6.trans b1 g4, b7.mono n4, (b8.mono n4).set r4 j⟩
theorem ap_is {es3 : List PyData} (h : EvAp t k ds es ds1 es1) (e : es1 = es3) : EvAp t k ds es ds1 es3 := e ▸ h
/-- for i in range(n) -/
theorem ap_forR {ta : TA} {n : Int} (hjk : j ≠ k) (S : Nat → De) (F : Nat → List PyData) (h0 : Le (S 0) ds) (hF : F 0 = es) (h : EvAs ta ds [.int n]) (hn : n < 100000) (hn0 : -100000 < n)
    (turn : ∀ i : Nat, (i : Int) < n → EvAp t k ((S i).set j (some (.int (i : Int)))) (F i) (S (i + 1)) (F (i + 1))) : EvAp (tFor (iRng1 ta) (gName j) t) k ds es (S n.toNat) (F n.toNat) := fun N H L hL σ H' bs D q => by
  obtain ⟨hk, acc, Nk, b1, b2, b3, b4, b5, b6, b7, b8⟩ := id bs
  refine h σ Nk b8 H' b4 _ fun vs H1 N1 e1 n1 k1 g1 r1 => ?_
  cases r1 with
  | cons r rr =>
    cases rr
    cases r
    refine ⟨n, rfl, by omega, by omega, ?_⟩
    subst hF
    refine for_range (lo := 0) (n := n.toNat) (fun i σ' H' => Bs N H L k (S i) (F i) σ' H') ((bs.on e1).le h0) ?_ q
    rintro i σ' H2 hi bs'
    rw [Int.zero_add]
    obtain ⟨hk, acc, Nk, b1, b2, b3, b4, b5, b6, b7, b8⟩ := bs'
    exact turn i (by omega) N H L hL _ H2 ⟨by rw [List.getElem?_set_ne hjk]; exact hk, acc, Nk, b1, b2, b3, b4, b5, b6, b7, b8.set (.int _) j⟩ _ fun σ2 H3 b2 => b2
/-- out = []; loops that append; the rest -/
theorem es_made (hk : k < ds.length) (h : EvAp t k (ds.set k none) [] ds1 es1) (r : EvS E u (ds1.set k (some (.list es1))) o) : EvS E (tSeq (tAsg (tLst tNil) (gName k)) (tSeq t u)) ds o := fun σ N hs D H eN a => by
  refine ⟨Nat.zero_le _, fun L hL => ?_⟩
  have eH : Ex H (upd H L (.lst [])) := Ex.new hL
  refine h N H L hL (σ.set k (some (.ref L))) (upd H L (.lst [])) ⟨by rw [List.getElem?_set_self (by rw [hs.len]; exact hk)], [], N, eH, upd_same, Ex.refl N, eN.trans eH, ex_none eN hL, Reg.refl, .nil, hs.setIn k _⟩ _ fun σ2 H2 bs => ?_
  obtain ⟨hk2, acc, Nk, b1, b2, b3, b4, b5, b6, b7, b8⟩ := bs
  have n2 : Ex Nk (upd Nk L (.lst acc)) := Ex.new b5
  refine r σ2 (upd Nk L (.lst acc)) ((b8.mono n2).put hk2 (.lst (sq_of upd_same) (b7.mono n2))) D H2 (fun x u' hx => ?_) (a.on b1 (b3.trans n2) fun x hx => ?_)
  · by_cases z : x = L
    · subst z
      rw [upd_same] at hx
      rw [← hx]
      exact b2
    · rw [upd_ne z] at hx
      exact b4 x u' hx
  · by_cases z : x = L
    · subst z
      exact .inr hL
    · rw [upd_ne z] at hx
      exact b6 x hx
end
/-! over a tuple -/
theorem k_pi_tup {X : Cx} {K : PySem.W.Frag} {tg e : Expr} {te : TE} (he : PE X e te) (h : X.K = K := by rfl) : PI X tg e (iTup K te) := by
  subst h
  exact pi_tup he
section
variable {ds : De} {tl te : TE} {tt : TT} {j : Nat} {A : Type}
theorem ev_lcT {xs : List A} {g : A → PyData} {p : A → Bool} {f : A → PyData} (h : EvE tl ds (.tuple (xs.map g))) (hz : xs.length < 100000)
    (ht : ∀ x ∈ xs, EvB tt ((wipeD ds [j]).set j (some (g x))) (p x)) (he : ∀ x ∈ xs, p x = true → EvE te ((wipeD ds [j]).set j (some (g x))) (f x)) :
    EvE (tLc (iTup KK tl) (gName j) tt te [j]) ds (.list ((xs.filter p).map f)) := fun σ N hs H eN Q q =>
  h σ N hs H eN _ fun v H1 N1 e1 n1 k1 g1 r1 => by
    cases r1 with
    | @tup a vs _ hr hall =>
      have st : ∀ H', Ex N1 H' → SqT KK H' a vs := fun H' e => set_of_rd (rd_ex e hr)
      refine ⟨a, rfl, ⟨vs, st _ k1⟩, fun D hD => ?_⟩
      have hlen : vs.length = xs.length := by rw [hall.length, List.length_map]
      refine lc_tup (xs := vs) (fun i H' => Cq N H H1 N1 D (((xs.take i).filter p).map f) H') (Cq.start e1 k1 g1 hD) (fun i H' _ c => st _ c.known) (fun i v H' hi c => ?_) (fun H' c => ?_)
      · obtain ⟨d, ed, rv⟩ := hall.getV hi
        rw [List.getElem?_map] at ed
        cases ex : xs[i]? with
        | none =>
          rw [ex] at ed
          cases ed
        | some x =>
          rw [ex] at ed
          have ed' : g x = d := Option.some.inj ed
          subst ed'
          have hm : x ∈ xs := List.mem_of_getElem? ex
          refine ⟨wipe1 σ j v, cq_turn (b := p x) (d := f x) c e1 hD (Nat.lt_of_le_of_lt fm_len hz) (((hs.mono n1).wipe [j]).set rv j) (ht x hm) (he x hm) (fun hp H'' c' => ?_) (fun hp H'' c' => ?_)⟩
          · rw [fm_yes ex hp]
            exact c'
          · rw [fm_no ex hp]
            exact c'
      · rw [show ((xs.take vs.length).filter p).map f = (xs.filter p).map f by rw [hlen, List.take_length]] at c
        exact c.fin e1 n1 hD q
theorem ev_lcT1 {xs : List A} {g : A → PyData} {f : A → PyData} (h : EvE tl ds (.tuple (xs.map g))) (hz : xs.length < 100000) (he : ∀ x ∈ xs, EvE te ((wipeD ds [j]).set j (some (g x))) (f x)) : EvE (tLc (iTup KK tl) (gName j) tYes te [j]) ds (.list (xs.map f)) := by
  have h2 := ev_lcT (j := j) (tt := tYes) (te := te) (p := fun _ => true) (f := f) h hz (fun _ _ => eb_yes) (fun x hx _ => he x hx)
  rw [List.filter_eq_self.mpr (fun _ _ => rfl)] at h2
  exact h2
end
section
variable {t u : TS} {ds : De} {i : Nat} {d : PyData} {c : TT}
/-- the test holds: the block returns -/
theorem w_if1 (h : EvB c (ds.set i (some d)) true) (r : EvW t ds i d) : EvW (tSeq (tIfS c t tNext) u) ds i d := fun σ N H S w D q => by
  obtain ⟨h1, h2, h3⟩ := w.all
  refine h σ _ h1 H h2 _ fun H' e1 => iteT ?_
  obtain ⟨x, ex, rt⟩ := w.at_
  exact r σ N H' S ⟨w.hs, w.eN.trans e1, ⟨x, ex, rt.mono e1⟩, w.nd, w.out⟩ _ q
end
end DL
namespace DL
open PySem PySem.Spec PyProof.Rows L2 Evl
variable [Kn]
theorem ap_wk {t : TS} {k : Nat} {ds ds1 ds3 : De} {es es1 : List PyData} (l : Le ds3 ds1) (h : EvAp t k ds es ds1 es1) : EvAp t k ds es ds3 es1 := fun N H L hL σ H' bs D q => h N H L hL σ H' bs D fun σ2 H2 b2 => q σ2 H2 (b2.le l)
end DL
set_option Elab.async false
set_option linter.all false
set_option maxRecDepth 100000
set_option maxHeartbeats 2000000
/-! list * int, tuple(list), -i, displays of dicts. -/
namespace DL
open PySem PySem.Spec PyProof.Rows L2 Evl
set_option autoImplicit false
/-- a list times an int, whatever list -/
def rRepL (K : PySem.W.Frag) : R2 := fun x y H Q => ∃ l k xs, x = .ref l ∧ y = .int k ∧ SqL K H l xs ∧ 0 ≤ k ∧ k < 1000 ∧ xs.length * k.toNat ≤ 100000 ∧ ∀ p, H p = none → Q (.ref p) (upd H p (.lst (List.replicate k.toNat xs).flatten))
theorem rmul_any (i : Int) (u : Tok) (l : Addr) (xs : Array Value) (m : Nat) (dd : Option Addr) (ss : Array (Option Value)) :
    Meets (Builtin.«int.__rmul__» ⟨[.int i u, .ref l], []⟩) (fun _ R s => s.heap.get? l = some { cls := .type "list", dict := dd, data := .seq xs m, slots := ss } ∧ R (.ok (.ret Value.notImplemented)) s) := by
  refine Meets.of_wp fun pg w B R t z => ?_
  obtain ⟨hp, g, d, tk, os⟩ := t
  obtain ⟨at_, q⟩ := z
  wp_walk
  exact ⟨_, rfl, q⟩
theorem mul_any (l : Addr) (xs : Array Value) (m : Nat) (dd : Option Addr) (ss : Array (Option Value)) (i : Int) (u : Tok) (c0 : ¬(!Builtin.List.listFitsIndex i) = true) (c1 : ¬xs.size * i.toNat > (2 ^ 63 - 1) / 8) (c2 : ¬Builtin.List.listTooLong (xs.size * i.toNat) = true) :
    Meets (Builtin.«list.__mul__» ⟨[.ref l, .int i u], []⟩) (fun _ R s => s.heap.get? l = some { cls := .type "list", dict := dd, data := .seq xs m, slots := ss } ∧
      R (.ok (.ret (Value.ref s.heap.objs.size))) { s with heap := s.heap.push { cls := Value.type "list", data := Data.seq (List.foldl (fun x1 x2 => x1 ++ x2) #[] (List.replicate (if xs.isEmpty = true then 0 else i.toNat) xs)) }, toks := s.toks }) := by
  refine Meets.of_wp fun pg w B R t z => ?_
  obtain ⟨hp, g, d, tk, os⟩ := t
  obtain ⟨at_, q⟩ := z
  have few := AutoListH.joined_fits c2
  wp_walk
  refine wpAny_ite_false (decide_eq_false (Nat.not_lt.mpr few)) ?_
  wp_walk
  exact ⟨_, rfl, q⟩

theorem k_rep {X : Cx} {K : PySem.W.Frag} (hK : X.K = K := by rfl) : OpR X (binaryOp .Mult) (rRepL K) := by
  subst hK
  intro pins s σ H x y v u Q I rx ry h
  obtain ⟨l, k, xs, rfl, rfl, hS, k0, k1, hz, q⟩ := h
  cases (show v = Value.ref l from rx)
  obtain ⟨t, rfl⟩ := (show ∃ t, u = Value.int k t from ry)
  obtain ⟨its, r, pl, _⟩ := I.list hS
  obtain ⟨⟨cls, dd, data, sl⟩, n, e, hc, hd, he⟩ := pl
  dsimp only at hc hd he
  subst hc hd he
  have few : its.toArray.size * k.toNat ≤ sizeLine := by
    rw [List.size_toArray, ← r.length]
    exact Nat.le_trans hz (by decide)
  have cap : ¬ its.toArray.size * k.toNat > (2 ^ 63 - 1) / 8 := by
    have : (sizeLine : Nat) ≤ (2 ^ 63 - 1) / 8 := by decide
    omega
  have fits : ¬ (!Builtin.List.listFitsIndex k) = true := by
    rw [fitsIndex_both (by omega) (by omega)]
    exact Bool.false_ne_true
  have long : ¬ Builtin.List.listTooLong (its.toArray.size * k.toNat) = true := by
    rw [notLongL few]
    exact Bool.false_ne_true
  have made : List.foldl (fun x1 x2 => x1 ++ x2) #[] (List.replicate (if its.toArray.isEmpty = true then 0 else k.toNat) its.toArray) = (List.replicate k.toNat its).flatten.toArray := by
    rw [size_rep]
    cases its with
    | nil => simp
    | cons a b => rw [if_neg (by simp)]
  have ty : s.TypeIs (.ref l) "list" := ⟨_, e, rfl⟩
  refine wpAny_binaryOp_repeat_ref (T := "list") (U := "int") (by decide) ty (fun s' => typeIs_int s' k t) noFill_list_mul PySem.F.fills_int_mul PySem.F.slot_int_rmul repeat_list PySem.F.slot_int_index.lookup ?_
  refine call_meets PySem.F.slot_int_rmul (typeIs_int s k t) PySem.F.entry_int_rmul (PySem.F.args_int_rmul_2 _ _) (rmul_any k t l its.toArray n none sl) ⟨e, rfl, ty, ?_⟩
  refine call_meets PySem.F.slot_list_mul ty PySem.F.entry_list_mul (PySem.F.args_list_mul_2 _ _) (mul_any l its.toArray n none sl k t fits cap long) ⟨e, ?_⟩
  rw [made]
  exact ⟨.ref _, _, I.lnew (t' := s.toks) (r.rep k.toNat) (by rw [PyProof.Rows.lm_len_rep_flat, Nat.mul_comm]; exact Nat.le_trans hz (by decide)), rfl, q _ I.fresh⟩
theorem k_tuple {X : Cx} {K : PySem.W.Frag} (hK : X.K = K := by rfl) : CallR X (.type "tuple") (fun xs H Q => ∃ p ys, xs = [.ref p] ∧ ((SqL K H p ys ∧ ∀ l, H l = none → Q (.ref l) (upd H l (.tup ys))) ∨ (SqT K H p ys ∧ Q (.ref p) H))) := by
  subst hK
  exact call_tuple_of
variable [Kn]
theorem RpAll.rep {N : Hp} {vs : List V} {ds : List PyData} (r : RpAll N vs ds) : ∀ k : Nat, RpAll N (List.replicate k vs).flatten (List.replicate k ds).flatten
  | 0 => .nil
  | k + 1 => by
    rw [List.replicate_succ, List.replicate_succ, List.flatten_cons, List.flatten_cons]
    exact r.append (RpAll.rep r k)
section
variable {ds : De} {te tx ta tb : TE} {ts : List PyData} {d : PyData}
theorem ev_rep {k : Int} (ha : EvE ta ds (.list ts)) (hb : EvE tb ds (.int k)) (k0 : 0 ≤ k) (k1 : k < 1000) (hl : ts.length * k.toNat ≤ 100000) : EvE (tOp (rRepL KK) ta tb) ds (.list (List.replicate k.toNat ts).flatten) :=
  ev_op ha hb fun x y N H eN rx ry Q q => by
    cases ry
    cases rx with
    | @lst a xs _ hr hall =>
      refine ⟨a, k, xs, rfl, rfl, ex_l eN hr, k0, k1, by rw [hall.length]; exact hl, fun p hp => ?_⟩
      obtain ⟨a1, a2, a3, a4, a5⟩ := laid (o := .lst (List.replicate k.toNat xs).flatten) (Ex.refl H) (Ex.refl N) eN Reg.refl hp
      exact q (.ref p) _ _ a1 a2 a3 a4 (.lst (sq_of upd_same) ((hall.rep k.toNat).mono a5))
theorem ev_tupOf (h : EvE tx ds (.list ts)) : EvE (tCB (fun xs H Q => ∃ p ys, xs = [.ref p] ∧ ((SqL KK H p ys ∧ ∀ l, H l = none → Q (.ref l) (upd H l (.tup ys))) ∨ (SqT KK H p ys ∧ Q (.ref p) H))) (tCons tx tNil)) ds (.tuple ts) :=
  ev_cb (ea_cons h ea_nil) fun vs N H eN rv Q q => by
    cases rv with
    | cons r rr =>
      cases rr
      cases r with
      | @lst a xs _ hr hall =>
        refine ⟨a, xs, rfl, .inl ⟨ex_l eN hr, fun p hp => ?_⟩⟩
        obtain ⟨a1, a2, a3, a4, a5⟩ := laid (o := .tup xs) (Ex.refl H) (Ex.refl N) eN Reg.refl hp
        exact q (.ref p) _ _ a1 a2 a3 a4 (.tup (.inl upd_same) (hall.mono a5))
theorem ev_neg {i : Int} (h : EvE te ds (.int i)) : EvE (tUn (rU fun i => .int (-i)) te) ds (.int (-i)) := fun σ N hs H eN Q q => h σ N hs H eN _ fun v H' N' e n k g r => by
  cases r
  exact ⟨i, rfl, q _ H' N' e n k g (.int _)⟩
theorem ev_dict0 : EvE tDNewK ds (.dict []) := fun σ N hs H eN Q q => fun p hp => by
  obtain ⟨a1, a2, a3, a4, a5⟩ := laid (o := .dK []) (Ex.refl H) (Ex.refl N) eN Reg.refl hp
  exact q (.ref p) _ _ a1 a2 a3 a4 (.dct upd_same .nil)
/-- {k: x} -/
theorem ev_dict1 {k : Int} {tk tv : TE} (hk : EvE tk ds (.int k)) (hv : EvE tv ds d) : EvE (tDisp [(tk, tv)]) ds (.dict [(.int k, d)]) := fun σ N hs H eN Q q => fun p hp => by
  have eH : Ex H (upd H p (.dK [])) := Ex.new hp
  refine hk σ N hs (upd H p (.dK [])) (eN.trans eH) _ fun x H1 N1 e1 n1 k1 g1 r1 => ?_
  refine hv σ N1 (hs.mono n1) H1 k1 _ fun y H2 N2 e2 n2 k2 g2 r2 => ?_
  cases r1
  have h2 : H2 p = some (.dK []) := e2 _ _ (e1 _ _ upd_same)
  have f0 : N p = none := ex_none eN hp
  have f1 : N1 p = none := reg_none g1 f0 (by rw [upd_same]; intro z; cases z)
  have f2 : N2 p = none := reg_none g2 f1 (by rw [e1 _ _ upd_same]; intro z; cases z)
  have gg : Reg N H N2 := fun b hb => by
    rcases g2 b hb with z | z
    · rcases g1 b z with y | y
      · exact .inl y
      · exact .inr (ex_none eH y)
    · exact .inr (ex_none eH (ex_none e1 z))
  refine ⟨h2, [(.inl k, y)], rfl, (by decide : 1 ≤ 15), ?_⟩
  have n3 : Ex N2 (upd N2 p (.dK [(.inl k, y)])) := Ex.new f2
  refine q (.ref p) _ (upd N2 p (.dK [(.inl k, y)])) (Ex.mut (eH.trans (e1.trans e2)) hp) ((n1.trans n2).trans n3) (fun b o hb => ?_) (fun b hb => ?_) (.dct upd_same (.cons (.int k) (r2.mono n3) .nil))
  · by_cases z : b = p
    · subst z
      rw [upd_same] at hb ⊢
      exact hb
    · rw [upd_ne z] at hb ⊢
      exact k2 b o hb
  · by_cases z : b = p
    · subst z
      exact .inr hp
    · rw [upd_ne z] at hb
      exact gg b hb
end
end DL
set_option Elab.async false
set_option linter.all false
set_option maxRecDepth 100000
set_option maxHeartbeats 2000000
/-! != of two things that stand for the same data, dicts within it too. -/
namespace PySem.SeqAt
open AutoSeq1 (wpAny_loadPart')
open MeetsSeq MeetsSeq2 MeetsSeq3 SeqRoads2
section
variable {pg : Program} {w : World}
/-- the walk over two lists whose items are equal each: no difference -/
theorem alike_walk (p q : Addr) (xs ys : Array Value) (m1 m2 : Nat) (d1 d2 : Option Addr) (s1 s2 : Array (Option Value)) (same : xs.size = ys.size) (left : Nat) :
    ∀ i : Nat, xs.size - i = left → MeetsIn pg w (Builtin.«list.__eq__.loop» ⟨[.ref p, .ref q, rawInt i, rawInt 3], []⟩)
      (fun B R t => t.heap.get? p = some { cls := .type "list", dict := d1, data := .seq xs m1, slots := s1 } ∧ t.heap.get? q = some { cls := .type "list", dict := d2, data := .seq ys m2, slots := s2 } ∧
        (∀ j (a : j < xs.size) (b : j < ys.size), EqIn pg w B.in1 t xs[j] ys[j] true) ∧ R (.ok (.ret (.bool false))) t) := by
  induction left with
  | zero =>
    intro i hi B R t z
    obtain ⟨hp, g, d, tk, os⟩ := t
    obtain ⟨at1, at2, each, fin⟩ := z
    wp_walk using wpAny_loadPart' at1, wpAny_loadPart' at2
    have n1 : xs[((i : Nat) : Int).toNat]? = none := by simp; omega
    have n2 : ys[((i : Nat) : Int).toNat]? = none := by simp; omega
    rw [n1, n2]
    wp_walk using wpAny_loadPart' at1, wpAny_loadPart' at2
    show R (.ok (.ret (.bool (xs.size != ys.size)))) _
    rw [same]
    simpa using fin
  | succ left ih =>
    intro i hi B R t z
    obtain ⟨hp, g, d, tk, os⟩ := t
    obtain ⟨at1, at2, each, fin⟩ := z
    wp_walk using wpAny_loadPart' at1, wpAny_loadPart' at2
    have l1 : i < xs.size := by omega
    have l2 : i < ys.size := by omega
    have n1 : xs[((i : Nat) : Int).toNat]? = some xs[i] := by simp [l1]
    have n2 : ys[((i : Nat) : Int).toNat]? = some ys[i] := by simp [l2]
    have nx : ((i : Int) + 1) = ((i + 1 : Nat) : Int) := by push_cast; rfl
    rw [n1, n2]
    refine wpAny_bind (each i l1 l2 _ _ ?_)
    wp_walk
    rw [nx]
    exact ⟨plainId_quiet plain_eq_loop _, codeAny_builtin entry_eq_loop (by
      rw [Around.under_plainId plain_eq_loop _]
      exact ih (i + 1) (by omega) B R _ ⟨at1, at2, each, fin⟩)⟩
theorem alike_ne (p q : Addr) (xs ys : Array Value) (m1 m2 : Nat) (d1 d2 : Option Addr) (s1 s2 : Array (Option Value)) (same : xs.size = ys.size) :
    MeetsIn pg w (Builtin.«list.__ne__» ⟨[.ref p, .ref q], []⟩)
      (fun B R t => t.heap.get? p = some { cls := .type "list", dict := d1, data := .seq xs m1, slots := s1 } ∧ t.heap.get? q = some { cls := .type "list", dict := d2, data := .seq ys m2, slots := s2 } ∧
        (∀ j (a : j < xs.size) (b : j < ys.size), EqIn pg w B.in1 t xs[j] ys[j] true) ∧ R (.ok (.ret (.bool false))) t) := by
  intro B R t z
  obtain ⟨hp, g, d, tk, os⟩ := t
  obtain ⟨at1, at2, each, fin⟩ := z
  have f3 := AutoSeq1.sub_list_list
  have differ : ¬ (xs.size != ys.size) = true := by simp [same]
  wp_walk using wpAny_loadPart' at1, wpAny_loadPart' at2
  exact ⟨plainId_quiet plain_eq_loop _, codeAny_builtin entry_eq_loop (by
    rw [Around.under_plainId plain_eq_loop _]
    exact alike_walk p q xs ys m1 m2 d1 d2 s1 s2 same _ 0 rfl B R _ ⟨at1, at2, each, fin⟩)⟩
theorem alike_lists {B : Around} {t : Shared} {E Q : Value → Shared → Prop} {p q : Addr} {xs ys : Array Value} (h1 : t.heap.IsList p xs) (h2 : t.heap.IsList q ys) (same : xs.size = ys.size) (room : B.units < cLine)
    (each : ∀ j (a : j < xs.size) (b : j < ys.size), EqIn pg w B.in1 t xs[j] ys[j] true) (h : Q (.bool false) t) : wpAny (model pg w) B (compareOp .NotEq (.ref p) (.ref q)) Q E t := by
  obtain ⟨⟨c1, d1, a1, s1⟩, o1, e1, n1, f1⟩ := id h1
  obtain ⟨⟨c2, d2, a2, s2⟩, o2, e2, n2, f2⟩ := id h2
  dsimp only at e1 f1 e2 f2
  subst e1 f1 e2 f2
  refine wpAny_richCompare_same_room (T := "list") (op := .NotEq) ⟨_, o1, rfl⟩ ⟨_, o2, rfl⟩ F.slot_list_ne ?_ room
  exact call_meetsIn F.slot_list_ne ⟨_, o1, rfl⟩ F.entry_list_ne (F.args_list_ne_2 _ _) (alike_ne p q xs ys n1 n2 d1 d2 s1 s2 same) ⟨o1, o2, each, (fun x => nomatch x), h⟩
end
end PySem.SeqAt
namespace DL
open PySem PySem.Spec PyProof.Rows L2 Evl
open PySem.W (EqTree)
set_option autoImplicit false
variable [Kn]
mutual
def nest : PyData → Nat
  | .list ds => nestAll ds + 1
  | .tuple ds => nestAll ds + 1
  | .dict kvs => nestD kvs + 1
  | _ => 0
def nestAll : List PyData → Nat
  | [] => 0
  | d :: ds => max (nest d) (nestAll ds)
def nestD : List (PyData × PyData) → Nat
  | [] => 0
  | (_, d) :: r => max (nest d) (nestD r)
end
mutual
/-- no dict within has more than one key -/
def fine : PyData → Bool
  | .list ds => fineAll ds
  | .tuple ds => fineAll ds
  | .dict kvs => decide (kvs.length ≤ 1) && fineD kvs
  | _ => true
def fineAll : List PyData → Bool
  | [] => true
  | d :: ds => fine d && fineAll ds
def fineD : List (PyData × PyData) → Bool
  | [] => true
  | (_, d) :: r => fine d && fineD r
end
theorem key_eq {N : Hp} {k l : Key} {d : PyData} (h1 : Rp N (kV k) d) (h2 : Rp N (kV l) d) : k = l := by
  cases k with
  | inl i =>
    cases h1
    cases l with
    | inl j =>
      cases h2
      rfl
    | inr y => cases h2
  | inr x =>
    cases h1
    cases l with
    | inl j => cases h2
    | inr y =>
      cases h2
      rfl
section
variable {X : Cx} {pins : List (Addr × Obj)} {σ : St} {N H : Hp} {s : Shared}
mutual
theorem same_tree (I : Inv X pins σ H s) (hK : X.K = KK) (eN : Ex N H) : ∀ (d : PyData) (n : Nat) (x y : V) (v u : Value), fine d = true → nest d ≤ n → Rp N x d → Rp N y d → RelV x v → RelV y u → EqTree X.prog X.w s n v u true
  | .none, n, _, _, _, _, _, _, h1, h2, r1, r2 => by
    cases h1
    cases h2
    cases r1
    cases r2
    exact .same
  | .bool b, n, _, _, _, _, _, _, h1, h2, r1, r2 => by
    cases h1
    cases h2
    cases r1
    cases r2
    exact .same
  | .int i, n, _, _, _, _, _, _, h1, h2, r1, r2 => by
    cases h1
    cases h2
    obtain ⟨t1, rfl⟩ := r1
    obtain ⟨t2, rfl⟩ := r2
    refine .leaf fun A _ => ?_
    have q := SeqAt.EqAt.int_int (A := A) (s := s) i t1 i t2
    rwa [beq_self_eq_true] at q
  | .str z, n, _, _, _, _, _, _, h1, h2, r1, r2 => by
    cases h1
    cases h2
    obtain ⟨t1, rfl⟩ := r1
    obtain ⟨t2, rfl⟩ := r2
    refine .leaf fun A _ => ?_
    have q := SeqAt.EqAt.str_str (A := A) (s := s) z t1 z t2
    rwa [beq_self_eq_true] at q
  | .list ds, n, _, _, _, _, hf, hn, h1, h2, r1, r2 => by
    cases h1 with
    | @lst a xs _ s1 a1 =>
      cases h2 with
      | @lst b ys _ s2 a2 =>
        cases r1
        cases r2
        by_cases e : a = b
        · subst e
          exact .same
        · obtain ⟨us, v1, p1, _⟩ := I.list (by rw [hK]; exact ex_l eN s1)
          obtain ⟨ws, v2, p2, _⟩ := I.list (by rw [hK]; exact ex_l eN s2)
          obtain ⟨m, rfl⟩ : ∃ m, n = m + 1 := ⟨n - 1, by simp only [nest] at hn; omega⟩
          have z1 : us.length = ds.length := by rw [← v1.length, a1.length]
          have z2 : ws.length = ds.length := by rw [← v2.length, a2.length]
          have kids := same_trees I hK eN ds m xs ys us ws (by simpa only [fine] using hf) (by simp only [nest] at hn; omega) a1 a2 v1 v2
          have q := EqTree.lists (prog := X.prog) (w := X.w) (n := m) (e := fun _ => true) e p1.isList p2.isList (by rw [List.size_toArray, List.size_toArray, z1, z2]) fun j g1 g2 => by
            have k := kids j (by simpa using g1) (by simpa using g2)
            simpa using k
          rw [show ((List.range us.toArray.size).all fun _ => true) = true from List.all_eq_true.mpr fun _ _ => rfl] at q
          exact q
  | .tuple ds, n, _, _, _, _, hf, hn, h1, h2, r1, r2 => by
    cases h1 with
    | @tup a xs _ s1 a1 =>
      cases h2 with
      | @tup b ys _ s2 a2 =>
        cases r1
        cases r2
        by_cases e : a = b
        · subst e
          exact .same
        · obtain ⟨us, v1, p1, _⟩ := I.tuple (by rw [hK]; exact set_of_rd (rd_ex eN s1))
          obtain ⟨ws, v2, p2, _⟩ := I.tuple (by rw [hK]; exact set_of_rd (rd_ex eN s2))
          obtain ⟨m, rfl⟩ : ∃ m, n = m + 1 := ⟨n - 1, by simp only [nest] at hn; omega⟩
          have z1 : us.length = ds.length := by rw [← v1.length, a1.length]
          have z2 : ws.length = ds.length := by rw [← v2.length, a2.length]
          have kids := same_trees I hK eN ds m xs ys us ws (by simpa only [fine] using hf) (by simp only [nest] at hn; omega) a1 a2 v1 v2
          have q := EqTree.tuples (prog := X.prog) (w := X.w) (n := m) (e := fun _ => true) e p1 p2 fun j g1 g2 => by
            have k := kids j (by simpa using g1) (by simpa using g2)
            simpa using k
          have z3 : us.toArray.size = ws.toArray.size := by rw [List.size_toArray, List.size_toArray, z1, z2]
          rw [show ((List.range (min us.toArray.size ws.toArray.size)).all fun _ => true) = true from List.all_eq_true.mpr fun _ _ => rfl, z3, beq_self_eq_true] at q
          exact q
  | .dict [], n, _, _, _, _, hf, hn, h1, h2, r1, r2 => by
    cases h1 with
    | @dct a kvs _ s1 a1 =>
      cases h2 with
      | @dct b lvs _ s2 a2 =>
        cases a1
        cases a2
        cases r1
        cases r2
        by_cases e : a = b
        · subst e
          exact .same
        · obtain ⟨_, ya, va, ra, da⟩ := (show ObjOk X.prog X.w H s.heap a (.dK []) from I.hok a _ (eN _ _ s1))
          obtain ⟨_, yb, vb, rb, db⟩ := (show ObjOk X.prog X.w H s.heap b (.dK []) from I.hok b _ (eN _ _ s2))
          obtain ⟨m, rfl⟩ : ∃ m, n = m + 1 := ⟨n - 1, by simp only [nest] at hn; omega⟩
          cases ra
          cases rb
          exact EqTree.dicts (knd := mixKind X.prog X.w) (e := fun _ => true) e ya yb da db fun k v y hm => by cases hm
  | .dict [(dk, d)], n, _, _, _, _, hf, hn, h1, h2, r1, r2 => by
    cases h1 with
    | @dct a kvs _ s1 a1 =>
      cases h2 with
      | @dct b lvs _ s2 a2 =>
        cases a1 with
        | @cons k1 v1 _ _ _ _ kk1 vv1 rr1 =>
          cases a2 with
          | @cons k2 v2 _ _ _ _ kk2 vv2 rr2 =>
            cases rr1
            cases rr2
            cases r1
            cases r2
            have ek := key_eq kk1 kk2
            subst ek
            by_cases e : a = b
            · subst e
              exact .same
            · obtain ⟨_, ya, va, ra, da⟩ := (show ObjOk X.prog X.w H s.heap a (.dK [(k1, v1)]) from I.hok a _ (eN _ _ s1))
              obtain ⟨_, yb, vb, rb, db⟩ := (show ObjOk X.prog X.w H s.heap b (.dK [(k1, v2)]) from I.hok b _ (eN _ _ s2))
              obtain ⟨m, rfl⟩ : ∃ m, n = m + 1 := ⟨n - 1, by simp only [nest] at hn; omega⟩
              cases ra with
              | @cons _ p1 _ _ q1 t1 =>
                cases t1
                cases rb with
                | @cons _ p2 _ _ q2 t2 =>
                  cases t2
                  obtain ⟨c1, w1⟩ := p1
                  obtain ⟨c2, w2⟩ := p2
                  obtain ⟨g1, g2⟩ := q1
                  obtain ⟨g3, g4⟩ := q2
                  dsimp only at g1 g2 g3 g4
                  subst g1
                  subst g3
                  have kid := same_tree I hK eN d m v1 v2 w1 w2 (by simpa [fine, fineD] using hf) (by simp only [nest, nestD] at hn; omega) vv1 vv2 g2 g4
                  have q := EqTree.dicts (n := m) (knd := mixKind X.prog X.w) (e := fun _ => true) e ya yb da db fun k v y hm hv => by
                    obtain ⟨rfl, rfl⟩ := Prod.mk.inj (List.mem_singleton.mp hm)
                    have z : valueAt [(k, w2)] k = some w2 := by simp [valueAt]
                    rw [z] at hv
                    cases hv
                    exact kid
                  have z : (([(k1, w1)] : List (Key × Value)).length == ([(k1, w2)] : List (Key × Value)).length && ([(k1, w1)] : List (Key × Value)).all fun p => (valueAt [(k1, w2)] p.1).isSome && true) = true := by simp [valueAt]
                  rw [z] at q
                  exact q
  | .dict (_ :: _ :: _), _, _, _, _, _, hf, _, _, _, _, _ => by simp [fine] at hf
theorem same_trees (I : Inv X pins σ H s) (hK : X.K = KK) (eN : Ex N H) : ∀ (ds : List PyData) (n : Nat) (xs ys : List V) (us ws : List Value), fineAll ds = true → nestAll ds ≤ n → RpAll N xs ds → RpAll N ys ds → Vals xs us → Vals ys ws →
    ∀ j (h1 : j < us.length) (h2 : j < ws.length), EqTree X.prog X.w s n us[j] ws[j] true
  | [], n, _, _, _, _, _, _, a1, a2, r1, r2, j, h1, h2 => by
    cases a1
    cases r1
    simp at h1
  | d :: ds, n, _, _, _, _, hf, hn, a1, a2, r1, r2, j, h1, h2 => by
    cases a1 with
    | cons b1 c1 =>
      cases a2 with
      | cons b2 c2 =>
        cases r1 with
        | cons e1 f1 =>
          cases r2 with
          | cons e2 f2 =>
            obtain ⟨g1, g2⟩ := (Bool.and_eq_true _ _).mp (show (fine d && fineAll ds) = true by simpa only [fineAll] using hf)
            have m1 : nest d ≤ n := by simp only [nestAll] at hn; omega
            have m2 : nestAll ds ≤ n := by simp only [nestAll] at hn; omega
            cases j with
            | zero => exact same_tree I hK eN d n _ _ _ _ g1 m1 b1 b2 e1 e2
            | succ j => exact same_trees I hK eN ds n _ _ _ _ g2 m2 c1 c2 f1 f2 j (by simpa using h1) (by simpa using h2)
end
end
/-- a thing that may be compared with its like -/
def okN : PyData → Bool
  | .list ds => fineAll ds && decide (nestAll ds ≤ 50)
  | .dict kvs => decide (kvs.length ≤ 1) && kvs.all fun p => noDict p.2 && SeqAt.shaped p.2
  | d => noDict d && SeqAt.shaped d
/-- a != b, both stand for d -/
def rNeS : R2 := fun x y H Q => ∃ (N : Hp) (d : PyData), Ex N H ∧ Rp N x d ∧ Rp N y d ∧ okN d = true ∧ Q (.bl false) H
theorem k_neS {X : Cx} (hu : X.A.units + 100 < cLine) (hK : X.K = KK := by rfl) : OpR X (compareOp .NotEq) rNeS := by
  intro pins s σ H x y v u Q I rx ry h
  obtain ⟨N, d, eN, h1, h2, ok, q⟩ := h
  have plain : noDict d = true → SeqAt.shaped d = true → wpAny (model X.prog X.w) X.A (compareOp .NotEq v u) (EP X pins σ Q) X.xe s := fun nd sd =>
    k_neD (K := KK) (by omega) hK pins s σ H x y v u Q I rx ry ⟨d, d, (h1.mono eN).dp nd, (h2.mono eN).dp nd, sd, sd, by rw [SeqAt.eqv_refl _ (lay_of sd)]; exact q⟩
  cases d with
  | none => exact plain rfl (by decide)
  | bool b => exact plain rfl (by cases b <;> decide)
  | int i => exact plain rfl rfl
  | str z =>
    obtain ⟨g1, g2⟩ := (Bool.and_eq_true _ _).mp (show (noDict (.str z) && SeqAt.shaped (.str z)) = true from ok)
    exact plain g1 g2
  | tuple ds =>
    obtain ⟨g1, g2⟩ := (Bool.and_eq_true _ _).mp ok
    exact plain g1 g2
  | list ds =>
    obtain ⟨g1, g2⟩ := (Bool.and_eq_true _ _).mp ok
    have g2 := of_decide_eq_true g2
    cases h1 with
    | @lst a xs _ s1 a1 =>
      cases h2 with
      | @lst b ys _ s2 a2 =>
        cases rx
        cases ry
        obtain ⟨us, v1, p1, _⟩ := I.list (by rw [hK]; exact ex_l eN s1)
        obtain ⟨ws, v2, p2, _⟩ := I.list (by rw [hK]; exact ex_l eN s2)
        have z1 : us.length = ds.length := by rw [← v1.length, a1.length]
        have z2 : ws.length = ds.length := by rw [← v2.length, a2.length]
        have kids := same_trees I hK eN ds 50 xs ys us ws g1 g2 a1 a2 v1 v2
        refine SeqAt.alike_lists p1.isList p2.isList (by rw [List.size_toArray, List.size_toArray, z1, z2]) (by omega) (fun j f1 f2 => ?_) ⟨.bl false, H, I, rfl, q⟩
        have k := (kids j (by simpa using f1) (by simpa using f2)).at X.A.in1 (by show X.A.units + 1 + 50 < cLine; omega)
        simpa using k
  | dict kvs =>
    obtain ⟨g1, g2⟩ := (Bool.and_eq_true _ _).mp ok
    have g1 := of_decide_eq_true g1
    cases h1 with
    | @dct a ks _ s1 a1 =>
      cases h2 with
      | @dct b ls _ s2 a2 =>
        cases rx
        cases ry
        obtain ⟨_, ya, va, ra, da⟩ := (show ObjOk X.prog X.w H s.heap a (.dK ks) from I.hok a _ (eN _ _ s1))
        obtain ⟨_, yb, vb, rb, db⟩ := (show ObjOk X.prog X.w H s.heap b (.dK ls) from I.hok b _ (eN _ _ s2))
        have hits : PySem.W.KeqHits X.A.in1 s vb va true ∧ va.length = vb.length := by
          match kvs, g1, g2, a1, a2 with
          | [], _, _, a1, a2 =>
            cases a1
            cases a2
            cases ra
            cases rb
            exact ⟨.nil, rfl⟩
          | [(dk, d)], _, g2, a1, a2 =>
            cases a1 with
            | @cons k1 v1 _ _ _ _ kk1 vv1 rr1 =>
              cases a2 with
              | @cons k2 v2 _ _ _ _ kk2 vv2 rr2 =>
                cases rr1
                cases rr2
                have ek := key_eq kk1 kk2
                subst ek
                cases ra with
                | @cons _ p1 _ _ q1 t1 =>
                  cases t1
                  cases rb with
                  | @cons _ p2 _ _ q2 t2 =>
                    cases t2
                    obtain ⟨c1, w1⟩ := p1
                    obtain ⟨c2, w2⟩ := p2
                    obtain ⟨e1, e2⟩ := q1
                    obtain ⟨e3, e4⟩ := q2
                    dsimp only at e1 e2 e3 e4
                    subst e1
                    subst e3
                    obtain ⟨nd, sd⟩ := (Bool.and_eq_true _ _).mp (show (noDict d && SeqAt.shaped d) = true by simpa using g2)
                    obtain ⟨as, o1⟩ := Dp.reads I d v1 w1 (by rw [hK]; exact (vv1.mono eN).dp nd) e2
                    obtain ⟨bs, o2⟩ := Dp.reads I d v2 w2 (by rw [hK]; exact (vv2.mono eN).dp nd) e4
                    have z : valueAt [(k1, w2)] k1 = some w2 := by simp [valueAt]
                    have eq := PySem.W.keq_at (A := X.A) o1 o2 sd sd (by show X.A.units + 1 + 64 < cLine; omega)
                    rw [SeqAt.eqv_refl _ (lay_of sd)] at eq
                    exact ⟨.hit (e := true) (b := true) z eq .nil, rfl⟩
          | _ :: _ :: _, g1, _, _, _ => simp at g1
        refine PySem.W.keq_ne (knd := mixKind X.prog X.w) (r := true) ya yb da db (by omega) (fun _ => hits.1) ⟨.bl false, H, I, ?_, q⟩
        rw [hits.2]
        simp
        exact rfl
section
variable {ds : De} {ta tb : TE} {d : PyData}
theorem ev_neS (ha : EvE ta ds d) (hb : EvE tb ds d) (ok : okN d = true) : EvE (tOp rNeS ta tb) ds (.bool false) :=
  ev_opV (v := .bl false) ha hb (fun _ => .bl _) fun x y N H eN rx ry Q q => ⟨N, d, eN, rx, ry, ok, q⟩
end
end DL
set_option Elab.async false
set_option linter.all false
set_option maxRecDepth 100000
set_option maxHeartbeats 2000000
/-! A new table in which one thing is put in another's place, then handed back as it is. -/
namespace DL
open PySem PySem.Spec PyProof.Rows L2 Evl
set_option autoImplicit false
variable [Kn]
/-- where the block began: N0, H0; what stands at S was made since -/
structure WB (N0 H0 N H : Hp) (S : List Addr) : Prop where
  ex : Ex H0 H
  nn : Ex N0 N
  reg : Reg N0 H0 N
  fr : ∀ a ∈ S, H0 a = none
/-- beside the new thing d in slot i: the block hands res back -/
def EvWr (t : TS) (ds : De) (i : Nat) (d res : PyData) : Prop := ∀ (N0 H0 : Hp) (σ : St) (N H : Hp) (S : List Addr), WB N0 H0 N H S → WSt N H σ ds i d S → ∀ D : Ends, (∀ v H' N', Ex H0 H' → Ex N0 N' → Ex N' H' → Reg N0 H0 N' → Rp N' v res → D.rt v H') → t D σ H
section
variable {E : XK} {t u : TS} {ds : De} {te tr tc tn : TE} {i : Nat} {d e res : PyData} {c : TT}
theorem wr_new (h : EvN te ds d) (hi : i < ds.length) (r : EvWr u (ds.set i none) i d res) : EvS E (tSeq (tAsg te (gName i)) u) ds (.rt res) := fun σ N hs D H eN a =>
  h σ N hs H eN _ fun v H' S e1 rt nd f => r N H (σ.set i (some v)) N H' S ⟨e1, Ex.refl N, Reg.refl, f⟩ ⟨hs.setIn i v, eN.trans e1, ⟨v, by rw [List.getElem?_set_self (by rw [hs.len]; exact hi)], rt⟩, nd, fun b hb => ex_none eN (f b hb)⟩ D a
theorem wr_done (h : EvS E u (ds.set i (some d)) (.rt res)) : EvWr u ds i d res := fun N0 H0 σ N H S b w D q => by
  obtain ⟨h1, h2, h3⟩ := w.all
  refine h σ _ h1 D H h2 fun v H' N' e n k g r => q v H' N' (b.ex.trans e) ((b.nn.trans h3).trans n) k (fun x hx => ?_) r
  rcases g x hx with z | z
  · rcases hu_reg z with y | y
    · exact b.reg x y
    · by_cases m : x ∈ S
      · exact .inr (b.fr x m)
      · rw [only_out m] at y
        exact absurd rfl y
  · exact .inr (ex_none b.ex z)
theorem wr_if0 (h : EvB c (ds.set i (some d)) false) (r : EvWr u ds i d res) : EvWr (tSeq (tIfS c t tNext) u) ds i d res := fun N0 H0 σ N H S b w D q => by
  obtain ⟨h1, h2, h3⟩ := w.all
  refine h σ _ h1 H h2 _ fun H' e1 => iteF ?_
  obtain ⟨x, ex, rt⟩ := w.at_
  exact r N0 H0 σ N H' S ⟨b.ex.trans e1, b.nn, b.reg, b.fr⟩ ⟨w.hs, w.eN.trans e1, ⟨x, ex, rt.mono e1⟩, w.nd, w.out⟩ D q
theorem wr_if1 (h : EvB c (ds.set i (some d)) true) (r : EvWr t ds i d res) : EvWr (tSeq (tIfS c t tNext) u) ds i d res := fun N0 H0 σ N H S b w D q => by
  obtain ⟨h1, h2, h3⟩ := w.all
  refine h σ _ h1 H h2 _ fun H' e1 => iteT ?_
  obtain ⟨x, ex, rt⟩ := w.at_
  exact r N0 H0 σ N H' S ⟨b.ex.trans e1, b.nn, b.reg, b.fr⟩ ⟨w.hs, w.eN.trans e1, ⟨x, ex, rt.mono e1⟩, w.nd, w.out⟩ _ q
/-- e in the place of the count at r, c -/
def setC (M : List (List Int)) (r c : Int) (e : PyData) : PyData := .list ((M.map eI).set r.toNat (.list (((M.getD r.toNat []).map PyData.int).set c.toNat e)))
theorem RpAll.put {N : Hp} : ∀ {vs : List V} {ds : List PyData} (k : Nat) {v : V} {d : PyData}, RpAll N vs ds → Rp N v d → RpAll N (vs.set k v) (ds.set k d)
  | _, _, _, _, _, .nil, _ => .nil
  | _, _, 0, _, _, .cons _ r, h => .cons h r
  | _, _, k + 1, _, _, .cons g r, h => .cons g (RpAll.put k r h)
theorem RpAll.of_at {N : Hp} : ∀ {vs : List V} {ds : List PyData}, vs.length = ds.length → (∀ (k : Nat) (v : V) (d : PyData), vs[k]? = some v → ds[k]? = some d → Rp N v d) → RpAll N vs ds
  | [], [], _, _ => .nil
  | v :: vs, d :: ds, hl, h => .cons (h 0 v d rfl rfl) (RpAll.of_at (by simpa using hl) fun k v' d' e1 e2 => h (k + 1) v' d' (by simpa using e1) (by simpa using e2))
  | [], _ :: _, hl, _ => by simp at hl
  | _ :: _, [], hl, _ => by simp at hl
theorem wr_setC {M : List (List Int)} {r c : Int} (h : EvE te ds e) (hr : EvE tr (ds.set i (some (eM M))) (.int r)) (hc : EvE tc (ds.set i (some (eM M))) (.int c)) (r0 : 0 ≤ r) (r1 : r < M.length) (c0 : 0 ≤ c) (c1 : c < (M.getD r.toNat []).length)
    (k : EvS E u (ds.set i (some (setC M r c e))) (.rt res)) : EvWr (tSeq (tAsg te (gSub (tOp (rIxL KK) (tVar i) tr) tc rSetL)) u) ds i (eM M) res := fun N0 H0 σ N H S b w D q => by
  refine h σ N w.hs H w.eN _ fun v H1 N1 e1 n1 k1 g1 q1 => ?_
  have out1 : ∀ a ∈ S, N1 a = none := fun a ha => by
    obtain ⟨x, ex, rt⟩ := w.at_
    exact reg_none g1 (w.out a ha) (rt.there a ha)
  have w1 : WSt N1 H1 σ ds i (eM M) S := by
    obtain ⟨x, ex, rt⟩ := w.at_
    exact ⟨w.hs.mono n1, k1, ⟨x, ex, rt.mono e1⟩, w.nd, out1⟩
  obtain ⟨h1, h2, h3⟩ := w1.all
  obtain ⟨x, ex, rt⟩ := w1.at_
  refine ⟨x, ex, ?_⟩
  refine hr σ _ h1 H1 h2 _ fun y H2 N2 e2 n2 k2 g2 q2 => ?_
  cases q2
  have rt2 := rt.mono e2
  obtain ⟨p, S', hx, hS⟩ : ∃ (p : Addr) (S' : List Addr), x = .ref p ∧ S = p :: S' := by
    cases rt with
    | lst a b => exact ⟨_, _, rfl, rfl⟩
  subst hx
  obtain ⟨rs, eS, hp, hlen, hrow⟩ := mat_at rt2 w.nd
  have hrr : r.toNat < M.length := by omega
  have hrs : r.toNat < rs.length := by omega
  have er : r = ((r.toNat : Nat) : Int) := by omega
  have eM0 : M[r.toNat]? = some (M.getD r.toNat []) := by
    rw [List.getD_eq_getElem?_getD, List.getElem?_eq_getElem hrr]
    rfl
  have hat : atI (rs.map V.ref) r = some (.ref rs[r.toNat]) := by
    have q : (rs.map V.ref)[r.toNat]? = some (V.ref rs[r.toNat]) := by
      rw [List.getElem?_map, List.getElem?_eq_getElem hrs]
      rfl
    have q2 := atI_nat q
    rw [← er] at q2
    exact q2
  refine ⟨p, rs.map V.ref, r, _, rfl, rfl, sq_of hp, hat, ?_⟩
  refine hc σ N2 (h1.mono n2) H2 k2 _ fun y H3 N3 e3 n3 k3 g3 q3 => ?_
  cases q3
  have hq := hrow r.toNat rs[r.toNat] _ (List.getElem?_eq_getElem hrs) eM0
  refine ⟨rs[r.toNat], _, c, c.toNat, rfl, rfl, e3 _ _ hq, ?_, ?_⟩
  · unfold ixN
    rw [if_pos c0, if_pos (by rw [List.length_map]; exact c1)]
  have hmem : rs[r.toNat] ∈ S := by
    rw [eS]
    exact List.mem_cons_of_mem _ (List.getElem_mem hrs)
  have ndS := w.nd
  rw [eS] at ndS
  obtain ⟨np, ndr⟩ := List.nodup_cons.mp ndS
  have eall : Ex H0 (upd H3 rs[r.toNat] (.lst (((M.getD r.toNat []).map V.int).set c.toNat v))) := Ex.mut (((b.ex.trans e1).trans e2).trans e3) (b.fr _ hmem)
  have eN1 : Ex N1 (upd H3 rs[r.toNat] (.lst (((M.getD r.toNat []).map V.int).set c.toNat v))) := Ex.mut ((k1.trans e2).trans e3) (out1 _ hmem)
  generalize hH4 : upd H3 rs[r.toNat] (.lst (((M.getD r.toNat []).map V.int).set c.toNat v)) = H4 at eall eN1
  have at_p : H4 p = some (.lst (rs.map V.ref)) := by
    rw [← hH4, upd_ne (fun z => np (by rw [z]; exact List.getElem_mem hrs))]
    exact e3 _ _ hp
  have l1 : Ex N1 (HU N1 (only H4 S)) := hu_l _ _
  have l2 : Ex (only H4 S) (HU N1 (only H4 S)) := hu_r eN1 (only_ex H4 S)
  have l3 : Ex (HU N1 (only H4 S)) H4 := hu_in eN1 (only_ex H4 S)
  have inS : ∀ (a : Addr) (o : HO), a ∈ S → H4 a = some o → HU N1 (only H4 S) a = some o := fun a o ha ho => l2 a o (by rw [only_in ha]; exact ho)
  have data : Rp (HU N1 (only H4 S)) (.ref p) (setC M r c e) := by
    refine .lst (sq_of (inS p _ (by rw [eS]; exact List.mem_cons_self) at_p)) (RpAll.of_at (by simp [hlen]) fun kk a dd e4 e5 => ?_)
    rw [List.getElem?_map] at e4
    cases ea : rs[kk]? with
    | none =>
      rw [ea] at e4
      cases e4
    | some a' =>
      rw [ea] at e4
      have e4' : V.ref a' = a := Option.some.inj e4
      subst e4'
      have ha' : a' ∈ S := by
        rw [eS]
        exact List.mem_cons_of_mem _ (List.mem_of_getElem? ea)
      by_cases hk : r.toNat = kk
      · subst hk
        have e6 : a' = rs[r.toNat] := by
          rw [List.getElem?_eq_getElem hrs] at ea
          exact (Option.some.inj ea).symm
        rw [List.getElem?_set_self (by rw [List.length_map]; exact hrr)] at e5
        have e7 := Option.some.inj e5
        subst e6 e7
        exact .lst (sq_of (inS _ _ ha' (by rw [← hH4, upd_same]))) (RpAll.put _ (RpAll.ints _) (q1.mono l1))
      · rw [List.getElem?_set_ne hk, List.getElem?_map] at e5
        cases em : M[kk]? with
        | none =>
          rw [em] at e5
          cases e5
        | some row =>
          rw [em] at e5
          have e7 := Option.some.inj e5
          subst e7
          have hne : a' ≠ rs[r.toNat] := fun z => by
            obtain ⟨m1, f1⟩ := List.getElem?_eq_some_iff.mp ea
            exact hk ((List.getElem_inj ndr).mp (by rw [f1, ← z])).symm
          exact .lst (sq_of (inS _ _ ha' (by rw [← hH4, upd_ne hne]; exact e3 _ _ (hrow kk a' row ea em)))) (RpAll.ints row)
  refine k σ _ (((w.hs.mono n1).mono l1).put ex data) D H4 l3 fun v' H' N' e n kk g rr => q v' H' N' (eall.trans e) (((b.nn.trans n1).trans l1).trans n) kk (fun y hy => ?_) rr
  rcases g y hy with z | z
  · rcases hu_reg z with o | o
    · exact (g1 y o).elim (b.reg y) fun z2 => .inr (ex_none b.ex z2)
    · by_cases m : y ∈ S
      · exact .inr (b.fr y m)
      · rw [only_out m] at o
        exact absurd rfl o
  · exact .inr (ex_none eall z)
end
end DL
namespace DL
open PySem PySem.Spec PyProof.Rows L2 Evl
variable [Kn]
section
variable {E : XK} {u : TS} {ds : De} {tr tr2 tn : TE} {i : Nat} {e res : PyData} {R : List PyData → PyData → Prop} {Ec : XK}
/-- x[r] = f(x[r], n): a row's place taken by what f makes of it -/
theorem wr_setR {M : List (List Int)} {r n : Int} (hr : EvE tr (ds.set i (some (eM M))) (.int r)) (hr2 : EvE tr2 (ds.set i (some (eM M))) (.int r)) (hn : EvE tn (ds.set i (some (eM M))) (.int n)) (r0 : 0 ≤ r) (r1 : r < M.length) (hR : R [eI (M.getD r.toNat []), .int n] e)
    (k : EvS E u (ds.set i (some (.list ((M.map eI).set r.toNat e)))) (.rt res)) : EvWr (tSeq (tAsg (tCall (spF R) [] Ec (tCons (tOp (rIxL KK) (tVar i) tr) (tCons tn tNil))) (gSub (tVar i) tr2 rSetL)) u) ds i (eM M) res := fun N0 H0 σ N H S b w D q => by
  obtain ⟨h1, h2, h3⟩ := w.all
  obtain ⟨x, ex, rt⟩ := w.at_
  obtain ⟨p, S', hx, hS⟩ : ∃ (p : Addr) (S' : List Addr), x = .ref p ∧ S = p :: S' := by
    cases rt with
    | lst a b => exact ⟨_, _, rfl, rfl⟩
  subst hx
  have ndS := w.nd
  refine ⟨_, ex, hr σ _ h1 H h2 _ fun y H1 N1 e1 n1 k1 g1 q1 => ?_⟩
  cases q1
  have rt1 := rt.mono e1
  obtain ⟨rs, eS, hp, hlen, hrow⟩ := mat_at rt1 w.nd
  rw [eS] at ndS
  obtain ⟨np, ndr⟩ := List.nodup_cons.mp ndS
  have hrr : r.toNat < M.length := by omega
  have hrs : r.toNat < rs.length := by omega
  have er : r = ((r.toNat : Nat) : Int) := by omega
  have eM0 : M[r.toNat]? = some (M.getD r.toNat []) := by
    rw [List.getD_eq_getElem?_getD, List.getElem?_eq_getElem hrr]
    rfl
  have hat : atI (rs.map V.ref) r = some (.ref rs[r.toNat]) := by
    have q : (rs.map V.ref)[r.toNat]? = some (V.ref rs[r.toNat]) := by
      rw [List.getElem?_map, List.getElem?_eq_getElem hrs]
      rfl
    have q2 := atI_nat q
    rw [← er] at q2
    exact q2
  refine ⟨p, rs.map V.ref, r, _, rfl, rfl, sq_of hp, hat, ?_⟩
  refine hn σ N1 (h1.mono n1) H1 k1 _ fun y H2 N2 e2 n2 k2 g2 q2 => ?_
  cases q2
  have hq := e2 _ _ (hrow r.toNat rs[r.toNat] _ (List.getElem?_eq_getElem hrs) eM0)
  have hmem : rs[r.toNat] ∈ S := by
    rw [eS]
    exact List.mem_cons_of_mem _ (List.getElem_mem hrs)
  have hpS : p ∈ S := by
    rw [eS]
    exact List.mem_cons_self
  have hpq : p ≠ rs[r.toNat] := fun z => np (by rw [z]; exact List.getElem_mem hrs)
  have eNH2 : Ex N H2 := (w.eN.trans e1).trans e2
  -- what the call may know: the row, not the table
  have c1 : Ex N (HU N (only H2 [rs[r.toNat]])) := hu_l _ _
  have c2 : Ex (HU N (only H2 [rs[r.toNat]])) H2 := hu_in eNH2 (only_ex H2 _)
  have c3 : Ex (only H2 [rs[r.toNat]]) (HU N (only H2 [rs[r.toNat]])) := hu_r eNH2 (only_ex H2 _)
  have c4 : HU N (only H2 [rs[r.toNat]]) p = none := by
    cases z : HU N (only H2 [rs[r.toNat]]) p with
    | none => rfl
    | some o =>
      rcases hu_reg (show HU N (only H2 [rs[r.toNat]]) p ≠ none by rw [z]; intro y; cases y) with y | y
      · exact absurd (w.out p hpS) y
      · rw [only_out (by simpa using hpq)] at y
        exact absurd rfl y
  refine ⟨HU N (only H2 [rs[r.toNat]]), [eI (M.getD r.toNat []), .int n], e, c2, ?_, hR, fun v H3 N3 e3 n3 k3 g3 q3 => ?_⟩
  · exact .cons (.lst (sq_of (c3 _ _ (by rw [only_in (by simp)]; exact hq))) (RpAll.ints _)) (.cons (.int n) .nil)
  have hp3 : H3 p = some (.lst (rs.map V.ref)) := e3 _ _ (e2 _ _ hp)
  have f3 : N3 p = none := reg_none g3 c4 (by rw [e2 _ _ hp]; intro z; cases z)
  refine ⟨.ref p, ex, ?_⟩
  -- the index, once more
  have hold3 : Holds (HU N3 (only H3 S)) σ (ds.set i (some (eM M))) ∧ Ex (HU N3 (only H3 S)) H3 := by
    have rt3 := (rt1.mono e2).mono e3
    obtain ⟨a1, a2, a3⟩ := absorb k3 rt3
    exact ⟨(((w.hs.mono c1).mono n3).mono a1).put ex a3, a2⟩
  refine hr2 σ _ hold3.1 H3 hold3.2 _ fun y H4 N4 e4 n4 k4 g4 q4 => ?_
  cases q4
  refine ⟨p, rs.map V.ref, r, r.toNat, rfl, rfl, e4 _ _ hp3, ?_, ?_⟩
  · unfold ixN
    rw [if_pos r0, if_pos (by rw [List.length_map]; omega)]
  have eall : Ex H0 (upd H4 p (.lst ((rs.map V.ref).set r.toNat v))) := Ex.mut ((((b.ex.trans e1).trans e2).trans e3).trans e4) (b.fr _ hpS)
  have eN3 : Ex N3 (upd H4 p (.lst ((rs.map V.ref).set r.toNat v))) := Ex.mut (k3.trans e4) f3
  have row5 : ∀ (kk : Nat) (a : Addr) (row : List Int), rs[kk]? = some a → M[kk]? = some row → upd H4 p (.lst ((rs.map V.ref).set r.toNat v)) a = some (.lst (row.map V.int)) := fun kk a row ea em => by
    rw [upd_ne (fun z => np (by rw [← z]; exact List.mem_of_getElem? ea))]
    exact e4 _ _ (e3 _ _ (e2 _ _ (hrow kk a row ea em)))
  have p5 : upd H4 p (.lst ((rs.map V.ref).set r.toNat v)) p = some (.lst ((rs.map V.ref).set r.toNat v)) := upd_same
  generalize upd H4 p (.lst ((rs.map V.ref).set r.toNat v)) = H5 at eall eN3 row5 p5
  have l1 : Ex N3 (HU N3 (only H5 S)) := hu_l _ _
  have l2 : Ex (only H5 S) (HU N3 (only H5 S)) := hu_r eN3 (only_ex H5 S)
  have l3 : Ex (HU N3 (only H5 S)) H5 := hu_in eN3 (only_ex H5 S)
  have inS : ∀ (a : Addr) (o : HO), a ∈ S → H5 a = some o → HU N3 (only H5 S) a = some o := fun a o ha ho => l2 a o (by rw [only_in ha]; exact ho)
  have data : Rp (HU N3 (only H5 S)) (.ref p) (.list ((M.map eI).set r.toNat e)) := by
    refine .lst (sq_of (inS p _ hpS p5)) (RpAll.put _ (RpAll.of_at (by simp [hlen]) fun kk a dd e5 e6 => ?_) (q3.mono l1))
    rw [List.getElem?_map] at e5
    cases ea : rs[kk]? with
    | none =>
      rw [ea] at e5
      cases e5
    | some a' =>
      rw [ea] at e5
      have e5' : V.ref a' = a := Option.some.inj e5
      subst e5'
      rw [List.getElem?_map] at e6
      cases em : M[kk]? with
      | none =>
        rw [em] at e6
        cases e6
      | some row =>
        rw [em] at e6
        have e7 := Option.some.inj e6
        subst e7
        exact .lst (sq_of (inS _ _ (by rw [eS]; exact List.mem_cons_of_mem _ (List.mem_of_getElem? ea)) (row5 kk a' row ea em))) (RpAll.ints row)
  refine k σ _ ((((w.hs.mono c1).mono n3).mono l1).put ex data) D H5 l3 fun v' H' N' e6 n6 kk g6 rr => q v' H' N' (eall.trans e6) ((((b.nn.trans c1).trans n3).trans l1).trans n6) kk (fun y hy => ?_) rr
  rcases g6 y hy with z | z
  · rcases hu_reg z with o | o
    · rcases g3 y o with o2 | o2
      · rcases hu_reg o2 with o3 | o3
        · exact b.reg y o3
        · by_cases m : y ∈ [rs[r.toNat]]
          · have m2 : y = rs[r.toNat] := by simpa using m
            rw [m2]
            exact .inr (b.fr _ hmem)
          · rw [only_out m] at o3
            exact absurd rfl o3
      · exact .inr (ex_none ((b.ex.trans e1).trans e2) o2)
    · by_cases m : y ∈ S
      · exact .inr (b.fr y m)
      · rw [only_out m] at o
        exact absurd rfl o
  · exact .inr (ex_none eall z)
end
end DL
namespace DL
open PySem L2
theorem room_far {k : Nat} {A : Around} (r : Room k A) : A.units + 100 < cLine := by
  have := r.un
  omega
end DL
set_option Elab.async false
set_option linter.all false
set_option maxRecDepth 100000
set_option maxHeartbeats 2000000
/-! [f x y for x, y in zip(xs, ys)], two lists of as many items. -/
namespace DL
open PySem PySem.Spec PyProof.Rows L2 Evl
set_option autoImplicit false
variable [Kn]
section
variable {ds : De} {tl tm te : TE} {j k : Nat} {A B : Type}
theorem ev_lcP {xs : List A} {ys : List B} {ga : A → PyData} {gb : B → PyData} {f : A → B → PyData} (h : EvE tl ds (.list (xs.map ga))) (h' : EvE tm ds (.list (ys.map gb))) (hl : xs.length = ys.length) (hz : xs.length < 100000)
    (he : ∀ (i : Nat) (x : A) (y : B), xs[i]? = some x → ys[i]? = some y → EvE te (((wipeD ds [j, k]).set j (some (ga x))).set k (some (gb y))) (f x y)) :
    EvE (tLc (iZip KK (tCons tl (tCons tm tNil))) (gTup KK 2 (gCons (gName j) (gCons (gName k) gNil))) tYes te [j, k]) ds (.list (List.zipWith f xs ys)) := fun σ N hs H eN Q q =>
  h σ N hs H eN _ fun v H1 N1 e1 n1 k1 g1 r1 => h' σ N1 (hs.mono n1) H1 k1 _ fun v2 H2 N2 e2 n2 k2 g2 r2 => by
    cases r1 with
    | @lst a vs _ hr hall =>
      cases r2 with
      | @lst b us _ hr2 hall2 =>
        refine ⟨a, b, vs, us, rfl, ex_l (n2.trans k2) hr, ex_l k2 hr2, fun D hD => ?_⟩
        have l1 : vs.length = xs.length := by rw [hall.length, List.length_map]
        have l2 : us.length = ys.length := by rw [hall2.length, List.length_map]
        have e12 : Ex H H2 := e1.trans e2
        have g12 : Reg N H N2 := g1.trans e1 g2
        refine ⟨fun i m H' => m = xs.length - i ∧ i ≤ xs.length ∧ Cq N H H2 N2 D ((List.zipWith f xs ys).take i) H', ⟨xs.length, by simp, Nat.zero_le _, Cq.start e12 k2 g12 hD⟩, ?_⟩
        rintro i m H' ⟨rfl, hi, c⟩
        have sq1 : SqL KK H' a vs := ex_l (n2.trans c.known) hr
        have sq2 : SqL KK H' b us := ex_l c.known hr2
        by_cases hlt : i < xs.length
        · have ex : xs[i]? = some xs[i] := List.getElem?_eq_getElem hlt
          have hly : i < ys.length := by omega
          have ey : ys[i]? = some ys[i] := List.getElem?_eq_getElem hly
          obtain ⟨x, e3, rx⟩ := hall.get (i := i) (d := ga xs[i]) (by rw [List.getElem?_map, ex]; rfl)
          obtain ⟨y, e4, ry⟩ := hall2.get (i := i) (d := gb ys[i]) (by rw [List.getElem?_map, ey]; rfl)
          refine .inr ⟨⟨vs, us, x, y, sq1, sq2, e3, e4⟩, fun H'' => Cq N H H2 N2 D ((List.zipWith f xs ys).take (i + 1)) H'', fun H'' c' => ⟨xs.length - (i + 1), by omega, rfl, hlt, c'⟩, fun z H'' w => ?_⟩
          obtain ⟨T, x', y', rfl, hT, rfl, w1, w2⟩ := w
          have q1 : x' = x := Option.some.inj ((w1 vs sq1).symm.trans e3)
          have q2 : y' = y := Option.some.inj ((w2 us sq2).symm.trans e4)
          subst q1 q2
          have eT : Ex H' (upd H' T (.tup [x', y'])) := Ex.new hT
          refine ⟨T, _, rfl, .inl (.inl upd_same), rfl, _, _, rfl, _, _, rfl, rfl, ?_⟩
          refine ⟨by rw [wipe_set _ (by simp), wipe_set _ (by simp), wipe_wipe], ?_⟩
          have hs2 : Holds N2 (((wipe σ [j, k]).set j (some x')).set k (some y')) (((wipeD ds [j, k]).set j (some (ga xs[i]))).set k (some (gb ys[i]))) := ((((hs.mono n1).mono n2).wipe [j, k]).set (rx.mono n2) j).set ry k
          have ez : (List.zipWith f xs ys)[i]? = some (f xs[i] ys[i]) := by
            rw [List.getElem?_zipWith, ex, ey]
          exact cq_turn (b := true) (d := f xs[i] ys[i]) (c.on eT) e12 hD (by rw [List.length_take]; omega) hs2 eb_yes (fun _ => he i _ _ ex ey) (fun _ H6 c6 => by rw [take_snoc ez]; exact c6) fun z => nomatch z
        · have ei : i = xs.length := by omega
          subst ei
          refine .inl ⟨⟨vs, us, sq1, sq2, .inl (by omega)⟩, ?_⟩
          have z : (List.zipWith f xs ys).take xs.length = List.zipWith f xs ys := List.take_of_length_le (by rw [List.length_zipWith]; omega)
          rw [z] at c
          exact c.fin e12 (n1.trans n2) hD q
end
end DL
set_option Elab.async false
set_option linter.all false
set_option maxRecDepth 100000
set_option maxHeartbeats 2000000
/-! x in xs, x not in xs, of data; min of a list of ints. -/
namespace DL
open PySem PySem.Spec PyProof.Rows L2 Evl
set_option autoImplicit false
theorem k_inD {X : Cx} {K : PySem.W.Frag} (hu : X.A.units + 100 < cLine) (hK : X.K = K := by rfl) : OpR X (compareOp .In) (rInD K) := by
  subst hK
  exact op_inD (by omega)
theorem k_notInD {X : Cx} {K : PySem.W.Frag} (hu : X.A.units + 100 < cLine) (hK : X.K = K := by rfl) : OpR X (compareOp .NotIn) (rNotInD K) := by
  subst hK
  exact op_notInD (by omega)
theorem k_min {X : Cx} {K : PySem.W.Frag} (hc : X.calm = true) (hK : X.K = K := by rfl) : CallR X (.builtin "min") (rMin K) := by
  subst hK
  exact cr_min hc
variable [Kn]
section
variable {ds : De} {ta tb : TE} {d : PyData} {ts : List PyData}
theorem ev_in (ha : EvE ta ds d) (hb : EvE tb ds (.list ts)) (nd : noDict d = true) (ne : noDict (.list ts) = true) (sd : SeqAt.shaped d = true) (se : SeqAt.shaped (.list ts) = true) : EvE (tOp (rInD KK) ta tb) ds (.bool (ts.any fun z => PyData.eqv z d)) :=
  ev_opV (v := .bl (ts.any fun z => PyData.eqv z d)) ha hb (fun _ => .bl _) fun x y N H eN rx ry Q q => ⟨d, ts, (rx.mono eN).dp nd, (ry.mono eN).dp ne, sd, se, q⟩
theorem ev_notIn (ha : EvE ta ds d) (hb : EvE tb ds (.list ts)) (nd : noDict d = true) (ne : noDict (.list ts) = true) (sd : SeqAt.shaped d = true) (se : SeqAt.shaped (.list ts) = true) : EvE (tOp (rNotInD KK) ta tb) ds (.bool (!ts.any fun z => PyData.eqv z d)) :=
  ev_opV (v := .bl (!ts.any fun z => PyData.eqv z d)) ha hb (fun _ => .bl _) fun x y N H eN rx ry Q q => ⟨d, ts, (rx.mono eN).dp nd, (ry.mono eN).dp ne, sd, se, q⟩
theorem ev_min {tx : TE} {ns : List Int} {m : Int} (h : EvE tx ds (.list (ns.map .int))) (hm : m ∈ ns) (least : ∀ y ∈ ns, m ≤ y) : EvE (tCB (rMin KK) (tCons tx tNil)) ds (.int m) :=
  ev_cbV (v := .int m) (ea_cons h ea_nil) (fun _ => .int _) fun vs N H eN rv Q q => by
    cases rv with
    | cons r rr =>
      cases rr
      cases r with
      | lst hr hall =>
        have e := hall.ofInts
        subst e
        refine ⟨_, ns, rfl, ex_l eN hr, List.length_pos_of_mem hm, fun k hk lk => ?_⟩
        have a := lk m hm
        have b := least k hk
        rw [show k = m by omega]
        exact q
end
end DL
set_option Elab.async false
set_option linter.all false
set_option maxRecDepth 100000
set_option maxHeartbeats 2000000
/-! for x, y in zip(xs, ys): all turns to the end, or one turn returns. -/
namespace DL
open PySem PySem.Spec PyProof.Rows L2 Evl
set_option autoImplicit false
variable [Kn]
section
variable {E : XK} {tb : TS} {ds : De} {tl tm : TE} {j k : Nat}
/-- d: what is handed back, where the turn m does so -/
theorem es_forP {xs ys : List PyData} (h : EvE tl ds (.list xs)) (h' : EvE tm ds (.list ys)) (hl : xs.length = ys.length) (S : Nat → De) (h0 : Le (S 0) ds)
    (turn : ∀ i x y, xs[i]? = some x → ys[i]? = some y → EvS E tb (((S i).set j (some x)).set k (some y)) (.go (S (i + 1)))) :
    EvS E (tFor (iZip KK (tCons tl (tCons tm tNil))) (gTup KK 2 (gCons (gName j) (gCons (gName k) gNil))) tb) ds (.nx (S xs.length)) := fun σ N hs D H eN a =>
  h σ N hs H eN _ fun v H1 N1 e1 n1 k1 g1 r1 => h' σ N1 (hs.mono n1) H1 k1 _ fun v2 H2 N2 e2 n2 k2 g2 r2 => by
    cases r1 with
    | @lst p vs _ hr hall =>
      cases r2 with
      | @lst q us _ hr2 hall2 =>
        refine ⟨p, q, vs, us, rfl, ex_l (n2.trans k2) hr, ex_l k2 hr2, ?_⟩
        have l1 := hall.length
        have l2 := hall2.length
        have e12 : Ex H H2 := e1.trans e2
        have g12 : Reg N H N2 := g1.trans e1 g2
        refine ⟨fun i m σ' H' => m = xs.length - i ∧ i ≤ xs.length ∧ Lw D N2 H2 S i σ' H', ⟨xs.length, by simp, Nat.zero_le _, N2, Ex.refl _, Ex.refl _, k2, Reg.refl, ((hs.mono n1).mono n2).le h0⟩, ?_⟩
        rintro i m σ' H' ⟨rfl, hi, N', b1, b2, b3, b4, b5⟩
        have sq1 : SqL KK H' p vs := ex_l (n2.trans (b2.trans b3)) hr
        have sq2 : SqL KK H' q us := ex_l (b2.trans b3) hr2
        by_cases hlt : i < xs.length
        · have hly : i < ys.length := by omega
          have ex : xs[i]? = some xs[i] := List.getElem?_eq_getElem hlt
          have ey : ys[i]? = some ys[i] := List.getElem?_eq_getElem hly
          obtain ⟨x, e3, rx⟩ := hall.get ex
          obtain ⟨y, e4, ry⟩ := hall2.get ey
          refine .inr ⟨⟨vs, us, x, y, sq1, sq2, e3, e4⟩, fun σ'' H'' => Lw D N2 H2 S (i + 1) σ'' H'', fun σ'' H'' c' => ⟨xs.length - (i + 1), by omega, rfl, hlt, c'⟩, fun z H'' w => ?_⟩
          obtain ⟨T, x', y', rfl, hT, rfl, w1, w2⟩ := w
          have q1 : x' = x := Option.some.inj ((w1 vs sq1).symm.trans e3)
          have q2 : y' = y := Option.some.inj ((w2 us sq2).symm.trans e4)
          subst q1 q2
          have eT : Ex H' (upd H' T (.tup [x', y'])) := Ex.new hT
          refine ⟨T, _, rfl, .inl (.inl upd_same), rfl, _, _, rfl, _, _, rfl, rfl, ?_⟩
          refine turn i _ _ ex ey _ N' ((b5.set ((rx.mono n2).mono b2) j).set (ry.mono b2) k) _ _ (b3.trans eT) ⟨?_, ?_⟩
          · exact fun σ2 H4 N4 c1 c2 c3 c4 c5 => ⟨N4, (b1.trans eT).trans c1, b2.trans c2, c3, b4.trans (b1.trans eT) c4, c5⟩
          · exact fun σ2 H4 N4 c1 c2 c3 c4 c5 => ⟨N4, (b1.trans eT).trans c1, b2.trans c2, c3, b4.trans (b1.trans eT) c4, c5⟩
        · have ei : i = xs.length := by omega
          subst ei
          exact .inl ⟨⟨vs, us, sq1, sq2, .inl (by omega)⟩, a σ' H' N' (e12.trans b1) ((n1.trans n2).trans b2) b3 (g12.trans e12 b4) b5⟩
theorem es_forPr {xs ys : List PyData} {d : PyData} {m : Nat} (h : EvE tl ds (.list xs)) (h' : EvE tm ds (.list ys)) (hl : xs.length = ys.length) (S : Nat → De) (h0 : Le (S 0) ds) (hm : m < xs.length)
    (turn : ∀ i x y, i < m → xs[i]? = some x → ys[i]? = some y → EvS E tb (((S i).set j (some x)).set k (some y)) (.go (S (i + 1)))) (last : ∀ x y, xs[m]? = some x → ys[m]? = some y → EvS E tb (((S m).set j (some x)).set k (some y)) (.rt d)) :
    EvS E (tFor (iZip KK (tCons tl (tCons tm tNil))) (gTup KK 2 (gCons (gName j) (gCons (gName k) gNil))) tb) ds (.rt d) := fun σ N hs D H eN a =>
  h σ N hs H eN _ fun v H1 N1 e1 n1 k1 g1 r1 => h' σ N1 (hs.mono n1) H1 k1 _ fun v2 H2 N2 e2 n2 k2 g2 r2 => by
    cases r1 with
    | @lst p vs _ hr hall =>
      cases r2 with
      | @lst q us _ hr2 hall2 =>
        refine ⟨p, q, vs, us, rfl, ex_l (n2.trans k2) hr, ex_l k2 hr2, ?_⟩
        have l1 := hall.length
        have l2 := hall2.length
        have e12 : Ex H H2 := e1.trans e2
        have g12 : Reg N H N2 := g1.trans e1 g2
        refine ⟨fun i n σ' H' => n = xs.length - i ∧ i ≤ m ∧ Lw D N2 H2 S i σ' H', ⟨xs.length, by simp, Nat.zero_le _, N2, Ex.refl _, Ex.refl _, k2, Reg.refl, ((hs.mono n1).mono n2).le h0⟩, ?_⟩
        rintro i n σ' H' ⟨rfl, hi, N', b1, b2, b3, b4, b5⟩
        have sq1 : SqL KK H' p vs := ex_l (n2.trans (b2.trans b3)) hr
        have sq2 : SqL KK H' q us := ex_l (b2.trans b3) hr2
        have hlt : i < xs.length := by omega
        have hly : i < ys.length := by omega
        have ex : xs[i]? = some xs[i] := List.getElem?_eq_getElem hlt
        have ey : ys[i]? = some ys[i] := List.getElem?_eq_getElem hly
        obtain ⟨x, e3, rx⟩ := hall.get ex
        obtain ⟨y, e4, ry⟩ := hall2.get ey
        refine .inr ⟨⟨vs, us, x, y, sq1, sq2, e3, e4⟩, fun σ'' H'' => i < m ∧ Lw D N2 H2 S (i + 1) σ'' H'', fun σ'' H'' c' => ⟨xs.length - (i + 1), by omega, rfl, c'.1, c'.2⟩, fun z H'' w => ?_⟩
        obtain ⟨T, x', y', rfl, hT, rfl, w1, w2⟩ := w
        have q1 : x' = x := Option.some.inj ((w1 vs sq1).symm.trans e3)
        have q2 : y' = y := Option.some.inj ((w2 us sq2).symm.trans e4)
        subst q1 q2
        have eT : Ex H' (upd H' T (.tup [x', y'])) := Ex.new hT
        refine ⟨T, _, rfl, .inl (.inl upd_same), rfl, _, _, rfl, _, _, rfl, rfl, ?_⟩
        by_cases him : i < m
        · refine turn i _ _ him ex ey _ N' ((b5.set ((rx.mono n2).mono b2) j).set (ry.mono b2) k) _ _ (b3.trans eT) ⟨?_, ?_⟩
          · exact fun σ2 H4 N4 c1 c2 c3 c4 c5 => ⟨him, N4, (b1.trans eT).trans c1, b2.trans c2, c3, b4.trans (b1.trans eT) c4, c5⟩
          · exact fun σ2 H4 N4 c1 c2 c3 c4 c5 => ⟨him, N4, (b1.trans eT).trans c1, b2.trans c2, c3, b4.trans (b1.trans eT) c4, c5⟩
        · have ei : i = m := by omega
          subst ei
          refine last _ _ ex ey _ N' ((b5.set ((rx.mono n2).mono b2) j).set (ry.mono b2) k) _ _ (b3.trans eT) ?_
          exact fun v H4 N4 c1 c2 c3 c4 c5 => a v H4 N4 ((e12.trans (b1.trans eT)).trans c1) (((n1.trans n2).trans b2).trans c2) c3 ((g12.trans e12 b4).trans (e12.trans (b1.trans eT)) c4) c5
end
end DL
set_option Elab.async false
set_option linter.all false
set_option maxRecDepth 100000
set_option maxHeartbeats 2000000
/-! Owned trees beside what is known; statements that change them; all told by functions from slots to slots. -/
namespace FX
open PySem PySem.Spec PyProof.Rows L2 Evl DL
set_option autoImplicit false
variable [Kn]
abbrev St := L2.St

mutual
def imm : PyData → Bool
  | .list _ => false
  | .dict _ => false
  | .tuple ds => immAll ds
  | _ => true
def immAll : List PyData → Bool
  | [] => true
  | d :: ds => imm d && immAll ds
end
def isTup : PyData → Bool
  | .tuple _ => true
  | _ => false
/-- what may be shared in a tree of the code c; 10 and more: pinned -/
def leafC : Nat → PyData → Bool
  | 0, _ => true
  | 1, d => imm d
  | 2, d => imm d || isTup d
  | _, d => flatD d
def leafOk (c : Nat) (d : PyData) : Bool := leafC (c % 10) d
theorem flat_imm {d : PyData} (h : flatD d = true) : imm d = true := by cases d <;> first | rfl | cases h
theorem leaf_flat {d : PyData} (c : Nat) (h : flatD d = true) : leafOk c d = true := by
  unfold leafOk
  match c % 10 with
  | 0 => rfl
  | 1 => exact flat_imm h
  | 2 => exact by show (imm d || isTup d) = true; rw [flat_imm h]; rfl
  | n + 3 => exact h
theorem rp_flat {N N' : Hp} {v : V} {d : PyData} (r : Rp N v d) (h : flatD d = true) : Rp N' v d := by
  cases r with
  | non => exact .non
  | bl b => exact .bl b
  | int i => exact .int i
  | str x => exact .str x
  | lst _ _ => cases h
  | tup _ _ => cases h
  | dct _ _ => cases h

/-! ### owned trees -/
mutual
inductive Ow (N H : Hp) (c : Nat) : V → PyData → List Addr → Prop
  | leaf {v : V} {d : PyData} : leafOk c d = true → Rp N v d → Ow N H c v d []
  | lst {a : Addr} {xs : List V} {ds : List PyData} {S : List Addr} : H a = some (.lst xs) → Ows N H c xs ds S → Ow N H c (.ref a) (.list ds) (a :: S)
  | tup {a : Addr} {xs : List V} {ds : List PyData} {S : List Addr} : H a = some (.tup xs) → Ows N H c xs ds S → Ow N H c (.ref a) (.tuple ds) (a :: S)
  | dct {a : Addr} {kvs : List (Key × V)} {ds : List (PyData × PyData)} {S : List Addr} : H a = some (.dK kvs) → Owd N H c kvs ds S → Ow N H c (.ref a) (.dict ds) (a :: S)
inductive Ows (N H : Hp) (c : Nat) : List V → List PyData → List Addr → Prop
  | nil : Ows N H c [] [] []
  | cons {v : V} {vs : List V} {d : PyData} {ds : List PyData} {S S' : List Addr} : Ow N H c v d S → Ows N H c vs ds S' → Ows N H c (v :: vs) (d :: ds) (S ++ S')
inductive Owd (N H : Hp) (c : Nat) : List (Key × V) → List (PyData × PyData) → List Addr → Prop
  | nil : Owd N H c [] [] []
  | cons {k : Key} {v : V} {kvs : List (Key × V)} {dk d : PyData} {ds : List (PyData × PyData)} {S S' : List Addr} : Rp N (kV k) dk → Ow N H c v d S → Owd N H c kvs ds S' → Owd N H c ((k, v) :: kvs) ((dk, d) :: ds) (S ++ S')
end
mutual
theorem Ow.agree {N H H' : Hp} {c : Nat} : ∀ {v : V} {d : PyData} {S : List Addr}, Ow N H c v d S → (∀ a ∈ S, H' a = H a) → Ow N H' c v d S
  | _, _, _, .leaf h r, _ => .leaf h r
  | _, _, _, .lst h r, e => .lst (by rw [e _ List.mem_cons_self]; exact h) (Ows.agree r fun a ha => e a (List.mem_cons_of_mem _ ha))
  | _, _, _, .tup h r, e => .tup (by rw [e _ List.mem_cons_self]; exact h) (Ows.agree r fun a ha => e a (List.mem_cons_of_mem _ ha))
  | _, _, _, .dct h r, e => .dct (by rw [e _ List.mem_cons_self]; exact h) (Owd.agree r fun a ha => e a (List.mem_cons_of_mem _ ha))
theorem Ows.agree {N H H' : Hp} {c : Nat} : ∀ {v : List V} {d : List PyData} {S : List Addr}, Ows N H c v d S → (∀ a ∈ S, H' a = H a) → Ows N H' c v d S
  | _, _, _, .nil, _ => .nil
  | _, _, _, .cons h r, e => .cons (Ow.agree h fun a ha => e a (List.mem_append_left _ ha)) (Ows.agree r fun a ha => e a (List.mem_append_right _ ha))
theorem Owd.agree {N H H' : Hp} {c : Nat} : ∀ {v : List (Key × V)} {d : List (PyData × PyData)} {S : List Addr}, Owd N H c v d S → (∀ a ∈ S, H' a = H a) → Owd N H' c v d S
  | _, _, _, .nil, _ => .nil
  | _, _, _, .cons q h r, e => .cons q (Ow.agree h fun a ha => e a (List.mem_append_left _ ha)) (Owd.agree r fun a ha => e a (List.mem_append_right _ ha))
end
mutual
theorem Ow.there {N H : Hp} {c : Nat} : ∀ {v : V} {d : PyData} {S : List Addr}, Ow N H c v d S → ∀ a ∈ S, H a ≠ none
  | _, _, _, .leaf _ _, _, ha => nomatch ha
  | _, _, _, .lst h r, a, ha => (List.mem_cons.mp ha).elim (fun e => by rw [e, h]; intro z; cases z) fun q => Ows.there r a q
  | _, _, _, .tup h r, a, ha => (List.mem_cons.mp ha).elim (fun e => by rw [e, h]; intro z; cases z) fun q => Ows.there r a q
  | _, _, _, .dct h r, a, ha => (List.mem_cons.mp ha).elim (fun e => by rw [e, h]; intro z; cases z) fun q => Owd.there r a q
theorem Ows.there {N H : Hp} {c : Nat} : ∀ {v : List V} {d : List PyData} {S : List Addr}, Ows N H c v d S → ∀ a ∈ S, H a ≠ none
  | _, _, _, .nil, _, ha => nomatch ha
  | _, _, _, .cons h r, a, ha => (List.mem_append.mp ha).elim (Ow.there h a) (Ows.there r a)
theorem Owd.there {N H : Hp} {c : Nat} : ∀ {v : List (Key × V)} {d : List (PyData × PyData)} {S : List Addr}, Owd N H c v d S → ∀ a ∈ S, H a ≠ none
  | _, _, _, .nil, _, ha => nomatch ha
  | _, _, _, .cons _ h r, a, ha => (List.mem_append.mp ha).elim (Ow.there h a) (Owd.there r a)
end
theorem Ow.mono {N H H' : Hp} {c : Nat} {v : V} {d : PyData} {S : List Addr} (r : Ow N H c v d S) (e : Ex H H') : Ow N H' c v d S := r.agree fun a ha => by
  cases h : H a with
  | none => exact absurd h (r.there a ha)
  | some o => exact e a o h
theorem Ows.mono {N H H' : Hp} {c : Nat} {v : List V} {d : List PyData} {S : List Addr} (r : Ows N H c v d S) (e : Ex H H') : Ows N H' c v d S := r.agree fun a ha => by
  cases h : H a with
  | none => exact absurd h (r.there a ha)
  | some o => exact e a o h
theorem Owd.mono {N H H' : Hp} {c : Nat} {v : List (Key × V)} {d : List (PyData × PyData)} {S : List Addr} (r : Owd N H c v d S) (e : Ex H H') : Owd N H' c v d S := r.agree fun a ha => by
  cases h : H a with
  | none => exact absurd h (r.there a ha)
  | some o => exact e a o h
mutual
theorem Ow.recode {N N' H : Hp} {c c' : Nat} (hl : ∀ v d, leafOk c d = true → Rp N v d → leafOk c' d = true ∧ Rp N' v d) (hk : ∀ k d, Rp N (kV k) d → Rp N' (kV k) d) : ∀ {v : V} {d : PyData} {S : List Addr}, Ow N H c v d S → Ow N' H c' v d S
  | _, _, _, .leaf h r => .leaf (hl _ _ h r).1 (hl _ _ h r).2
  | _, _, _, .lst h r => .lst h (Ows.recode hl hk r)
  | _, _, _, .tup h r => .tup h (Ows.recode hl hk r)
  | _, _, _, .dct h r => .dct h (Owd.recode hl hk r)
theorem Ows.recode {N N' H : Hp} {c c' : Nat} (hl : ∀ v d, leafOk c d = true → Rp N v d → leafOk c' d = true ∧ Rp N' v d) (hk : ∀ k d, Rp N (kV k) d → Rp N' (kV k) d) : ∀ {v : List V} {d : List PyData} {S : List Addr}, Ows N H c v d S → Ows N' H c' v d S
  | _, _, _, .nil => .nil
  | _, _, _, .cons h r => .cons (Ow.recode hl hk h) (Ows.recode hl hk r)
theorem Owd.recode {N N' H : Hp} {c c' : Nat} (hl : ∀ v d, leafOk c d = true → Rp N v d → leafOk c' d = true ∧ Rp N' v d) (hk : ∀ k d, Rp N (kV k) d → Rp N' (kV k) d) : ∀ {v : List (Key × V)} {d : List (PyData × PyData)} {S : List Addr}, Owd N H c v d S → Owd N' H c' v d S
  | _, _, _, .nil => .nil
  | _, _, _, .cons q h r => .cons (hk _ _ q) (Ow.recode hl hk h) (Owd.recode hl hk r)
end
theorem Ow.monoN {N N' H : Hp} {c : Nat} {v : V} {d : PyData} {S : List Addr} (r : Ow N H c v d S) (e : Ex N N') : Ow N' H c v d S := r.recode (fun _ _ h r => ⟨h, r.mono e⟩) fun _ _ r => r.mono e
theorem rp_key {N N' : Hp} {k : Key} {d : PyData} (r : Rp N (kV k) d) : Rp N' (kV k) d := by
  cases k with
  | inl i => cases r; exact .int i
  | inr x => cases r; exact .str x
/-- a wholly new tree may be kept anywhere -/
theorem Ow.new {N N' H : Hp} {c : Nat} {v : V} {d : PyData} {S : List Addr} (r : Ow N H 3 v d S) : Ow N' H c v d S := r.recode (c := 3) (c' := c) (fun _ d h r => have h' : flatD d = true := h; ⟨leaf_flat c h', rp_flat r h'⟩) fun _ _ r => rp_key r
theorem Ows.new {N N' H : Hp} {c : Nat} {v : List V} {d : List PyData} {S : List Addr} (r : Ows N H 3 v d S) : Ows N' H c v d S := r.recode (c := 3) (c' := c) (fun _ d h r => have h' : flatD d = true := h; ⟨leaf_flat c h', rp_flat r h'⟩) fun _ _ r => rp_key r
mutual
theorem Ow.rp {N H M : Hp} {c : Nat} (e : Ex N M) : ∀ {v : V} {d : PyData} {S : List Addr}, Ow N H c v d S → (∀ a ∈ S, M a = H a) → Rp M v d
  | _, _, _, .leaf _ r, _ => r.mono e
  | _, _, _, .lst h r, m => .lst (sq_of (by rw [m _ List.mem_cons_self]; exact h)) (Ows.rp e r fun a ha => m a (List.mem_cons_of_mem _ ha))
  | _, _, _, .tup h r, m => .tup (.inl (by rw [m _ List.mem_cons_self]; exact h)) (Ows.rp e r fun a ha => m a (List.mem_cons_of_mem _ ha))
  | _, _, _, .dct h r, m => .dct (by rw [m _ List.mem_cons_self]; exact h) (Owd.rp e r fun a ha => m a (List.mem_cons_of_mem _ ha))
theorem Ows.rp {N H M : Hp} {c : Nat} (e : Ex N M) : ∀ {v : List V} {d : List PyData} {S : List Addr}, Ows N H c v d S → (∀ a ∈ S, M a = H a) → RpAll M v d
  | _, _, _, .nil, _ => .nil
  | _, _, _, .cons h r, m => .cons (Ow.rp e h fun a ha => m a (List.mem_append_left _ ha)) (Ows.rp e r fun a ha => m a (List.mem_append_right _ ha))
theorem Owd.rp {N H M : Hp} {c : Nat} (e : Ex N M) : ∀ {v : List (Key × V)} {d : List (PyData × PyData)} {S : List Addr}, Owd N H c v d S → (∀ a ∈ S, M a = H a) → RpD M v d
  | _, _, _, .nil, _ => .nil
  | _, _, _, .cons q h r, m => .cons (q.mono e) (Ow.rp e h fun a ha => m a (List.mem_append_left _ ha)) (Owd.rp e r fun a ha => m a (List.mem_append_right _ ha))
end
theorem Ow.leafOf {N H : Hp} {c : Nat} {v : V} {d : PyData} {S : List Addr} (r : Ow N H c v d S) (h : S = []) : leafOk c d = true ∧ Rp N v d := by
  cases r with
  | leaf a b => exact ⟨a, b⟩
  | lst _ _ => cases h
  | tup _ _ => cases h
  | dct _ _ => cases h
theorem Ows.length {N H : Hp} {c : Nat} : ∀ {vs : List V} {ds : List PyData} {S : List Addr}, Ows N H c vs ds S → vs.length = ds.length
  | _, _, _, .nil => rfl
  | _, _, _, .cons _ r => by
    show _ + 1 = _ + 1
    rw [Ows.length r]
theorem Ow.flat {N N' H : Hp} {c : Nat} {v : V} {d : PyData} (r : Rp N v d) (h : flatD d = true) : Ow N' H c v d [] := .leaf (leaf_flat c h) (rp_flat r h)
def nilH : Hp := fun _ => none

/-! ### what is owned by the slots -/
abbrev Fp := Nat → List Addr
def Fp.put (F : Fp) (i : Nat) (S : List Addr) : Fp := fun j => if j = i then S else F j
theorem Fp.put_same {F : Fp} {i : Nat} {S : List Addr} : F.put i S i = S := by unfold Fp.put; rw [if_pos rfl]
theorem Fp.put_ne {F : Fp} {i j : Nat} {S : List Addr} (h : j ≠ i) : F.put i S j = F j := by unfold Fp.put; rw [if_neg h]
open Classical in
noncomputable def lump (N H : Hp) (F : Fp) : Hp := fun a => match N a with
  | some o => some o
  | none => if ∃ i, a ∈ F i then H a else none
section
variable {N H : Hp} {F : Fp}
theorem lump_ex : Ex N (lump N H F) := fun a o e => by
  unfold lump
  rw [e]
theorem lump_in (eN : Ex N H) : Ex (lump N H F) H := fun a o e => by
  unfold lump at e
  cases h : N a with
  | some u' =>
    rw [h] at e
    cases e
    exact eN a _ h
  | none =>
    rw [h] at e
    simp only at e
    split at e
    · exact e
    · cases e
theorem lump_at {i : Nat} {a : Addr} (h : N a = none) (ha : a ∈ F i) : lump N H F a = H a := by
  unfold lump
  rw [h]
  simp only
  rw [if_pos ⟨i, ha⟩]
theorem lump_reg {a : Addr} (h : lump N H F a ≠ none) : N a ≠ none ∨ ∃ i, a ∈ F i := by
  unfold lump at h
  cases e : N a with
  | some u' => exact .inl (by intro z; cases z)
  | none =>
    rw [e] at h
    simp only at h
    split at h
    · exact .inr ‹_›
    · exact absurd rfl h
end
def pinned (c : Nat) : Bool := decide (10 ≤ c)
structure Hg (pv : Nat → Option V) (N H : Hp) (σ : St) (ds : De) (os : List Nat) (F : Fp) : Prop where
  len : σ.length = ds.length
  at_ : ∀ (i : Nat) (d : PyData), ds[i]? = some (some d) → ∃ v, σ[i]? = some (some v) ∧ Ow N H (os.getD i 0) v d (F i)
  fr : ∀ i, os.getD i 0 = 0 → F i = []
  nd : ∀ i, (F i).Nodup
  dj : ∀ i j, i ≠ j → ∀ a, a ∈ F i → a ∉ F j
  ou : ∀ i, ∀ a ∈ F i, N a = none
  th : ∀ i, ∀ a ∈ F i, H a ≠ none
  pin : ∀ i v, pv i = some v → σ[i]? = some (some v)
  pno : ∀ i, pinned (os.getD i 0) = false → pv i = none
def hideD : List Nat → De → De
  | _, [] => []
  | [], d :: ds => d :: ds
  | 0 :: os, d :: ds => d :: hideD os ds
  | (_ + 1) :: os, _ :: ds => none :: hideD os ds
theorem hideD_len : ∀ (os : List Nat) (ds : De), (hideD os ds).length = ds.length
  | _, [] => by unfold hideD; rfl
  | [], d :: ds => rfl
  | 0 :: os, d :: ds => by
    show (hideD os ds).length + 1 = ds.length + 1
    rw [hideD_len os ds]
  | (_ + 1) :: os, d :: ds => by
    show (hideD os ds).length + 1 = ds.length + 1
    rw [hideD_len os ds]
theorem hideD_at : ∀ (os : List Nat) (ds : De) (i : Nat) (d : PyData), (hideD os ds)[i]? = some (some d) → ds[i]? = some (some d) ∧ os.getD i 0 = 0
  | _, [], i, d, h => by
    unfold hideD at h
    simp at h
  | [], e :: ds, i, d, h => ⟨h, by simp⟩
  | 0 :: os, e :: ds, 0, d, h => ⟨h, rfl⟩
  | 0 :: os, e :: ds, i + 1, d, h => hideD_at os ds i d h
  | (n + 1) :: os, e :: ds, 0, d, h => by
    have h' : some (none : Option PyData) = some (some d) := h
    cases h'
  | (n + 1) :: os, e :: ds, i + 1, d, h => hideD_at os ds i d h
theorem hideD_nil (ds : De) : hideD [] ds = ds := by cases ds <;> rfl
section
variable {pv : Nat → Option V} {N N' H H' : Hp} {σ : St} {ds : De} {os : List Nat} {F : Fp}
theorem Hg.holds (g : Hg pv N H σ ds os F) : Holds (lump N H F) σ ds := ⟨g.len, fun i d e => by
  obtain ⟨v, e1, r⟩ := g.at_ i d e
  exact ⟨v, e1, r.rp lump_ex fun a ha => lump_at (g.ou i a ha) ha⟩⟩
theorem Hg.hide (g : Hg pv N H σ ds os F) : Holds N σ (hideD os ds) := ⟨by rw [hideD_len]; exact g.len, fun i d e => by
  obtain ⟨e1, e2⟩ := hideD_at os ds i d e
  obtain ⟨v, e3, r⟩ := g.at_ i d e1
  exact ⟨v, e3, (r.leafOf (g.fr i e2)).2⟩⟩
theorem Hg.mono (g : Hg pv N H σ ds os F) (e : Ex H H') : Hg pv N H' σ ds os F := ⟨g.len, fun i d q => by
  obtain ⟨v, e1, r⟩ := g.at_ i d q
  exact ⟨v, e1, r.mono e⟩, g.fr, g.nd, g.dj, g.ou, fun i a ha z => g.th i a ha (ex_none e z), g.pin, g.pno⟩
theorem Hg.monoN (g : Hg pv N H σ ds os F) (e : Ex N N') (o : ∀ i, ∀ a ∈ F i, N' a = none) : Hg pv N' H σ ds os F := ⟨g.len, fun i d q => by
  obtain ⟨v, e1, r⟩ := g.at_ i d q
  exact ⟨v, e1, r.monoN e⟩, g.fr, g.nd, g.dj, o, g.th, g.pin, g.pno⟩
/-- another value in the slot i, with the tree S -/
theorem Hg.put (g : Hg pv N H σ ds os F) {i : Nat} {v : V} {d : PyData} {S : List Addr} (r : Ow N H (os.getD i 0) v d S) (hp : pinned (os.getD i 0) = false) (h0 : os.getD i 0 = 0 → S = []) (nd : S.Nodup) (dj : ∀ j, j ≠ i → ∀ a ∈ F j, a ∉ S) (ou : ∀ a ∈ S, N a = none) :
    Hg pv N H (σ.set i (some v)) (ds.set i (some d)) os (F.put i S) := ⟨by rw [List.length_set, List.length_set, g.len], fun j d' q => by
  by_cases z : j = i
  · subst z
    by_cases hj : j < ds.length
    · rw [List.getElem?_set_self hj] at q
      have q' := Option.some.inj (Option.some.inj q)
      subst q'
      exact ⟨v, by rw [List.getElem?_set_self (by rw [g.len]; exact hj)], by rw [Fp.put_same]; exact r⟩
    · rw [List.getElem?_eq_none (by rw [List.length_set]; omega)] at q
      cases q
  · rw [List.getElem?_set_ne (fun y => z y.symm)] at q
    obtain ⟨u, e1, r1⟩ := g.at_ j d' q
    exact ⟨u, by rw [List.getElem?_set_ne (fun y => z y.symm)]; exact e1, by rw [Fp.put_ne z]; exact r1⟩, fun j hj => by
  by_cases z : j = i
  · subst z
    rw [Fp.put_same]
    exact h0 hj
  · rw [Fp.put_ne z]
    exact g.fr j hj, fun j => by
  by_cases z : j = i
  · subst z
    rw [Fp.put_same]
    exact nd
  · rw [Fp.put_ne z]
    exact g.nd j, fun j k hjk a ha hb => by
  by_cases z : j = i
  · subst z
    rw [Fp.put_same] at ha
    rw [Fp.put_ne (fun y => hjk y.symm)] at hb
    exact dj k (fun y => hjk y.symm) a hb ha
  · rw [Fp.put_ne z] at ha
    by_cases w : k = i
    · subst w
      rw [Fp.put_same] at hb
      exact dj j z a ha hb
    · rw [Fp.put_ne w] at hb
      exact g.dj j k hjk a ha hb, fun j a ha => by
  by_cases z : j = i
  · subst z
    rw [Fp.put_same] at ha
    exact ou a ha
  · rw [Fp.put_ne z] at ha
    exact g.ou j a ha, fun j a ha => by
  by_cases z : j = i
  · subst z
    rw [Fp.put_same] at ha
    exact r.there a ha
  · rw [Fp.put_ne z] at ha
    exact g.th j a ha, fun j u hu => by
  by_cases z : j = i
  · subst z
    rw [g.pno j hp] at hu
    cases hu
  · rw [List.getElem?_set_ne (fun y => z y.symm)]
    exact g.pin j u hu, g.pno⟩
end

/-! ### one step -/
def Wr (H : Hp) (F : Fp) (a : Addr) : Prop := H a = none ∨ ∃ i, a ∈ F i
structure Stp (N H : Hp) (F : Fp) (N' H' : Hp) (F' : Fp) : Prop where
  n : Ex N N'
  k : Ex N' H'
  un : ∀ a, ¬ Wr H F a → H' a = H a
  ng : ∀ a, N' a ≠ none → N a ≠ none ∨ Wr H F a
  fg : ∀ i, ∀ a ∈ F' i, Wr H F a
section
variable {N H N1 H1 N2 H2 : Hp} {F F1 F2 : Fp}
theorem Stp.refl (e : Ex N H) : Stp N H F N H F := ⟨Ex.refl _, e, fun _ _ => rfl, fun _ h => .inl h, fun i a ha => .inr ⟨i, ha⟩⟩
theorem Stp.wr (s : Stp N H F N1 H1 F1) {a : Addr} (h : Wr H1 F1 a) : Wr H F a := by
  rcases h with h | ⟨i, h⟩
  · by_cases w : Wr H F a
    · exact w
    · have := s.un a w
      rw [h] at this
      exact .inl this.symm
  · exact s.fg i a h
theorem Stp.trans (s : Stp N H F N1 H1 F1) (t : Stp N1 H1 F1 N2 H2 F2) : Stp N H F N2 H2 F2 := ⟨s.n.trans t.n, t.k, fun a h => by
  rw [t.un a fun w => h (s.wr w), s.un a h], fun a h => (t.ng a h).elim (s.ng a) fun w => .inr (s.wr w), fun i a ha => s.wr (t.fg i a ha)⟩
/-- new things alone -/
theorem Stp.grow (eN : Ex N H) (e : Ex H H1) : Stp N H F N H1 F := ⟨Ex.refl _, eN.trans e, fun a h => by
  cases z : H a with
  | none => exact absurd (.inl z) h
  | some o => exact e a o z, fun _ h => .inl h, fun i a ha => .inr ⟨i, ha⟩⟩
theorem Stp.growN (n : Ex N N1) (k : Ex N1 H1) (e : Ex H H1) (g : Reg N H N1) : Stp N H F N1 H1 F := ⟨n, k, fun a h => by
  cases z : H a with
  | none => exact absurd (.inl z) h
  | some o => exact e a o z, fun a h => (g a h).elim .inl fun z => .inr (.inl z), fun i a ha => .inr ⟨i, ha⟩⟩
end
end FX
set_option Elab.async false
set_option linter.all false
set_option maxRecDepth 100000
set_option maxHeartbeats 2000000
/-! Statements that may change what the slots own, raise, hand back: judgements, and functions from slots to what comes of them. -/
namespace FX
open PySem PySem.Spec PyProof.Rows L2 Evl DL
set_option autoImplicit false
variable [Kn]
/-- an error: its class, its own fields -/
structure Er where
  c : String
  pl : List (Str × PyData) := []
abbrev Ob := Except Er PyData
/-- what comes of a statement -/
inductive GO
  | nx (ds : De) | rt (d : PyData) (ds : De) | bk (ds : De) | ct (ds : De) | er (e : Er) (ds : De)
/-- the fields of an error, new -/
def PayR (H : Hp) : Option Addr → List (Str × PyData) → List Addr → Prop
  | none, pl, S => pl = [] ∧ S = []
  | some D, pl, S => ∃ fs S', pl ≠ [] ∧ H D = some (.xd fs) ∧ fs.map Prod.fst = pl.map Prod.fst ∧ Ows nilH H 3 (fs.map Prod.snd) (pl.map Prod.snd) S' ∧ S = D :: S'
theorem PayR.nil {H : Hp} : PayR H none [] [] := ⟨rfl, rfl⟩
theorem PayR.mono {H H' : Hp} {o : Option Addr} {pl : List (Str × PyData)} {S : List Addr} (p : PayR H o pl S) (e : Ex H H') : PayR H' o pl S := by
  cases o with
  | none => exact p
  | some D =>
    obtain ⟨fs, S', a, b, c, d, f⟩ := p
    exact ⟨fs, S', a, e _ _ b, c, d.mono e, f⟩
/-- a tree apart from what is known and owned, all its own -/
structure Apt (N H : Hp) (F : Fp) (N' : Hp) (F' : Fp) (S : List Addr) : Prop where
  nd : S.Nodup
  ou : ∀ a ∈ S, N' a = none
  wr : ∀ a ∈ S, Wr H F a
  dj : ∀ i, ∀ a ∈ F' i, a ∉ S
theorem Apt.nil {N H : Hp} {F : Fp} {N' : Hp} {F' : Fp} : Apt N H F N' F' [] := ⟨List.nodup_nil, fun _ h => (nomatch h), fun _ h => (nomatch h), fun _ _ _ h => (nomatch h)⟩
theorem Apt.on {N H N1 H1 N' : Hp} {F F1 F' : Fp} {S : List Addr} (s : Stp N H F N1 H1 F1) (p : Apt N1 H1 F1 N' F' S) : Apt N H F N' F' S := ⟨p.nd, p.ou, fun a ha => s.wr (p.wr a ha), p.dj⟩
section
variable (pv : Nat → Option V) (os : List Nat) (rc : Nat) (cm : String → Addr) (W : WX)
def AftG (D : Ends) (N H : Hp) (F : Fp) : GO → Prop
  | .nx ds => ∀ σ' N' H' F', Stp N H F N' H' F' → Hg pv N' H' σ' ds os F' → D.nx σ' H'
  | .bk ds => ∀ σ' N' H' F', Stp N H F N' H' F' → Hg pv N' H' σ' ds os F' → D.bk σ' H'
  | .ct ds => ∀ σ' N' H' F', Stp N H F N' H' F' → Hg pv N' H' σ' ds os F' → D.ct σ' H'
  | .rt d ds => ∀ v σ' N' H' F' S, Stp N H F N' H' F' → Hg pv N' H' σ' ds os F' → Ow N' H' rc v d S → Apt N H F N' F' S → D.rt v H'
  | .er e ds => ∀ σ' N' H' F' o S, Stp N H F N' H' F' → Hg pv N' H' σ' ds os F' → PayR H' o e.pl S → Apt N H F N' F' S → W (.ref (cm e.c)) o σ' H'
def EvG (t : TS) (ds : De) (o : GO) : Prop := ∀ pv σ N H F, Hg pv N H σ ds os F → Ex N H → ∀ D, AftG pv os rc cm W D N H F o → t D σ H
def FS (t : TS) (f : De → Option GO) : Prop := ∀ ds o, f ds = some o → EvG os rc cm W t ds o
end
section
variable {pv : Nat → Option V} {os : List Nat} {rc : Nat} {cm : String → Addr} {W : WX}
theorem AftG.on {D : Ends} {N H N1 H1 : Hp} {F F1 : Fp} {o : GO} (s : Stp N H F N1 H1 F1) (a : AftG pv os rc cm W D N H F o) : AftG pv os rc cm W D N1 H1 F1 o := by
  cases o with
  | nx ds => exact fun σ' N' H' F' t g => a σ' N' H' F' (s.trans t) g
  | bk ds => exact fun σ' N' H' F' t g => a σ' N' H' F' (s.trans t) g
  | ct ds => exact fun σ' N' H' F' t g => a σ' N' H' F' (s.trans t) g
  | rt d ds => exact fun v σ' N' H' F' S t g r p => a v σ' N' H' F' S (s.trans t) g r (p.on s)
  | er e ds => exact fun σ' N' H' F' o S t g r p => a σ' N' H' F' o S (s.trans t) g r (p.on s)
/-! ### expressions -/
def FE (te : TE) (f : De → Option PyData) : Prop := ∀ ds d, f ds = some d → EvE te ds d
def FB (tt : TT) (f : De → Option Bool) : Prop := ∀ ds b, f ds = some b → EvB tt ds b
def FA (ta : TA) (f : De → Option (List PyData)) : Prop := ∀ ds es, f ds = some es → EvAs ta ds es
/-- a wholly new tree comes -/
def EvW3 (te : TE) (ds : De) (d : PyData) : Prop := ∀ σ N, Holds N σ ds → ∀ H, Ex N H → ∀ Q : VK, (∀ v H' S, Ex H H' → Ow nilH H' 3 v d S → S.Nodup → (∀ a ∈ S, H a = none) → Q v H') → te σ H Q
def FN (te : TE) (f : De → Option PyData) : Prop := ∀ ds d, f ds = some d → EvW3 te ds d
/-- an error comes -/
def EvEr (cm : String → Addr) (W : WX) (te : TE) (ds : De) (e : Er) : Prop := ∀ σ N, Holds N σ ds → ∀ (Q : VK) H, Ex N H → (∀ H' o S, Ex H H' → PayR H' o e.pl S → S.Nodup → (∀ a ∈ S, H a = none) → W (.ref (cm e.c)) o σ H') → te σ H Q
/-- data or an error -/
def FR (cm : String → Addr) (W : WX) (te : TE) (f : De → Option Ob) : Prop := ∀ ds r, f ds = some r → (∀ d, r = .ok d → EvE te ds d) ∧ (∀ e, r = .error e → EvEr cm W te ds e)
/-- .. a new tree or an error -/
def FRN (cm : String → Addr) (W : WX) (te : TE) (f : De → Option Ob) : Prop := ∀ ds r, f ds = some r → (∀ d, r = .ok d → EvW3 te ds d) ∧ (∀ e, r = .error e → EvEr cm W te ds e)
def okF (f : De → Option PyData) : De → Option Ob := fun ds => (f ds).map .ok
theorem FE.r {te : TE} {f : De → Option PyData} (h : FE te f) : FR cm W te (okF f) := fun ds r e => by
  unfold okF at e
  cases q : f ds with
  | none =>
    rw [q] at e
    cases e
  | some d =>
    rw [q] at e
    cases e
    exact ⟨fun d' z => by cases z; exact h ds d q, fun e z => (nomatch z)⟩
theorem FN.r {te : TE} {f : De → Option PyData} (h : FN te f) : FRN cm W te (okF f) := fun ds r e => by
  unfold okF at e
  cases q : f ds with
  | none =>
    rw [q] at e
    cases e
  | some d =>
    rw [q] at e
    cases e
    exact ⟨fun d' z => by cases z; exact h ds d q, fun e z => (nomatch z)⟩
theorem EvW3.e {te : TE} {ds : De} {d : PyData} (h : EvW3 te ds d) : EvE te ds d := fun σ N hs H eN Q q => h σ N hs H eN _ fun v H' S e r nd fr => by
  have hx : Ex (HU N (only H' S)) H' := hu_in (eN.trans e) (only_ex _ _)
  refine q v H' (HU N (only H' S)) e (hu_l _ _) hx (fun a ha => (hu_reg ha).elim .inl fun z => .inr (fr a (by
    by_cases w : a ∈ S
    · exact w
    · rw [only_out w] at z
      exact absurd rfl z))) ?_
  refine (r.new (N' := fun _ => none) (c := 0)).rp (fun a o z => by cases z) fun a ha => ?_
  have z := hu_r (A := N) (eN.trans e) (only_ex H' S)
  cases w : H' a with
  | none => exact absurd w (r.there a ha)
  | some o => exact z a o (by rw [only_in ha, w])
theorem FN.e {te : TE} {f : De → Option PyData} (h : FN te f) : FE te f := fun ds d e => (h ds d e).e
theorem FRN.e {te : TE} {f : De → Option Ob} (h : FRN cm W te f) : FR cm W te f := fun ds r e => ⟨fun d z => ((h ds r e).1 d z).e, (h ds r e).2⟩
theorem en_w3 {te : TE} {ds : De} {d : PyData} (h : EvE te ds d) (f : flatD d = true) : EvW3 te ds d := fun σ N hs H eN Q q => h σ N hs H eN _ fun v H' N' e _ _ _ r => q v H' [] e (.leaf f (rp_flat r f)) List.nodup_nil fun _ z => nomatch z
/-- flat data are new -/
def flatF (f : De → Option PyData) : De → Option PyData := fun ds => match f ds with
  | some d => if flatD d = true then some d else none
  | none => none
theorem flatF_is {f : De → Option PyData} {ds : De} {d : PyData} (h : flatF f ds = some d) : f ds = some d ∧ flatD d = true := by
  unfold flatF at h
  cases q : f ds with
  | none =>
    rw [q] at h
    cases h
  | some d' =>
    rw [q] at h
    simp only at h
    split at h
    · cases h
      exact ⟨rfl, ‹_›⟩
    · cases h
theorem fn_flat {te : TE} {f : De → Option PyData} (h : FE te f) : FN te (flatF f) := fun ds d e => en_w3 (h ds d (flatF_is e).1) (flatF_is e).2
/-! ### what the judgements come to beside owned trees -/
section
variable {N H : Hp} {σ : St} {ds : De} {F : Fp} {te : TE} {tt : TT} {d : PyData}
/-- any expression: what stood stays -/
theorem use_any (g : Hg pv N H σ ds os F) (eN : Ex N H) (h : EvE te ds d) {Q : VK} (q : ∀ v H', Ex H H' → (flatD d = true → Rp nilH v d) → Q v H') : te σ H Q :=
  h σ _ g.holds H (lump_in eN) _ fun v H' N' e n k gg r => q v H' e fun f => rp_flat r f
theorem use_test (g : Hg pv N H σ ds os F) (eN : Ex N H) {b : Bool} (h : EvB tt ds b) {Q : Bool → Hp → Prop} (q : ∀ H', Ex H H' → Q b H') : tt σ H Q :=
  h σ _ g.holds H (lump_in eN) _ q
theorem use_new (g : Hg pv N H σ ds os F) (eN : Ex N H) (h : EvW3 te ds d) {Q : VK} (q : ∀ v H' S, Ex H H' → Ow nilH H' 3 v d S → S.Nodup → (∀ a ∈ S, H a = none) → Q v H') : te σ H Q :=
  h σ _ g.holds H (lump_in eN) _ q
theorem use_er (g : Hg pv N H σ ds os F) (eN : Ex N H) {e : Er} (h : EvEr cm W te ds e) {Q : VK} (q : ∀ H' o S, Ex H H' → PayR H' o e.pl S → S.Nodup → (∀ a ∈ S, H a = none) → W (.ref (cm e.c)) o σ H') : te σ H Q :=
  h σ _ g.holds Q H (lump_in eN) q
theorem use_hid (g : Hg pv N H σ ds os F) (eN : Ex N H) (h : EvE te (hideD os ds) d) {Q : VK} (q : ∀ v H' N', Ex H H' → Stp N H F N' H' F → Hg pv N' H' σ ds os F → Rp N' v d → Q v H') : te σ H Q :=
  h σ N g.hide H eN _ fun v H' N' e n k gg r => q v H' N' e (Stp.growN n k e gg) ((g.mono e).monoN n fun i a ha => by
    cases z : N' a with
    | none => rfl
    | some o =>
      rcases gg a (by rw [z]; intro y; cases y) with y | y
      · exact absurd (g.ou i a ha) y
      · exact absurd y (g.th i a ha)) r
theorem reg_new {S : List Addr} {H' : Hp} (g : Hg pv N H σ ds os F) (eN : Ex N H) (fr : ∀ a ∈ S, H a = none) : (∀ a ∈ S, N a = none) ∧ (∀ i, ∀ a ∈ F i, a ∉ S) :=
  ⟨fun a ha => ex_none eN (fr a ha), fun i a ha hb => g.th i a ha (fr a hb)⟩
/-- what is raised: the error's fields stand apart -/
theorem apt_new {S : List Addr} (g : Hg pv N H σ ds os F) (eN : Ex N H) (nd : S.Nodup) (fr : ∀ a ∈ S, H a = none) : Apt N H F N F S :=
  ⟨nd, fun a ha => ex_none eN (fr a ha), fun a ha => .inl (fr a ha), fun i a ha hb => g.th i a ha (fr a hb)⟩
end
/-! ### statements -/
section
variable {t u : TS} {f g : De → Option GO} {te : TE} {tt : TT} {fe : De → Option PyData} {fr : De → Option Ob} {fb : De → Option Bool}
def sSeq (f g : De → Option GO) : De → Option GO := fun ds => match f ds with
  | some (.nx ds1) => g ds1
  | o => o
theorem fs_seq (h1 : FS os rc cm W t f) (h2 : FS os rc cm W u g) : FS os rc cm W (tSeq t u) (sSeq f g) := fun ds o e pv σ N H F hg eN D a => by
  unfold sSeq at e
  cases q : f ds with
  | none =>
    rw [q] at e
    cases e
  | some o1 =>
    rw [q] at e
    refine h1 ds o1 q pv σ N H F hg eN { D with nx := u D } ?_
    cases o1 with
    | nx ds1 => exact fun σ' N' H' F' s g' => h2 ds1 o e pv σ' N' H' F' g' s.k D (a.on s)
    | bk _ => cases e; exact a
    | ct _ => cases e; exact a
    | rt _ _ => cases e; exact a
    | er _ _ => cases e; exact a
def sNx : De → Option GO := fun ds => some (.nx ds)
theorem fs_next : FS os rc cm W tNext sNx := fun ds o e pv σ N H F hg eN D a => by
  cases e
  exact a σ N H F (Stp.refl eN) hg
def sBk : De → Option GO := fun ds => some (.bk ds)
theorem fs_break : FS os rc cm W tBreak sBk := fun ds o e pv σ N H F hg eN D a => by
  cases e
  exact a σ N H F (Stp.refl eN) hg
def sCt : De → Option GO := fun ds => some (.ct ds)
theorem fs_cont : FS os rc cm W tCont sCt := fun ds o e pv σ N H F hg eN D a => by
  cases e
  exact a σ N H F (Stp.refl eN) hg
def sNever : De → Option GO := fun _ => none
theorem fs_never {t : TS} : FS os rc cm W t sNever := fun ds o e => nomatch e
def sIf (c : De → Option Bool) (f g : De → Option GO) : De → Option GO := fun ds => match c ds with
  | some true => f ds
  | some false => g ds
  | none => none
theorem fs_if (hc : FB tt fb) (h1 : FS os rc cm W t f) (h2 : FS os rc cm W u g) : FS os rc cm W (tIfS tt t u) (sIf fb f g) := fun ds o e pv σ N H F hg eN D a => by
  unfold sIf at e
  cases q : fb ds with
  | none =>
    rw [q] at e
    cases e
  | some b =>
    rw [q] at e
    refine use_test hg eN (hc ds b q) fun H1 e1 => ?_
    have s := Stp.grow (F := F) eN e1
    cases b with
    | true => exact iteT (h1 ds o e pv σ N H1 F (hg.mono e1) s.k D (a.on s))
    | false => exact iteF (h2 ds o e pv σ N H1 F (hg.mono e1) s.k D (a.on s))
/-- an error or data, then .. -/
def thenR (fr : De → Option Ob) (k : PyData → De → Option GO) : De → Option GO := fun ds => match fr ds with
  | some (.ok d) => k d ds
  | some (.error e) => some (.er e ds)
  | none => none
theorem er_on {N H : Hp} {σ : St} {ds : De} {F : Fp} {D : Ends} {e : Er} {Q : VK} (hg : Hg pv N H σ ds os F) (eN : Ex N H) (h : EvEr cm W te ds e) (a : AftG pv os rc cm W D N H F (.er e ds)) : te σ H Q :=
  use_er hg eN h fun H' o S e1 p nd fr => a σ N H' F o S (Stp.grow eN e1) (hg.mono e1) p (apt_new hg eN nd fr)
/-- x = e, flat -/
def kFlat (i : Nat) : PyData → De → Option GO := fun d ds => if flatD d = true then some (.nx (ds.set i (some d))) else none
theorem fs_asgF {i : Nat} (hp : pinned (os.getD i 0) = false) (h : FR cm W te fr) : FS os rc cm W (tAsg te (gName i)) (thenR fr (kFlat i)) := fun ds o e pv σ N H F hg eN D a => by
  unfold thenR at e
  cases q : fr ds with
  | none =>
    rw [q] at e
    cases e
  | some r =>
    rw [q] at e
    cases r with
    | error x =>
      cases e
      exact er_on hg eN ((h ds _ q).2 x rfl) a
    | ok d =>
      simp only [kFlat] at e
      split at e
      · cases e
        refine use_any hg eN ((h ds _ q).1 d rfl) fun v H' e1 r => ?_
        have w := r ‹_›
        refine a _ N H' (F.put i []) ⟨Ex.refl _, eN.trans e1, (Stp.grow (F := F) eN e1).un, fun _ h => .inl h, fun j b hb => ?_⟩ ((hg.mono e1).put (Ow.flat w ‹_›) hp (fun _ => rfl) List.nodup_nil (fun _ _ _ _ z => (nomatch z)) fun _ z => (nomatch z))
        by_cases z : j = i
        · subst z
          rw [Fp.put_same] at hb
          cases hb
        · rw [Fp.put_ne z] at hb
          exact .inr ⟨j, hb⟩
      · cases e
/-- x = e, what is known alone -/
def sAsgZ (os : List Nat) (i : Nat) (fr : De → Option Ob) : De → Option GO := fun ds => match fr (hideD os ds) with
  | some (.ok d) => some (.nx (ds.set i (some d)))
  | some (.error e) => some (.er e ds)
  | none => none
theorem er_hid {N H : Hp} {σ : St} {ds : De} {F : Fp} {D : Ends} {e : Er} {Q : VK} (hg : Hg pv N H σ ds os F) (eN : Ex N H) (h : EvEr cm W te (hideD os ds) e) (a : AftG pv os rc cm W D N H F (.er e ds)) : te σ H Q :=
  h σ N hg.hide Q H eN fun H' o S e1 p nd fr => a σ N H' F o S (Stp.grow eN e1) (hg.mono e1) p (apt_new hg eN nd fr)
theorem fs_asgZ {i : Nat} (hp : os.getD i 0 = 0) (h : FR cm W te fr) : FS os rc cm W (tAsg te (gName i)) (sAsgZ os i fr) := fun ds o e pv σ N H F hg eN D a => by
  unfold sAsgZ at e
  cases q : fr (hideD os ds) with
  | none =>
    rw [q] at e
    cases e
  | some r =>
    rw [q] at e
    cases r with
    | error x =>
      cases e
      exact er_hid hg eN ((h _ _ q).2 x rfl) a
    | ok d =>
      cases e
      refine use_hid hg eN ((h _ _ q).1 d rfl) fun v H' N' e1 s g' r => ?_
      refine a _ N' H' (F.put i []) ⟨s.n, s.k, s.un, s.ng, fun j b hb => ?_⟩ (g'.put (.leaf (by rw [hp]; rfl) r) (by rw [hp]; rfl) (fun _ => rfl) List.nodup_nil (fun _ _ _ _ z => (nomatch z)) fun _ z => (nomatch z))
      by_cases z : j = i
      · subst z
        rw [Fp.put_same] at hb
        cases hb
      · rw [Fp.put_ne z] at hb
        exact .inr ⟨j, hb⟩
/-- x = e, a new tree; kept, or known from now on -/
def kNew (i : Nat) : PyData → De → Option GO := fun d ds => some (.nx (ds.set i (some d)))
theorem fs_asgN {i : Nat} (hp : pinned (os.getD i 0) = false) (h : FRN cm W te fr) : FS os rc cm W (tAsg te (gName i)) (thenR fr (kNew i)) := fun ds o e pv σ N H F hg eN D a => by
  unfold thenR at e
  cases q : fr ds with
  | none =>
    rw [q] at e
    cases e
  | some r =>
    rw [q] at e
    cases r with
    | error x =>
      cases e
      exact er_on hg eN ((h ds _ q).2 x rfl) a
    | ok d =>
      cases e
      refine use_new hg eN ((h ds _ q).1 d rfl) fun v H' S e1 r nd fr => ?_
      have s := Stp.grow (F := F) eN e1
      by_cases c0 : os.getD i 0 = 0
      · have hx : Ex (HU N (only H' S)) H' := hu_in s.k (only_ex _ _)
        have hS : ∀ b, HU N (only H' S) b ≠ none → N b ≠ none ∨ b ∈ S := fun b hb => (hu_reg hb).elim .inl fun z => .inr (by
          by_cases w : b ∈ S
          · exact w
          · rw [only_out w] at z
            exact absurd rfl z)
        have rr : Rp (HU N (only H' S)) v d := by
          refine (r.new (N' := fun _ => none) (c := 0)).rp (fun a o z => by cases z) fun a ha => ?_
          have z := hu_r (A := N) s.k (only_ex H' S)
          cases w : H' a with
          | none => exact absurd w (r.there a ha)
          | some o => exact z a o (by rw [only_in ha, w])
        have g2 : Hg pv (HU N (only H' S)) H' σ ds os F := (hg.mono e1).monoN (hu_l _ _) fun j b hb => by
          cases z : HU N (only H' S) b with
          | none => rfl
          | some o =>
            rcases hS b (by rw [z]; intro y; cases y) with y | y
            · exact absurd (hg.ou j b hb) y
            · exact absurd (fr b y) (hg.th j b hb)
        refine a _ (HU N (only H' S)) H' (F.put i []) ⟨hu_l _ _, hx, s.un, fun b hb => (hS b hb).elim .inl fun z => .inr (.inl (fr b z)), fun j b hb => ?_⟩ (g2.put (.leaf (by rw [c0]; rfl) rr) hp (fun _ => rfl) List.nodup_nil (fun _ _ _ _ z => (nomatch z)) fun _ z => (nomatch z))
        by_cases z : j = i
        · subst z
          rw [Fp.put_same] at hb
          cases hb
        · rw [Fp.put_ne z] at hb
          exact .inr ⟨j, hb⟩
      · refine a _ N H' (F.put i S) ⟨s.n, s.k, s.un, s.ng, fun j b hb => ?_⟩ ((hg.mono e1).put r.new hp (fun z => absurd z c0) nd (fun j _ b hb hc => hg.th j b hb (fr b hc)) fun b hb => ex_none eN (fr b hb))
        by_cases z : j = i
        · subst z
          rw [Fp.put_same] at hb
          exact .inl (fr b hb)
        · rw [Fp.put_ne z] at hb
          exact .inr ⟨j, hb⟩
/-- an expression alone -/
def kDrop : PyData → De → Option GO := fun _ ds => some (.nx ds)
theorem fs_drop (h : FR cm W te fr) : FS os rc cm W (tDrop te) (thenR fr kDrop) := fun ds o e pv σ N H F hg eN D a => by
  unfold thenR at e
  cases q : fr ds with
  | none =>
    rw [q] at e
    cases e
  | some r =>
    rw [q] at e
    cases r with
    | error x =>
      cases e
      exact er_on hg eN ((h ds _ q).2 x rfl) a
    | ok d =>
      cases e
      exact use_any hg eN ((h ds _ q).1 d rfl) fun v H' e1 _ => a σ N H' F (Stp.grow eN e1) (hg.mono e1)
/-- return e: flat; what is known; a new tree -/
def kRetF : PyData → De → Option GO := fun d ds => if flatD d = true then some (.rt d ds) else none
theorem fs_retF (h : FR cm W te fr) : FS os rc cm W (tRet te) (thenR fr kRetF) := fun ds o e pv σ N H F hg eN D a => by
  unfold thenR at e
  cases q : fr ds with
  | none =>
    rw [q] at e
    cases e
  | some r =>
    rw [q] at e
    cases r with
    | error x =>
      cases e
      exact er_on hg eN ((h ds _ q).2 x rfl) a
    | ok d =>
      simp only [kRetF] at e
      split at e
      · cases e
        exact use_any hg eN ((h ds _ q).1 d rfl) fun v H' e1 r => a v σ N H' F [] (Stp.grow eN e1) (hg.mono e1) (Ow.flat (r ‹_›) ‹_›) Apt.nil
      · cases e
def sRetZ (os : List Nat) (fr : De → Option Ob) : De → Option GO := fun ds => match fr (hideD os ds) with
  | some (.ok d) => some (.rt d ds)
  | some (.error e) => some (.er e ds)
  | none => none
theorem fs_retZ (hr : rc = 0) (h : FR cm W te fr) : FS os rc cm W (tRet te) (sRetZ os fr) := fun ds o e pv σ N H F hg eN D a => by
  unfold sRetZ at e
  cases q : fr (hideD os ds) with
  | none =>
    rw [q] at e
    cases e
  | some r =>
    rw [q] at e
    cases r with
    | error x =>
      cases e
      exact er_hid hg eN ((h _ _ q).2 x rfl) a
    | ok d =>
      cases e
      exact use_hid hg eN ((h _ _ q).1 d rfl) fun v H' N' e1 s g' r => a v σ N' H' F [] s g' (.leaf (by rw [hr]; rfl) r) Apt.nil
def kRetN : PyData → De → Option GO := fun d ds => some (.rt d ds)
theorem fs_retN (h : FRN cm W te fr) : FS os rc cm W (tRet te) (thenR fr kRetN) := fun ds o e pv σ N H F hg eN D a => by
  unfold thenR at e
  cases q : fr ds with
  | none =>
    rw [q] at e
    cases e
  | some r =>
    rw [q] at e
    cases r with
    | error x =>
      cases e
      exact er_on hg eN ((h ds _ q).2 x rfl) a
    | ok d =>
      cases e
      exact use_new hg eN ((h ds _ q).1 d rfl) fun v H' S e1 r nd fr => a v σ N H' F S (Stp.grow eN e1) (hg.mono e1) r.new (apt_new hg eN nd fr)
def sRet0 : De → Option GO := fun ds => some (.rt .none ds)
theorem fs_ret0 : FS os rc cm W tRetN sRet0 := fun ds o e pv σ N H F hg eN D a => by
  cases e
  exact a .non σ N H F [] (Stp.refl eN) hg (Ow.flat (N := nilH) .non rfl) Apt.nil
end
end
end FX
set_option Elab.async false
set_option linter.all false
set_option maxRecDepth 100000
set_option maxHeartbeats 2000000
/-! Operations on data, whatever their kinds: what is done with values, and the function that tells it. -/
namespace FX
open PySem PySem.Spec PyProof.Rows L2 Evl DL
set_option autoImplicit false

/-! ### one or the other -/
def rOr (r r' : R2) : R2 := fun x y H Q => r x y H Q ∨ r' x y H Q
theorem or_op {X : Cx} {f : Value → Value → Sem Value} {r r' : R2} (h : OpR X f r) (h' : OpR X f r') : OpR X f (rOr r r') := fun pins s σ H x y v u Q I rx ry q => q.elim (h pins s σ H x y v u Q I rx ry) (h' pins s σ H x y v u Q I rx ry)
theorem or_ix {X : Cx} {r r' : R2} (h : IxR X r) (h' : IxR X r') : IxR X (rOr r r') := fun value slice pins s σ H x y v u Q I rx ry q => q.elim (h value slice pins s σ H x y v u Q I rx ry) (h' value slice pins s σ H x y v u Q I rx ry)
def cOr (r r' : List V → Hp → VK → Prop) : List V → Hp → VK → Prop := fun xs H Q => r xs H Q ∨ r' xs H Q
theorem or_call {X : Cx} {f : Value} {r r' : List V → Hp → VK → Prop} (h : CallR X f r) (h' : CallR X f r') : CallR X f (cOr r r') := fun pins s σ H xs us Q I rv q => q.elim (h pins s σ H xs us Q I rv) (h' pins s σ H xs us Q I rv)
def iOr (w w' : TI) : TI := fun σ H R => w σ H R ∨ w' σ H R
theorem or_pi {X : Cx} {tg e : Expr} {w w' : TI} (h : PI X tg e w) (h' : PI X tg e w') : PI X tg e (iOr w w') := ⟨fun pins s σ H R I q => q.elim (h.run pins s σ H R I) (h'.run pins s σ H R I)⟩
def tOrT (t t' : TT) : TT := fun σ H Q => t σ H Q ∨ t' σ H Q
theorem or_pt {X : Cx} {e : Expr} {t t' : TT} (h : PT X e t) (h' : PT X e t') : PT X e (tOrT t t') := ⟨fun pins s σ H Q I q => q.elim (h.run pins s σ H Q I) (h'.run pins s σ H Q I)⟩
def tOrE (t t' : TE) : TE := fun σ H Q => t σ H Q ∨ t' σ H Q
theorem or_pe {X : Cx} {e : Expr} {t t' : TE} (h : PE X e t) (h' : PE X e t') : PE X e (tOrE t t') := ⟨fun pins s σ H Q I q => q.elim (h.run pins s σ H Q I) (h'.run pins s σ H Q I)⟩
def oOr (f g : PyData → PyData → Option PyData) : PyData → PyData → Option PyData := fun d e => match f d e with
  | some z => some z
  | none => g d e
def lOr (f g : List PyData → Option PyData) : List PyData → Option PyData := fun ds => match f ds with
  | some z => some z
  | none => g ds
variable [Kn]
abbrev Fin (N H : Hp) (z : PyData) (Q : VK) : Prop := ∀ v H' N', Ex H H' → Ex N N' → Ex N' H' → Reg N H N' → Rp N' v z → Q v H'
theorem Fin.val {N H : Hp} {z : PyData} {Q : VK} (q : Fin N H z Q) (eN : Ex N H) {v : V} (r : Rp N v z) : Q v H := q v H N (Ex.refl H) (Ex.refl N) eN Reg.refl r
theorem Fin.lst {N H : Hp} {es : List PyData} {Q : VK} (q : Fin N H (.list es) Q) (eN : Ex N H) {vs : List V} (r : RpAll N vs es) {p : Addr} (hp : H p = none) : Q (.ref p) (upd H p (.lst vs)) := by
  obtain ⟨a1, a2, a3, a4, a5⟩ := laid (o := .lst vs) (Ex.refl H) (Ex.refl N) eN Reg.refl hp
  exact q (.ref p) _ _ a1 a2 a3 a4 (.lst (sq_of upd_same) (r.mono a5))
theorem Fin.tup {N H : Hp} {es : List PyData} {Q : VK} (q : Fin N H (.tuple es) Q) (eN : Ex N H) {vs : List V} (r : RpAll N vs es) {p : Addr} (hp : H p = none) : Q (.ref p) (upd H p (.tup vs)) := by
  obtain ⟨a1, a2, a3, a4, a5⟩ := laid (o := .tup vs) (Ex.refl H) (Ex.refl N) eN Reg.refl hp
  exact q (.ref p) _ _ a1 a2 a3 a4 (.tup (.inl upd_same) (r.mono a5))
def RO (r : R2) (op : PyData → PyData → Option PyData) : Prop := ∀ x y N H d e z, op d e = some z → Ex N H → Rp N x d → Rp N y e → ∀ Q : VK, Fin N H z Q → r x y H Q
def RC (r : List V → Hp → VK → Prop) (op : List PyData → Option PyData) : Prop := ∀ vs N H ds z, op ds = some z → Ex N H → RpAll N vs ds → ∀ Q : VK, Fin N H z Q → r vs H Q
theorem ro_or {r r' : R2} {f g : PyData → PyData → Option PyData} (h : RO r f) (h' : RO r' g) : RO (rOr r r') (oOr f g) := fun x y N H d e z q eN rx ry Q k => by
  unfold oOr at q
  cases w : f d e with
  | some z' =>
    rw [w] at q
    cases q
    exact .inl (h x y N H d e _ w eN rx ry Q k)
  | none =>
    rw [w] at q
    exact .inr (h' x y N H d e z q eN rx ry Q k)
theorem rc_or {r r' : List V → Hp → VK → Prop} {f g : List PyData → Option PyData} (h : RC r f) (h' : RC r' g) : RC (cOr r r') (lOr f g) := fun vs N H ds z q eN rv Q k => by
  unfold lOr at q
  cases w : f ds with
  | some z' =>
    rw [w] at q
    cases q
    exact .inl (h vs N H ds _ w eN rv Q k)
  | none =>
    rw [w] at q
    exact .inr (h' vs N H ds z q eN rv Q k)
/-! ### two things -/
def e2 (op : PyData → PyData → Option PyData) (f g : De → Option PyData) : De → Option PyData := fun ds => match f ds, g ds with
  | some a, some b => op a b
  | _, _ => none
section
variable {ta tb tc : TE} {f g k : De → Option PyData} {op : PyData → PyData → Option PyData} {r : R2} {t u : TT} {fb gb : De → Option Bool}
theorem fe_op (h : RO r op) (ha : FE ta f) (hb : FE tb g) : FE (tOp r ta tb) (e2 op f g) := fun ds z e => by
  unfold e2 at e
  cases p : f ds with
  | none =>
    rw [p] at e
    cases e
  | some a =>
    cases q : g ds with
    | none =>
      rw [p, q] at e
      cases e
    | some b =>
      rw [p, q] at e
      exact ev_op (ha ds a p) (hb ds b q) fun x y N H eN rx ry Q k => h x y N H a b z e eN rx ry Q k
def iop (g : Int → Int → Option PyData) : PyData → PyData → Option PyData := fun d e => match d, e with
  | .int i, .int j => g i j
  | _, _ => none
theorem ro_int {C : Int → Int → Prop} {h : Int → Int → V} {g : Int → Int → Option PyData} (hg : ∀ i j z, g i j = some z → C i j ∧ ∀ N, Rp N (h i j) z) : RO (rI C h) (iop g) := fun x y N H d e z q eN rx ry Q k => by
  unfold iop at q
  split at q
  · cases rx
    cases ry
    exact ⟨_, _, rfl, rfl, (hg _ _ _ q).1, k.val eN ((hg _ _ _ q).2 N)⟩
  · cases q
theorem ro_int0 {h : Int → Int → V} {g : Int → Int → Option PyData} (hg : ∀ i j z, g i j = some z → ∀ N, Rp N (h i j) z) : RO (rI0 h) (iop g) := fun x y N H d e z q eN rx ry Q k => by
  unfold iop at q
  split at q
  · cases rx
    cases ry
    exact ⟨_, _, rfl, rfl, k.val eN (hg _ _ _ q N)⟩
  · cases q
def addI : PyData → PyData → Option PyData := iop fun i j => some (.int (i + j))
def subI : PyData → PyData → Option PyData := iop fun i j => some (.int (i - j))
def ltI : PyData → PyData → Option PyData := iop fun i j => some (.bool (decide (i < j)))
def leI : PyData → PyData → Option PyData := iop fun i j => some (.bool (decide (i ≤ j)))
def gtI : PyData → PyData → Option PyData := iop fun i j => some (.bool (decide (j < i)))
def geI : PyData → PyData → Option PyData := iop fun i j => some (.bool (decide (j ≤ i)))
def mulI : PyData → PyData → Option PyData := iop fun i j => if (-(2 ^ 64) < i ∧ i < 2 ^ 64) ∨ (-(2 ^ 64) < j ∧ j < 2 ^ 64) then some (.int (i * j)) else none
def modI : PyData → PyData → Option PyData := iop fun i j => if 0 < j then some (.int (i % j)) else none
def divI : PyData → PyData → Option PyData := iop fun i j => if 0 < j ∧ j < 1073741824 then some (.int (i / j)) else none
def powI : PyData → PyData → Option PyData := iop fun i j => if 0 ≤ j ∧ j ≤ 1000000 ∧ i.natAbs < 2 ^ 64 then some (.int (i ^ j.toNat)) else none
theorem ro_add : RO (rI0 fun i j => .int (i + j)) addI := ro_int0 fun i j z q N => by cases q; exact .int _
theorem ro_sub : RO (rI0 fun i j => .int (i - j)) subI := ro_int0 fun i j z q N => by cases q; exact .int _
theorem ro_lt : RO (rI0 fun i j => .bl (decide (i < j))) ltI := ro_int0 fun i j z q N => by cases q; exact .bl _
theorem ro_le : RO (rI0 fun i j => .bl (decide (i ≤ j))) leI := ro_int0 fun i j z q N => by cases q; exact .bl _
theorem ro_gt : RO (rI0 fun i j => .bl (decide (j < i))) gtI := ro_int0 fun i j z q N => by cases q; exact .bl _
theorem ro_ge : RO (rI0 fun i j => .bl (decide (j ≤ i))) geI := ro_int0 fun i j z q N => by cases q; exact .bl _
theorem ro_mul : RO (rI CMul fun i j => .int (i * j)) mulI := ro_int fun i j z q => by
  split at q
  · cases q
    exact ⟨‹_›, fun N => .int _⟩
  · cases q
theorem ro_mod : RO (rI (fun _ j => 0 < j) fun i j => .int (i % j)) modI := ro_int fun i j z q => by
  split at q
  · cases q
    exact ⟨‹_›, fun N => .int _⟩
  · cases q
theorem ro_div : RO (rI CDiv fun i j => .int (i / j)) divI := ro_int fun i j z q => by
  split at q
  · cases q
    exact ⟨‹_›, fun N => .int _⟩
  · cases q
theorem ro_pow : RO (rI CPow fun i j => .int (i ^ j.toNat)) powI := ro_int fun i j z q => by
  split at q
  · cases q
    exact ⟨‹_›, fun N => .int _⟩
  · cases q
/-- lists, tuples put together -/
def catL : PyData → PyData → Option PyData := fun d e => match d, e with
  | .list a, .list b => if a.length + b.length ≤ 100000 then some (.list (a ++ b)) else none
  | _, _ => none
def catT : PyData → PyData → Option PyData := fun d e => match d, e with
  | .tuple a, .tuple b => if 0 < a.length ∧ 0 < b.length ∧ a.length + b.length ≤ 100000 then some (.tuple (a ++ b)) else none
  | _, _ => none
theorem ro_catL : RO (rCatR KK) catL := fun x y N H d e z q eN rx ry Q k => by
  unfold catL at q
  split at q
  · split at q
    · cases q
      cases rx with
      | lst hr hall =>
        cases ry with
        | lst hr2 hall2 => exact ⟨_, _, _, _, rfl, rfl, ex_l eN hr, ex_l eN hr2, sz_100 (by rw [hall.length, hall2.length]; assumption), fun p hp => k.lst eN (hall.append hall2) hp⟩
    · cases q
  · cases q
theorem ro_catT : RO (rCatT KK) catT := fun x y N H d e z q eN rx ry Q k => by
  unfold catT at q
  split at q
  · split at q
    · rename_i w
      cases q
      cases rx with
      | tup hr hall =>
        cases ry with
        | tup hr2 hall2 =>
          have l1 := hall.length
          have l2 := hall2.length
          refine ⟨_, _, _, _, rfl, rfl, set_of_rd (rd_ex eN hr), set_of_rd (rd_ex eN hr2), fun z => ?_, sz_100 (by omega), fun z => ?_, fun _ p hp => k.tup eN (hall.append hall2) hp⟩
          · rw [z] at l1
            simp at l1
            omega
          · rw [z] at l2
            simp at l2
            omega
    · cases q
  · cases q
def repL : PyData → PyData → Option PyData := fun d e => match d, e with
  | .list a, .int k => if 0 ≤ k ∧ k < 1000 ∧ a.length * k.toNat ≤ 100000 then some (.list (List.replicate k.toNat a).flatten) else none
  | _, _ => none
theorem ro_repL : RO (rRepL KK) repL := fun x y N H d e z q eN rx ry Q k => by
  unfold repL at q
  split at q
  · split at q
    · rename_i w
      cases q
      cases ry
      cases rx with
      | lst hr hall => exact ⟨_, _, _, rfl, rfl, ex_l eN hr, w.1, w.2.1, by rw [hall.length]; exact w.2.2, fun p hp => k.lst eN (hall.rep _) hp⟩
    · cases q
  · cases q
/-! items -/
def ixD : PyData → PyData → Option PyData := fun d e => match d, e with
  | .list a, .int i => atI a i
  | .tuple a, .int i => atI a i
  | _, _ => none
def ixLd : PyData → PyData → Option PyData := fun d e => match d, e with
  | .list a, .int i => atI a i
  | _, _ => none
def ixTd : PyData → PyData → Option PyData := fun d e => match d, e with
  | .tuple a, .int i => atI a i
  | _, _ => none
theorem at_rp {N : Hp} {vs : List V} {ts : List PyData} (hall : RpAll N vs ts) {i : Int} {d : PyData} (ha : atI ts i = some d) : ∃ v, atI vs i = some v ∧ Rp N v d := by
  unfold atI at ha
  cases e : ixN ts.length i with
  | none =>
    rw [e] at ha
    cases ha
  | some j =>
    rw [e] at ha
    obtain ⟨v, ev, rv⟩ := hall.get (i := j) (d := d) ha
    refine ⟨v, ?_, rv⟩
    unfold atI
    rw [hall.length, e]
    exact ev
theorem ro_ix : RO (rOr (rIxL KK) (rIxT KK)) ixD := fun x y N H d e z q eN rx ry Q k => by
  unfold ixD at q
  split at q
  · cases ry
    cases rx with
    | lst hr hall =>
      obtain ⟨v, e1, r⟩ := at_rp hall q
      exact .inl ⟨_, _, _, v, rfl, rfl, ex_l eN hr, e1, k.val eN r⟩
  · cases ry
    cases rx with
    | tup hr hall =>
      obtain ⟨v, e1, r⟩ := at_rp hall q
      exact .inr ⟨_, _, _, v, rfl, rfl, set_of_rd (rd_ex eN hr), e1, k.val eN r⟩
  · cases q
/-! ==, != -/
mutual
def okN : Nat → PyData → Bool
  | _, .str x => PyData.strOk x
  | 0, .list _ => false
  | k + 1, .list ds => okNs k ds
  | 0, .tuple _ => false
  | k + 1, .tuple ds => okNs k ds
  | _, .dict _ => false
  | _, _ => true
def okNs : Nat → List PyData → Bool
  | _, [] => true
  | k, d :: ds => okN k d && okNs k ds
end
theorem okNs_all (k : Nat) : ∀ ds : List PyData, okNs k ds = ds.all (okN k)
  | [] => by simp [okNs]
  | d :: ds => by simp [okNs, okNs_all k ds]
theorem okN_list (k : Nat) (ds : List PyData) : okN (k + 1) (.list ds) = ds.all (okN k) := by rw [okN, okNs_all]
theorem okN_tuple (k : Nat) (ds : List PyData) : okN (k + 1) (.tuple ds) = ds.all (okN k) := by rw [okN, okNs_all]
mutual
theorem okN_is : ∀ (k : Nat) (d : PyData), okN k d = true → noDict d = true ∧ d.canLay0 = true ∧ d.depth ≤ k
  | _, .none, _ => ⟨by simp [noDict], by simp [PyData.canLay0], by simp [PyData.depth]⟩
  | _, .bool _, _ => ⟨by simp [noDict], by simp [PyData.canLay0], by simp [PyData.depth]⟩
  | _, .int _, _ => ⟨by simp [noDict], by simp [PyData.canLay0], by simp [PyData.depth]⟩
  | k, .str x, h => ⟨by simp [noDict], by cases k <;> simpa [okN, PyData.canLay0] using h, by simp [PyData.depth]⟩
  | 0, .list ds, h => by simp [okN] at h
  | k + 1, .list ds, h => by
    obtain ⟨a, b, c⟩ := okNs_is k ds (by simpa [okN] using h)
    exact ⟨by simpa [noDict] using a, by simpa [PyData.canLay0] using b, by simp only [PyData.depth]; omega⟩
  | 0, .tuple ds, h => by simp [okN] at h
  | k + 1, .tuple ds, h => by
    obtain ⟨a, b, c⟩ := okNs_is k ds (by simpa [okN] using h)
    exact ⟨by simpa [noDict] using a, by simpa [PyData.canLay0] using b, by simp only [PyData.depth]; omega⟩
  | 0, .dict ds, h => by simp [okN] at h
  | k + 1, .dict ds, h => by simp [okN] at h
theorem okNs_is : ∀ (k : Nat) (ds : List PyData), okNs k ds = true → noDictAll ds = true ∧ PyData.canLayAll0 ds = true ∧ PyData.depthAll ds ≤ k
  | _, [], _ => ⟨by simp [noDictAll], by simp [PyData.canLayAll0], by simp [PyData.depthAll]⟩
  | k, d :: ds, h => by
    obtain ⟨h1, h2⟩ := (Bool.and_eq_true _ _).mp (show (okN k d && okNs k ds) = true by simpa [okNs] using h)
    obtain ⟨a, b, c⟩ := okN_is k d h1
    obtain ⟨a', b', c'⟩ := okNs_is k ds h2
    exact ⟨by simp [noDictAll, a, a'], by simp [PyData.canLayAll0, b, b'], by simp only [PyData.depthAll]; omega⟩
end
def okE (d : PyData) : Bool := okN 60 d
theorem okE_dp {N H : Hp} {v : V} {d : PyData} (r : Rp N v d) (e : Ex N H) (h : okE d = true) : Dp KK H v d ∧ SeqAt.shaped d = true := by
  obtain ⟨a, b, c⟩ := okN_is _ _ h
  refine ⟨(r.mono e).dp a, ?_⟩
  unfold SeqAt.shaped
  rw [b]
  exact decide_eq_true (by omega)
def eqE : PyData → PyData → Option PyData := fun d e => if okE d = true ∧ okE e = true then some (.bool (PyData.eqv d e)) else none
def neE : PyData → PyData → Option PyData := fun d e => if okE d = true ∧ okE e = true then some (.bool (!PyData.eqv d e)) else none
theorem ro_eq : RO (rEqD KK) eqE := fun x y N H d e z q eN rx ry Q k => by
  unfold eqE at q
  split at q
  · rename_i w
    cases q
    obtain ⟨a1, a2⟩ := okE_dp rx eN w.1
    obtain ⟨b1, b2⟩ := okE_dp ry eN w.2
    exact ⟨d, e, a1, b1, a2, b2, k.val eN (.bl _)⟩
  · cases q
theorem ro_ne : RO (rNeD KK) neE := fun x y N H d e z q eN rx ry Q k => by
  unfold neE at q
  split at q
  · rename_i w
    cases q
    obtain ⟨a1, a2⟩ := okE_dp rx eN w.1
    obtain ⟨b1, b2⟩ := okE_dp ry eN w.2
    exact ⟨d, e, a1, b1, a2, b2, k.val eN (.bl _)⟩
  · cases q
/-- in, not in, of a list -/
def inE : PyData → PyData → Option PyData := fun d e => match e with
  | .list ts => if okE d = true ∧ okE (.list ts) = true then some (.bool (ts.any fun z => PyData.eqv z d)) else none
  | _ => none
def ninE : PyData → PyData → Option PyData := fun d e => match e with
  | .list ts => if okE d = true ∧ okE (.list ts) = true then some (.bool (!ts.any fun z => PyData.eqv z d)) else none
  | _ => none
theorem ro_in : RO (rInD KK) inE := fun x y N H d e z q eN rx ry Q k => by
  unfold inE at q
  split at q
  · split at q
    · rename_i w
      cases q
      obtain ⟨a1, a2⟩ := okE_dp rx eN w.1
      obtain ⟨b1, b2⟩ := okE_dp ry eN w.2
      exact ⟨d, _, a1, b1, a2, b2, k.val eN (.bl _)⟩
    · cases q
  · cases q
theorem ro_nin : RO (rNotInD KK) ninE := fun x y N H d e z q eN rx ry Q k => by
  unfold ninE at q
  split at q
  · split at q
    · rename_i w
      cases q
      obtain ⟨a1, a2⟩ := okE_dp rx eN w.1
      obtain ⟨b1, b2⟩ := okE_dp ry eN w.2
      exact ⟨d, _, a1, b1, a2, b2, k.val eN (.bl _)⟩
    · cases q
  · cases q
/-- is None -/
def isNone : PyData → Bool
  | .none => true
  | _ => false
theorem non_rp {N : Hp} {v : V} {d : PyData} (r : Rp N v d) : decide (v = .non) = isNone d := by cases r <;> rfl
def isND : PyData → PyData → Option PyData := fun d e => match e with
  | .none => some (.bool (isNone d))
  | _ => none
def notND : PyData → PyData → Option PyData := fun d e => match e with
  | .none => some (.bool (!isNone d))
  | _ => none
theorem ro_isN : RO (fun x y H Q => y = .non ∧ Q (.bl (decide (x = .non))) H) isND := fun x y N H d e z q eN rx ry Q k => by
  unfold isND at q
  split at q
  · cases q
    cases ry
    exact ⟨rfl, k.val eN (by rw [non_rp rx]; exact .bl _)⟩
  · cases q
theorem ro_notN : RO (fun x y H Q => y = .non ∧ Q (.bl (!decide (x = .non))) H) notND := fun x y N H d e z q eN rx ry Q k => by
  unfold notND at q
  split at q
  · cases q
    cases ry
    exact ⟨rfl, k.val eN (by rw [non_rp rx]; exact .bl _)⟩
  · cases q

/-! ### names, constants, and, or, not, tests -/
def eV (i : Nat) : De → Option PyData := fun ds => (ds[i]?).join
theorem fe_var {i : Nat} : FE (tVar i) (eV i) := fun ds d e => ev_var (by
  unfold eV at e
  cases q : ds[i]? with
  | none =>
    rw [q] at e
    cases e
  | some o =>
    rw [q] at e
    cases o with
    | none => cases e
    | some d' =>
      cases e
      rfl)
def eC (d : PyData) : De → Option PyData := fun _ => some d
theorem fe_int {i : Int} : FE (tC (.int i)) (eC (.int i)) := fun ds d e => by cases e; exact ev_int
theorem fe_bl {b : Bool} : FE (tC (.bl b)) (eC (.bool b)) := fun ds d e => by cases e; exact ev_bl
theorem fe_non : FE (tC .non) (eC .none) := fun ds d e => by cases e; exact ev_non
theorem fe_str {x : Str} : FE (tC (.str x)) (eC (.str x)) := fun ds d e => by cases e; exact ev_str
def e1 (op : PyData → Option PyData) (f : De → Option PyData) : De → Option PyData := fun ds => match f ds with
  | some a => op a
  | none => none
def negI : PyData → Option PyData
  | .int i => some (.int (-i))
  | _ => none
theorem fe_neg (h : FE ta f) : FE (tUn (rU fun i => .int (-i)) ta) (e1 negI f) := fun ds z e => by
  unfold e1 at e
  cases q : f ds with
  | none =>
    rw [q] at e
    cases e
  | some a =>
    rw [q] at e
    cases a with
    | int i => cases e; exact ev_neg (h ds _ q)
    | _ => cases e
def notB : PyData → Option PyData
  | .bool b => some (.bool (!b))
  | _ => none
theorem fe_not (h : FE ta f) : FE (tNotV ta) (e1 notB f) := fun ds z e => by
  unfold e1 at e
  cases q : f ds with
  | none =>
    rw [q] at e
    cases e
  | some a =>
    rw [q] at e
    cases a with
    | bool b => cases e; exact ev_notV (h ds _ q)
    | _ => cases e
def eAnd (f g : De → Option PyData) : De → Option PyData := fun ds => match f ds with
  | some (.bool true) => g ds
  | some (.bool false) => some (.bool false)
  | _ => none
def eOr (f g : De → Option PyData) : De → Option PyData := fun ds => match f ds with
  | some (.bool true) => some (.bool true)
  | some (.bool false) => g ds
  | _ => none
theorem fe_and (ha : FE ta f) (hb : FE tb g) : FE (tAndV ta tb) (eAnd f g) := fun ds z e => by
  unfold eAnd at e
  split at e
  · rename_i q
    exact fun σ N hs H eN Q k => ha ds _ q σ N hs H eN _ fun v H1 N1 e1 n1 k1 g1 r => by
      cases r
      exact ⟨true, rfl, iteT (hb ds z e σ N1 (hs.mono n1) H1 k1 _ fun v H2 N2 e2 n2 k2 g2 r2 => k v H2 N2 (e1.trans e2) (n1.trans n2) k2 (g1.trans e1 g2) r2)⟩
  · rename_i q
    cases e
    exact fun σ N hs H eN Q k => ha ds _ q σ N hs H eN _ fun v H1 N1 e1 n1 k1 g1 r => by
      cases r
      exact ⟨false, rfl, iteF (k _ H1 N1 e1 n1 k1 g1 (.bl false))⟩
  · cases e
theorem fe_or (ha : FE ta f) (hb : FE tb g) : FE (tOrV ta tb) (eOr f g) := fun ds z e => by
  unfold eOr at e
  split at e
  · rename_i q
    cases e
    exact fun σ N hs H eN Q k => ha ds _ q σ N hs H eN _ fun v H1 N1 e1 n1 k1 g1 r => by
      cases r
      exact ⟨true, rfl, iteT (k _ H1 N1 e1 n1 k1 g1 (.bl true))⟩
  · rename_i q
    exact fun σ N hs H eN Q k => ha ds _ q σ N hs H eN _ fun v H1 N1 e1 n1 k1 g1 r => by
      cases r
      exact ⟨false, rfl, iteF (hb ds z e σ N1 (hs.mono n1) H1 k1 _ fun v H2 N2 e2 n2 k2 g2 r2 => k v H2 N2 (e1.trans e2) (n1.trans n2) k2 (g1.trans e1 g2) r2)⟩
  · cases e
def eIf (c : De → Option Bool) (f g : De → Option PyData) : De → Option PyData := fun ds => match c ds with
  | some true => f ds
  | some false => g ds
  | none => none
theorem fe_if (hc : FB t fb) (ha : FE ta f) (hb : FE tb g) : FE (tIf t ta tb) (eIf fb f g) := fun ds z e => by
  unfold eIf at e
  split at e
  · exact ev_if (b := true) (hc ds _ ‹_›) (fun _ => ha ds z e) fun q => nomatch q
  · exact ev_if (b := false) (hc ds _ ‹_›) (fun q => nomatch q) fun _ => hb ds z e
  · cases e
theorem fn_if (hc : FB t fb) (ha : FN ta f) (hb : FN tb g) : FN (tIf t ta tb) (eIf fb f g) := fun ds z e => by
  unfold eIf at e
  split at e
  · rename_i q
    exact fun σ N hs H eN Q k => hc ds _ q σ N hs H eN _ fun H1 e1 => iteT (ha ds z e σ N hs H1 (eN.trans e1) _ fun v H2 S e2 r nd fr => k v H2 S (e1.trans e2) r nd fun a ha => ex_none e1 (fr a ha))
  · rename_i q
    exact fun σ N hs H eN Q k => hc ds _ q σ N hs H eN _ fun H1 e1 => iteF (hb ds z e σ N hs H1 (eN.trans e1) _ fun v H2 S e2 r nd fr => k v H2 S (e1.trans e2) r nd fun a ha => ex_none e1 (fr a ha))
  · cases e
/-! tests -/
def bOf (f : De → Option PyData) : De → Option Bool := fun ds => match f ds with
  | some (.bool b) => some b
  | _ => none
theorem fb_test (h : FE ta f) : FB (tTest ta) (bOf f) := fun ds b e => by
  unfold bOf at e
  split at e
  · cases e
    exact eb_test (h ds _ ‹_›)
  · cases e
theorem fb_B (h : FE ta f) : FB (tB ta) (bOf f) := fun ds b e => by
  unfold bOf at e
  split at e
  · cases e
    exact eb_B (h ds _ ‹_›)
  · cases e
/-- truth of a list beside that of a bool -/
def truD : PyData → Option Bool
  | .bool b => some b
  | .list ds => some (!ds.isEmpty)
  | _ => none
def bTru (f : De → Option PyData) : De → Option Bool := fun ds => match f ds with
  | some d => truD d
  | none => none
theorem fb_tru (h : FE ta f) : FB (fun σ H Q => ta σ H fun x H' => ∃ k, TruV KK x H' k ∧ Q k H') (bTru f) := fun ds b e => by
  unfold bTru at e
  cases q : f ds with
  | none =>
    rw [q] at e
    cases e
  | some d =>
    rw [q] at e
    intro σ N hs H eN Q k
    refine h ds d q σ N hs H eN _ fun v H1 N1 e1 n1 k1 g1 r => ?_
    cases d with
    | bool c =>
      cases e
      cases r
      exact ⟨_, rfl, k H1 e1⟩
    | list xs =>
      cases e
      cases r with
      | @lst a vs _ hr hall =>
        refine ⟨_, .inl ⟨vs, ex_l k1 hr, rfl⟩, ?_⟩
        have z := hall.length
        have : vs.isEmpty = xs.isEmpty := by
          rw [Bool.eq_iff_iff, List.isEmpty_iff_length_eq_zero, List.isEmpty_iff_length_eq_zero, z]
        rw [this]
        exact k H1 e1
    | _ => cases e
def bNot (f : De → Option Bool) : De → Option Bool := fun ds => (f ds).map (!·)
def bAnd (f g : De → Option Bool) : De → Option Bool := fun ds => match f ds with
  | some true => g ds
  | some false => some false
  | none => none
def bOr (f g : De → Option Bool) : De → Option Bool := fun ds => match f ds with
  | some true => some true
  | some false => g ds
  | none => none
theorem fb_not (h : FB t fb) : FB (tNot t) (bNot fb) := fun ds b e => by
  unfold bNot at e
  cases q : fb ds with
  | none =>
    rw [q] at e
    cases e
  | some c =>
    rw [q] at e
    cases e
    exact eb_not (h ds c q)
theorem fb_and (h : FB t fb) (h' : FB u gb) : FB (tAnd t u) (bAnd fb gb) := fun ds b e => by
  unfold bAnd at e
  split at e
  · exact eb_is (eb_and (a := true) (h ds _ ‹_›) fun _ => h' ds b e) rfl
  · cases e
    exact eb_is (eb_and (a := false) (b := false) (h ds _ ‹_›) fun z => nomatch z) rfl
  · cases e
theorem fb_or (h : FB t fb) (h' : FB u gb) : FB (tOr t u) (bOr fb gb) := fun ds b e => by
  unfold bOr at e
  split at e
  · cases e
    exact eb_is (eb_or (a := true) (b := true) (h ds _ ‹_›) fun z => nomatch z) rfl
  · exact eb_is (eb_or (a := false) (h ds _ ‹_›) fun _ => h' ds b e) rfl
  · cases e
theorem fb_yes : FB tYes (fun _ => some true) := fun ds b e => by cases e; exact eb_yes
/-- a <= b <= c -/
def eChain (op op' : PyData → PyData → Option PyData) (f g k : De → Option PyData) : De → Option PyData := fun ds => match f ds, g ds with
  | some a, some b => match op a b with
    | some (.bool true) => match k ds with
      | some c => op' b c
      | none => none
    | some (.bool false) => some (.bool false)
    | _ => none
  | _, _ => none
theorem fe_chain {r' : R2} {op' : PyData → PyData → Option PyData} (h : RO r op) (h' : RO r' op') (ha : FE ta f) (hb : FE tb g) (hc : FE tc k) : FE (tChain r r' ta tb tc) (eChain op op' f g k) := fun ds z e => by
  unfold eChain at e
  split at e
  · rename_i a b qa qb
    intro σ N hs H eN Q kk
    refine ha ds a qa σ N hs H eN _ fun x H1 N1 e1 n1 k1 g1 r1 => hb ds b qb σ N1 (hs.mono n1) H1 k1 _ fun y H2 N2 e2 n2 k2 g2 r2 => ?_
    split at e
    · rename_i q
      refine h x y N2 H2 a b _ q k2 (r1.mono n2) r2 _ fun v H3 N3 e3 n3 k3 g3 r3 => ?_
      cases r3
      refine ⟨true, rfl, iteT ?_⟩
      cases qc : k ds with
      | none =>
        rw [qc] at e
        cases e
      | some c =>
        rw [qc] at e
        refine hc ds c qc σ N3 (((hs.mono n1).mono n2).mono n3) H3 k3 _ fun w H4 N4 e4 n4 k4 g4 r4 => ?_
        refine h' y w N4 H4 b c z e k4 ((r2.mono n3).mono n4) r4 _ fun v H5 N5 e5 n5 k5 g5 r5 => ?_
        exact kk v H5 N5 ((((e1.trans e2).trans e3).trans e4).trans e5) ((((n1.trans n2).trans n3).trans n4).trans n5) k5 ((((g1.trans e1 g2).trans (e1.trans e2) g3).trans ((e1.trans e2).trans e3) g4).trans (((e1.trans e2).trans e3).trans e4) g5) r5
    · rename_i q
      cases e
      refine h x y N2 H2 a b _ q k2 (r1.mono n2) r2 _ fun v H3 N3 e3 n3 k3 g3 r3 => ?_
      cases r3
      exact ⟨false, rfl, iteF (kk _ H3 N3 ((e1.trans e2).trans e3) ((n1.trans n2).trans n3) k3 ((g1.trans e1 g2).trans (e1.trans e2) g3) (.bl false))⟩
    · cases e
  · cases e
end
end FX
set_option Elab.async false
set_option linter.all false
set_option maxRecDepth 100000
set_option maxHeartbeats 2000000
/-! Arguments, displays, built-in calls, slices; defs called by their promises; a def's body. -/
namespace FX
open PySem PySem.Spec PyProof.Rows L2 Evl DL
set_option autoImplicit false
variable [Kn]

/-! ### arguments -/
def aN : De → Option (List PyData) := fun _ => some []
def aC (f : De → Option PyData) (g : De → Option (List PyData)) : De → Option (List PyData) := fun ds => match f ds, g ds with
  | some d, some es => some (d :: es)
  | _, _ => none
theorem aC_is {f : De → Option PyData} {g : De → Option (List PyData)} {ds : De} {es : List PyData} (h : aC f g ds = some es) : ∃ d r, f ds = some d ∧ g ds = some r ∧ es = d :: r := by
  unfold aC at h
  split at h
  · cases h
    exact ⟨_, _, ‹_›, ‹_›, rfl⟩
  · cases h
theorem fa_nil : FA tNil aN := fun ds es e => by cases e; exact ea_nil
section
variable {te ta' tx : TE} {ta : TA} {f g : De → Option PyData} {fa : De → Option (List PyData)}
theorem fa_cons (h : FE te f) (hr : FA ta fa) : FA (tCons te ta) (aC f fa) := fun ds es e => by
  obtain ⟨d, r, h1, h2, rfl⟩ := aC_is e
  exact ea_cons (h ds d h1) (hr ds r h2)
def EvW3s (ta : TA) (ds : De) (es : List PyData) : Prop := ∀ σ N, Holds N σ ds → ∀ H, Ex N H → ∀ Q : List V → Hp → Prop, (∀ vs H' S, Ex H H' → Ows nilH H' 3 vs es S → S.Nodup → (∀ a ∈ S, H a = none) → Q vs H') → ta σ H Q
def FNs (ta : TA) (f : De → Option (List PyData)) : Prop := ∀ ds es, f ds = some es → EvW3s ta ds es
theorem fns_nil : FNs tNil aN := fun ds es e => by
  cases e
  exact fun σ N hs H eN Q q => q [] H [] (Ex.refl H) .nil List.nodup_nil (fun _ z => nomatch z)
theorem fns_cons (h : FN te f) (hr : FNs ta fa) : FNs (tCons te ta) (aC f fa) := fun ds es e => by
  obtain ⟨d, r, h1, h2, rfl⟩ := aC_is e
  exact fun σ N hs H eN Q q => h ds d h1 σ N hs H eN _ fun v H1 S e1 r1 nd1 f1 => hr ds r h2 σ N hs H1 (eN.trans e1) _ fun vs H2 S' e2 r2 nd2 f2 =>
    q (v :: vs) H2 (S ++ S') (e1.trans e2) (.cons (r1.mono e2) r2) (List.nodup_append.mpr ⟨nd1, nd2, fun a ha b hb z => by
      subst z
      exact r1.there a ha (f2 a hb)⟩) fun a ha => (List.mem_append.mp ha).elim (f1 a) fun z => ex_none e1 (f2 a z)
def eLst (fa : De → Option (List PyData)) : De → Option PyData := fun ds => match fa ds with
  | some es => if es.length ≤ 100000 then some (.list es) else none
  | none => none
def eTup (fa : De → Option (List PyData)) : De → Option PyData := fun ds => match fa ds with
  | some es => if es.length ≤ 100000 then some (.tuple es) else none
  | none => none
theorem eLst_is {ds : De} {d : PyData} (h : eLst fa ds = some d) : ∃ es, fa ds = some es ∧ es.length ≤ 100000 ∧ d = .list es := by
  unfold eLst at h
  split at h
  · split at h
    · cases h
      exact ⟨_, ‹_›, ‹_›, rfl⟩
    · cases h
  · cases h
theorem eTup_is {ds : De} {d : PyData} (h : eTup fa ds = some d) : ∃ es, fa ds = some es ∧ es.length ≤ 100000 ∧ d = .tuple es := by
  unfold eTup at h
  split at h
  · split at h
    · cases h
      exact ⟨_, ‹_›, ‹_›, rfl⟩
    · cases h
  · cases h
theorem fe_lst (h : FA ta fa) : FE (tLst ta) (eLst fa) := fun ds d e => by
  obtain ⟨es, h1, h2, rfl⟩ := eLst_is e
  exact ev_lst (h ds es h1) h2
theorem fe_tup (h : FA ta fa) : FE (tTup ta) (eTup fa) := fun ds d e => by
  obtain ⟨es, h1, h2, rfl⟩ := eTup_is e
  exact ev_tup (h ds es h1) h2
/-- a new thing over new parts -/
theorem new_over {H H1 : Hp} {p : Addr} {S : List Addr} (e1 : Ex H H1) (nd : S.Nodup) (fr : ∀ a ∈ S, H a = none) (th : ∀ a ∈ S, H1 a ≠ none) (hp : H1 p = none) : (p :: S).Nodup ∧ ∀ a ∈ p :: S, H a = none :=
  ⟨List.nodup_cons.mpr ⟨fun z => th p z hp, nd⟩, fun a ha => (List.mem_cons.mp ha).elim (fun z => by rw [z]; exact ex_none e1 hp) (fr a)⟩
theorem fn_lst (h : FNs ta fa) : FN (tLst ta) (eLst fa) := fun ds d e => by
  obtain ⟨es, h1, h2, rfl⟩ := eLst_is e
  exact fun σ N hs H eN Q q => h ds es h1 σ N hs H eN _ fun vs H1 S e1 r1 nd fr => ⟨sz_100 (by rw [r1.length]; exact h2), fun p hp => by
    obtain ⟨a, b⟩ := new_over e1 nd fr r1.there hp
    exact q (.ref p) _ (p :: S) (e1.trans (Ex.new hp)) (.lst upd_same (r1.mono (Ex.new hp))) a b⟩
theorem fn_tup (h : FNs ta fa) : FN (tTup ta) (eTup fa) := fun ds d e => by
  obtain ⟨es, h1, h2, rfl⟩ := eTup_is e
  exact fun σ N hs H eN Q q => h ds es h1 σ N hs H eN _ fun vs H1 S e1 r1 nd fr => ⟨sz_100 (by rw [r1.length]; exact h2), fun p hp => by
    obtain ⟨a, b⟩ := new_over e1 nd fr r1.there hp
    exact q (.ref p) _ (p :: S) (e1.trans (Ex.new hp)) (.tup upd_same (r1.mono (Ex.new hp))) a b⟩
/-! ### built-in calls -/
def eCB (op : List PyData → Option PyData) (fa : De → Option (List PyData)) : De → Option PyData := fun ds => match fa ds with
  | some es => op es
  | none => none
theorem eCB_is {op : List PyData → Option PyData} {ds : De} {d : PyData} (h : eCB op fa ds = some d) : ∃ es, fa ds = some es ∧ op es = some d := by
  unfold eCB at h
  split at h
  · exact ⟨_, ‹_›, h⟩
  · cases h
theorem fe_cb {r : List V → Hp → VK → Prop} {op : List PyData → Option PyData} (h : RC r op) (ha : FA ta fa) : FE (tCB r ta) (eCB op fa) := fun ds z e => by
  obtain ⟨es, h1, h2⟩ := eCB_is e
  exact ev_cb (ha ds es h1) fun vs N H eN rv Q q => h vs N H es z h2 eN rv Q q
def intsOf : List PyData → Option (List Int)
  | [] => some []
  | .int i :: r => match intsOf r with
    | some ns => some (i :: ns)
    | none => none
  | _ => none
theorem intsOf_is : ∀ {ds : List PyData} {ns : List Int}, intsOf ds = some ns → ds = ns.map PyData.int
  | [], ns, h => by
    unfold intsOf at h
    cases h
    rfl
  | .int i :: r, ns, h => by
    unfold intsOf at h
    cases q : intsOf r with
    | none =>
      rw [q] at h
      cases h
    | some ms =>
      rw [q] at h
      cases h
      rw [intsOf_is q]
      rfl
  | .none :: r, ns, h => by simp [intsOf] at h
  | .bool _ :: r, ns, h => by simp [intsOf] at h
  | .str _ :: r, ns, h => by simp [intsOf] at h
  | .list _ :: r, ns, h => by simp [intsOf] at h
  | .tuple _ :: r, ns, h => by simp [intsOf] at h
  | .dict _ :: r, ns, h => by simp [intsOf] at h
theorem intsOf_map : ∀ ns : List Int, intsOf (ns.map PyData.int) = some ns
  | [] => rfl
  | i :: r => by
    show (match intsOf (r.map PyData.int) with | some ns => some (i :: ns) | none => none) = _
    rw [intsOf_map r]
def boolsOf : List PyData → Option (List Bool)
  | [] => some []
  | .bool i :: r => match boolsOf r with
    | some ns => some (i :: ns)
    | none => none
  | _ => none
theorem boolsOf_is : ∀ {ds : List PyData} {ns : List Bool}, boolsOf ds = some ns → ds = ns.map PyData.bool
  | [], ns, h => by
    unfold boolsOf at h
    cases h
    rfl
  | .bool i :: r, ns, h => by
    unfold boolsOf at h
    cases q : boolsOf r with
    | none =>
      rw [q] at h
      cases h
    | some ms =>
      rw [q] at h
      cases h
      rw [boolsOf_is q]
      rfl
  | .none :: r, ns, h => by simp [boolsOf] at h
  | .int _ :: r, ns, h => by simp [boolsOf] at h
  | .str _ :: r, ns, h => by simp [boolsOf] at h
  | .list _ :: r, ns, h => by simp [boolsOf] at h
  | .tuple _ :: r, ns, h => by simp [boolsOf] at h
  | .dict _ :: r, ns, h => by simp [boolsOf] at h
theorem boolsOf_map : ∀ ns : List Bool, boolsOf (ns.map PyData.bool) = some ns
  | [] => rfl
  | i :: r => by
    show (match boolsOf (r.map PyData.bool) with | some ns => some (i :: ns) | none => none) = _
    rw [boolsOf_map r]
def lenL : List PyData → Option PyData
  | [.list ds] => some (.int (ds.length : Int))
  | [.tuple ds] => some (.int (ds.length : Int))
  | _ => none
theorem rc_len : RC (DL.rLen KK) lenL := fun vs N H ds z q eN rv Q k => by
  unfold lenL at q
  split at q
  · cases q
    cases rv with
    | cons r rr =>
      cases rr
      cases r with
      | lst hr hall => exact ⟨_, _, rfl, .inl (ex_l eN hr), k.val eN (by rw [hall.length]; exact .int _)⟩
  · cases q
    cases rv with
    | cons r rr =>
      cases rr
      cases r with
      | tup hr hall => exact ⟨_, _, rfl, .inr (set_of_rd (rd_ex eN hr)), k.val eN (by rw [hall.length]; exact .int _)⟩
  · cases q
def anyL : List PyData → Option PyData
  | [.list ds] => (boolsOf ds).map fun bs => .bool (bs.any id)
  | _ => none
def allL : List PyData → Option PyData
  | [.list ds] => (boolsOf ds).map fun bs => .bool (bs.all id)
  | _ => none
theorem rc_any : RC (rAny KK) anyL := fun vs N H ds z q eN rv Q k => by
  unfold anyL at q
  split at q
  · rename_i ds
    cases w : boolsOf ds with
    | none =>
      rw [w] at q
      cases q
    | some bs =>
      rw [w] at q
      cases q
      have e := boolsOf_is w
      subst e
      cases rv with
      | cons r rr =>
        cases rr
        cases r with
        | lst hr hall =>
          have e := hall.ofBools
          subst e
          exact ⟨_, bs, rfl, (ex_l eN hr), k.val eN (.bl _)⟩
  · cases q
theorem rc_all : RC (rAll KK) allL := fun vs N H ds z q eN rv Q k => by
  unfold allL at q
  split at q
  · rename_i ds
    cases w : boolsOf ds with
    | none =>
      rw [w] at q
      cases q
    | some bs =>
      rw [w] at q
      cases q
      have e := boolsOf_is w
      subst e
      cases rv with
      | cons r rr =>
        cases rr
        cases r with
        | lst hr hall =>
          have e := hall.ofBools
          subst e
          exact ⟨_, bs, rfl, (ex_l eN hr), k.val eN (.bl _)⟩
  · cases q
def sumL : List PyData → Option PyData
  | [.list ds] => (intsOf ds).map fun ns => .int ns.sum
  | [.tuple ds] => (intsOf ds).map fun ns => .int ns.sum
  | _ => none
theorem rc_sum : RC (rSumX KK) sumL := fun vs N H ds z q eN rv Q k => by
  unfold sumL at q
  split at q
  · rename_i ds
    cases w : intsOf ds with
    | none =>
      rw [w] at q
      cases q
    | some bs =>
      rw [w] at q
      cases q
      have e := intsOf_is w
      subst e
      cases rv with
      | cons r rr =>
        cases rr
        cases r with
        | lst hr hall =>
          have e := hall.ofInts
          subst e
          exact ⟨_, bs, rfl, .inl (ex_l eN hr), k.val eN (.int _)⟩
  · rename_i ds
    cases w : intsOf ds with
    | none =>
      rw [w] at q
      cases q
    | some bs =>
      rw [w] at q
      cases q
      have e := intsOf_is w
      subst e
      cases rv with
      | cons r rr =>
        cases rr
        cases r with
        | tup hr hall =>
          have e := hall.ofInts
          subst e
          exact ⟨_, bs, rfl, .inr (set_of_rd (rd_ex eN hr)), k.val eN (.int _)⟩
  · cases q
/-- the least of ints -/
def least : List Int → Option Int
  | [] => none
  | i :: r => match least r with
    | none => some i
    | some j => some (if i ≤ j then i else j)
theorem least_is : ∀ {ns : List Int} {m : Int}, least ns = some m → m ∈ ns ∧ ∀ y ∈ ns, m ≤ y
  | [], m, h => by cases h
  | i :: r, m, h => by
    unfold least at h
    cases q : least r with
    | none =>
      rw [q] at h
      cases h
      cases r with
      | nil => exact ⟨List.mem_cons_self, fun y hy => by rw [List.mem_singleton.mp hy]; exact Int.le_refl _⟩
      | cons j t =>
        unfold least at q
        split at q <;> cases q
    | some j =>
      rw [q] at h
      cases h
      obtain ⟨a, b⟩ := least_is q
      by_cases z : i ≤ j
      · simp only [if_pos z]
        exact ⟨List.mem_cons_self, fun y hy => (List.mem_cons.mp hy).elim (fun w => by rw [w]; exact Int.le_refl _) fun w => Int.le_trans z (b y w)⟩
      · simp only [if_neg z]
        exact ⟨List.mem_cons_of_mem _ a, fun y hy => (List.mem_cons.mp hy).elim (fun w => by rw [w]; omega) fun w => b y w⟩
def minL : List PyData → Option PyData
  | [.list ds] => match intsOf ds with
    | some ns => (least ns).map .int
    | none => none
  | _ => none
theorem rc_min : RC (rMin KK) minL := fun vs N H ds z q eN rv Q k => by
  unfold minL at q
  split at q
  · rename_i ds
    cases w : intsOf ds with
    | none =>
      rw [w] at q
      cases q
    | some ns =>
      rw [w] at q
      simp only at q
      cases w2 : least ns with
      | none =>
        rw [w2] at q
        cases q
      | some m =>
        rw [w2] at q
        cases q
        obtain ⟨hm, lm⟩ := least_is w2
        have e := intsOf_is w
        subst e
        cases rv with
        | cons r rr =>
          cases rr
          cases r with
          | lst hr hall =>
            have e := hall.ofInts
            subst e
            refine ⟨_, ns, rfl, ex_l eN hr, List.length_pos_of_mem hm, fun m' hm' lm' => ?_⟩
            have a := lm' m hm
            have b := lm m' hm'
            rw [show m' = m by omega]
            exact k.val eN (.int _)
  · cases q
def min2L : List PyData → Option PyData
  | [.int i, .int j] => some (.int (if j < i then j else i))
  | _ => none
def max2L : List PyData → Option PyData
  | [.int i, .int j] => some (.int (if j > i then j else i))
  | _ => none
theorem rc_min2 : RC (fun xs H Q => ∃ i j, xs = [.int i, .int j] ∧ Q (.int (if j < i then j else i)) H) min2L := fun vs N H ds z q eN rv Q k => by
  unfold min2L at q
  split at q
  · cases q
    cases rv with
    | cons r rr =>
      cases rr with
      | cons r2 rr =>
        cases rr
        cases r
        cases r2
        exact ⟨_, _, rfl, k.val eN (.int _)⟩
  · cases q
theorem rc_max2 : RC (fun xs H Q => ∃ i j, xs = [.int i, .int j] ∧ Q (.int (if j > i then j else i)) H) max2L := fun vs N H ds z q eN rv Q k => by
  unfold max2L at q
  split at q
  · cases q
    cases rv with
    | cons r rr =>
      cases rr with
      | cons r2 rr =>
        cases rr
        cases r
        cases r2
        exact ⟨_, _, rfl, k.val eN (.int _)⟩
  · cases q
def absL : List PyData → Option PyData
  | [.int i] => some (.int (if i < 0 then -i else i))
  | _ => none
theorem rc_abs : RC (fun xs H Q => ∃ i, xs = [.int i] ∧ Q (.int (if i < 0 then -i else i)) H) absL := fun vs N H ds z q eN rv Q k => by
  unfold absL at q
  split at q
  · cases q
    cases rv with
    | cons r rr =>
      cases rr
      cases r
      exact ⟨_, rfl, k.val eN (.int _)⟩
  · cases q
def intL : List PyData → Option PyData
  | [.int i] => some (.int i)
  | [.bool b] => some (.int (if b then 1 else 0))
  | _ => none
theorem rc_int : RC (fun xs H Q => (∃ i, xs = [.int i] ∧ Q (.int i) H) ∨ ∃ k, xs = [.bl k] ∧ Q (.int (if k then 1 else 0)) H) intL := fun vs N H ds z q eN rv Q k => by
  unfold intL at q
  split at q
  · cases q
    cases rv with
    | cons r rr =>
      cases rr
      cases r
      exact .inl ⟨_, rfl, k.val eN (.int _)⟩
  · cases q
    cases rv with
    | cons r rr =>
      cases rr
      cases r
      exact .inr ⟨_, rfl, k.val eN (.int _)⟩
  · cases q
/-- list(..), tuple(..) -/
def listL : List PyData → Option PyData
  | [.list ds] => some (.list ds)
  | [.tuple ds] => some (.list ds)
  | _ => none
theorem rc_list : RC (rListOf KK) listL := fun vs N H ds z q eN rv Q k => by
  unfold listL at q
  split at q
  · cases q
    cases rv with
    | cons r rr =>
      cases rr
      cases r with
      | lst hr hall => exact ⟨_, _, rfl, .inl (ex_l eN hr), fun p hp => k.lst eN hall hp⟩
  · cases q
    cases rv with
    | cons r rr =>
      cases rr
      cases r with
      | tup hr hall => exact ⟨_, _, rfl, .inr (set_of_rd (rd_ex eN hr)), fun p hp => k.lst eN hall hp⟩
  · cases q
def tupleL : List PyData → Option PyData
  | [.list ds] => some (.tuple ds)
  | [.tuple ds] => some (.tuple ds)
  | _ => none
theorem rc_tuple : RC (fun xs H Q => ∃ p ys, xs = [.ref p] ∧ ((SqL KK H p ys ∧ ∀ l, H l = none → Q (.ref l) (upd H l (.tup ys))) ∨ (SqT KK H p ys ∧ Q (.ref p) H))) tupleL := fun vs N H ds z q eN rv Q k => by
  unfold tupleL at q
  split at q
  · cases q
    cases rv with
    | cons r rr =>
      cases rr
      cases r with
      | lst hr hall => exact ⟨_, _, rfl, .inl ⟨ex_l eN hr, fun p hp => k.tup eN hall hp⟩⟩
  · cases q
    cases rv with
    | cons r rr =>
      cases rr
      cases r with
      | tup hr hall => exact ⟨_, _, rfl, .inr ⟨set_of_rd (rd_ex eN hr), k.val eN (.tup hr hall)⟩⟩
  · cases q
/-- list(..) of flat things: new -/
def listN : List PyData → Option PyData
  | [.list ds] => if ds.all flatD = true then some (.list ds) else none
  | [.tuple ds] => if ds.all flatD = true then some (.list ds) else none
  | _ => none
theorem ows_flat {N : Hp} {N' H : Hp} {c : Nat} : ∀ {vs : List V} {es : List PyData}, RpAll N vs es → es.all flatD = true → Ows N' H c vs es []
  | _, _, .nil, _ => .nil
  | _, _, .cons h r, f => by
    have f' := (Bool.and_eq_true _ _).mp (show (flatD _ && List.all _ flatD) = true from f)
    exact .cons (S := []) (Ow.flat h f'.1) (ows_flat r f'.2)
theorem one_new {H H1 : Hp} (e1 : Ex H H1) {p : Addr} (hp : H1 p = none) : [p].Nodup ∧ ∀ a ∈ [p], H a = none := new_over e1 List.nodup_nil (fun _ z => nomatch z) (fun _ z => nomatch z) hp
theorem fn_list (ha : FA ta fa) : FN (tCB (rListOf KK) ta) (eCB listN fa) := fun ds z e => by
  obtain ⟨es, h1, q⟩ := eCB_is e
  intro σ N hs H eN Q k
  refine ha ds es h1 σ N hs H eN _ fun vs H1 N1 e1 n1 k1 g1 rv => ?_
  unfold listN at q
  split at q
  · split at q
    · cases q
      cases rv with
      | cons r rr =>
        cases rr
        cases r with
        | lst hr hall => exact ⟨_, _, rfl, .inl (ex_l k1 hr), fun p hp => k (.ref p) _ [p] (e1.trans (Ex.new hp)) (.lst upd_same (ows_flat hall ‹_›)) (one_new e1 hp).1 (one_new e1 hp).2⟩
    · cases q
  · split at q
    · cases q
      cases rv with
      | cons r rr =>
        cases rr
        cases r with
        | tup hr hall => exact ⟨_, _, rfl, .inr (set_of_rd (rd_ex k1 hr)), fun p hp => k (.ref p) _ [p] (e1.trans (Ex.new hp)) (.lst upd_same (ows_flat hall ‹_›)) (one_new e1 hp).1 (one_new e1 hp).2⟩
    · cases q
  · cases q
/-- type(x) == T, != T; isinstance(x, T) -/
def tyEqF (T : String) (f : De → Option PyData) : De → Option PyData := fun ds => (f ds).map fun d => .bool (decide (tyName d = T))
def tyNeF (T : String) (f : De → Option PyData) : De → Option PyData := fun ds => (f ds).map fun d => .bool (!decide (tyName d = T))
def isiF (T : String) (f : De → Option PyData) : De → Option PyData := fun ds => (f ds).map fun d => .bool (isT T d)
theorem map_is {A B : Type} {o : Option A} {g : A → B} {z : B} (h : o.map g = some z) : ∃ a, o = some a ∧ z = g a := by
  cases o with
  | none => cases h
  | some a => exact ⟨a, rfl, (Option.some.inj h).symm⟩
theorem fe_tyEq {T : String} (hT : T ∈ TN) (h : FE te f) : FE (tOp rEqTy (tCB rTyD (tCons te tNil)) (tC (.ty T))) (tyEqF T f) := fun ds z e => by
  obtain ⟨d, h1, rfl⟩ := map_is e
  exact ev_tyEq (h ds d h1) hT
theorem fe_tyNe {T : String} (hT : T ∈ TN) (h : FE te f) : FE (tOp rNeTy (tCB rTyD (tCons te tNil)) (tC (.ty T))) (tyNeF T f) := fun ds z e => by
  obtain ⟨d, h1, rfl⟩ := map_is e
  exact ev_tyNe (h ds d h1) hT
theorem fe_isi {T : String} (hT : T ∈ TN) (h : FE te f) : FE (tCB (rIsi KK) (tCons te (tCons (tC (.ty T)) tNil))) (isiF T f) := fun ds z e => by
  obtain ⟨d, h1, rfl⟩ := map_is e
  exact ev_isi (h ds d h1) hT
/-! ### slices -/
def FO (to : TO) (f : De → Option (Option Int)) : Prop := ∀ ds o, f ds = some o → EvO to ds o
def oN : De → Option (Option Int) := fun _ => some none
def oI (f : De → Option PyData) : De → Option (Option Int) := fun ds => match f ds with
  | some (.int i) => some (some i)
  | _ => none
theorem fo_none : FO tNoPart oN := fun ds o e => by cases e; exact eo_non
theorem fo_int (h : FE te f) : FO (tPart te) (oI f) := fun ds o e => by
  unfold oI at e
  split at e
  · cases e
    exact eo_int (h ds _ ‹_›)
  · cases e
def slOr (K : PySem.W.Frag) : V → Option Int → Option Int → Hp → VK → Prop := fun x lo hi H Q => rSlL K x lo hi H Q ∨ rSlA K x lo hi H Q
theorem k_sl {X : Cx} {K : PySem.W.Frag} (h : X.K = K := by rfl) : SlR X (slOr K) := by
  subst h
  exact SlR.or sl_list sl_tupA
def slD (d : PyData) (lo hi : Option Int) : Option PyData := match d with
  | .list ts => some (.list (DL.cutD ts lo hi))
  | .tuple ts => some (.tuple (DL.cutD ts lo hi))
  | _ => none
def eSl (f : De → Option PyData) (lo hi : De → Option (Option Int)) : De → Option PyData := fun ds => match f ds, lo ds, hi ds with
  | some d, some l, some h => slD d l h
  | _, _, _ => none
theorem eSl_is {lo hi : De → Option (Option Int)} {ds : De} {z : PyData} (h : eSl f lo hi ds = some z) : ∃ d l u, f ds = some d ∧ lo ds = some l ∧ hi ds = some u ∧ slD d l u = some z := by
  unfold eSl at h
  split at h
  · exact ⟨_, _, _, ‹_›, ‹_›, ‹_›, h⟩
  · cases h
theorem fe_slice {tl th : TO} {lo hi : De → Option (Option Int)} (h : FE te f) (h1 : FO tl lo) (h2 : FO th hi) : FE (tSl (slOr KK) te tl th) (eSl f lo hi) := fun ds z e => by
  obtain ⟨d, l, u, a, b, c, q⟩ := eSl_is e
  intro σ N hs H eN Q k
  refine h ds d a σ N hs H eN _ fun v H1 N1 e1 n1 k1 g1 r1 => h1 ds l b σ N hs H1 (eN.trans e1) _ fun H2 e2 => h2 ds u c σ N hs H2 ((eN.trans e1).trans e2) _ fun H3 e3 => ?_
  have k3 := (k1.trans e2).trans e3
  have g3 : Reg N H N1 := g1
  have fin : Fin N1 H3 z Q := fun v' H' N' e n kk g r => k v' H' N' (((e1.trans e2).trans e3).trans e) (n1.trans n) kk (g1.trans ((e1.trans e2).trans e3) g) r
  unfold slD at q
  split at q
  · cases q
    cases r1 with
    | lst hr hall => exact .inl ⟨_, _, rfl, ex_l k3 hr, fun p hp => fin.lst k3 (hall.cut l u) hp⟩
  · rename_i ts
    cases q
    cases r1 with
    | tup hr hall =>
      refine .inr ⟨_, _, rfl, set_of_rd (rd_ex k3 hr), fun w => ?_, fun w p hp => fin.tup k3 (hall.cut l u) hp⟩
      refine fin.val k3 ?_
      have hl := hall.length
      rw [hl] at w
      have : DL.cutD ts l u = ts := by
        unfold DL.cutD
        rw [w.1, w.2]
        simp
      rw [this]
      exact .tup hr hall
  · cases q
end
/-! ### defs -/
/-- a promise: what f tells of the data handed in; a result of the code rc; nothing that stood is changed -/
def spP (cm : String → Addr) (rc : Nat) (f : List PyData → Option Ob) : Sp := fun vs H Q E => ∃ (N : Hp) (ds : List PyData) (r : Ob), Ex N H ∧ RpAll N vs ds ∧ f ds = some r ∧
  (∀ d, r = .ok d → ∀ v H' N' S, Ex H H' → Ex N N' → Ex N' H' → Reg N H N' → Ow N' H' rc v d S → S.Nodup → (∀ a ∈ S, H a = none ∧ N' a = none) → Q v H') ∧
  (∀ e, r = .error e → ∀ H' o S, Ex H H' → PayR H' o e.pl S → S.Nodup → (∀ a ∈ S, H a = none) → E (.ref (cm e.c)) o H')
section
variable {cm : String → Addr} {rc : Nat} {W : WX} {E : XK} {Es : St → XK} {ta : TA} {fa : De → Option (List PyData)} {f : List PyData → Option Ob}
def cR (f : List PyData → Option Ob) (fa : De → Option (List PyData)) : De → Option Ob := fun ds => match fa ds with
  | some es => f es
  | none => none
def okOf (f : List PyData → Option Ob) : List PyData → Option PyData := fun es => match f es with
  | some (.ok d) => some d
  | _ => none
theorem okOf_is {es : List PyData} {d : PyData} (h : okOf f es = some d) : f es = some (.ok d) := by
  unfold okOf at h
  split at h
  · cases h
    assumption
  · cases h
theorem cR_is {ds : De} {r : Ob} (h : cR f fa ds = some r) : ∃ es, fa ds = some es ∧ f es = some r := by
  unfold cR at h
  split at h
  · exact ⟨_, ‹_›, h⟩
  · cases h
/-- what a call hands back is known from then on -/
theorem call_ok {vs : List V} {es : List PyData} {d : PyData} {N H : Hp} {Q : VK} (eN : Ex N H) (r : RpAll N vs es) (hf : f es = some (.ok d)) (q : Fin N H d Q) : spP cm rc f vs H Q E := ⟨N, es, .ok d, eN, r, hf, fun d' z v H' N' S e n k g ow nd fr => by
  cases z
  have hx : Ex (HU N' (only H' S)) H' := hu_in k (only_ex _ _)
  refine q v H' (HU N' (only H' S)) e (n.trans (hu_l _ _)) hx (fun a ha => (hu_reg ha).elim (g a) fun z => .inr ((fr a (by
    by_cases w : a ∈ S
    · exact w
    · rw [only_out w] at z
      exact absurd rfl z)).1)) (ow.rp (hu_l _ _) fun a ha => ?_)
  have z := hu_r (A := N') k (only_ex H' S)
  cases w : H' a with
  | none => exact absurd w (ow.there a ha)
  | some o => exact z a o (by rw [only_in ha, w]), fun e z => nomatch z⟩
theorem fe_call (h : FA ta fa) : FE (tCall (spP cm rc f) [] E ta) (eCB (okOf f) fa) := fun ds d e => by
  obtain ⟨es, h1, h2⟩ := eCB_is e
  exact fun σ N hs H eN Q q => h ds es h1 σ N hs H eN _ fun vs H1 N1 e1 n1 k1 g1 r1 => call_ok k1 (by rw [List.append_nil]; exact r1) (okOf_is h2) fun v H' N' e n k g r => q v H' N' (e1.trans e) (n1.trans n) k (g1.trans e1 g) r
theorem fe_callS (h : FA ta fa) : FE (tCallS (spP cm rc f) Es ta) (eCB (okOf f) fa) := fun ds d e => by
  obtain ⟨es, h1, h2⟩ := eCB_is e
  exact fun σ N hs H eN Q q => h ds es h1 σ N hs H eN _ fun vs H1 N1 e1 n1 k1 g1 r1 => call_ok k1 r1 (okOf_is h2) fun v H' N' e n k g r => q v H' N' (e1.trans e) (n1.trans n) k (g1.trans e1 g) r
theorem call_new {vs : List V} {es : List PyData} {d : PyData} {N H H0 : Hp} {Q : VK} (eN : Ex N H) (e0 : Ex H0 H) (r : RpAll N vs es) (hf : f es = some (.ok d)) (q : ∀ v H' S, Ex H0 H' → Ow nilH H' 3 v d S → S.Nodup → (∀ a ∈ S, H0 a = none) → Q v H') : spP cm 3 f vs H Q E := ⟨N, es, .ok d, eN, r, hf, fun d' z v H' N' S e n k g ow nd fr => by
  cases z
  exact q v H' S (e0.trans e) ow.new nd fun a ha => ex_none e0 (fr a ha).1, fun e z => nomatch z⟩
theorem fn_call (h : FA ta fa) : FN (tCall (spP cm 3 f) [] E ta) (eCB (okOf f) fa) := fun ds d e => by
  obtain ⟨es, h1, h2⟩ := eCB_is e
  exact fun σ N hs H eN Q q => h ds es h1 σ N hs H eN _ fun vs H1 N1 e1 n1 k1 g1 r1 => call_new k1 e1 (by rw [List.append_nil]; exact r1) (okOf_is h2) q
theorem fn_callS (h : FA ta fa) : FN (tCallS (spP cm 3 f) Es ta) (eCB (okOf f) fa) := fun ds d e => by
  obtain ⟨es, h1, h2⟩ := eCB_is e
  exact fun σ N hs H eN Q q => h ds es h1 σ N hs H eN _ fun vs H1 N1 e1 n1 k1 g1 r1 => call_new k1 e1 r1 (okOf_is h2) q
theorem call_er {vs : List V} {es : List PyData} {x : Er} {N H H0 : Hp} {Q : VK} (eN : Ex N H) (e0 : Ex H0 H) (r : RpAll N vs es) (hf : f es = some (.error x)) (q : ∀ H' o S, Ex H0 H' → PayR H' o x.pl S → S.Nodup → (∀ a ∈ S, H0 a = none) → E (.ref (cm x.c)) o H') : spP cm rc f vs H Q E := ⟨N, es, .error x, eN, r, hf, fun d z => (nomatch z), fun e z H' o S e1 p nd fr => by
  cases z
  exact q H' o S (e0.trans e1) p nd fun a ha => ex_none e0 (fr a ha)⟩
theorem fr_call (h : FA ta fa) : FR cm W (tCallS (spP cm rc f) (WE W) ta) (cR f fa) := fun ds r e => by
  obtain ⟨es, h1, h2⟩ := cR_is e
  refine ⟨fun d z => fun σ N hs H eN Q q => h ds es h1 σ N hs H eN _ fun vs H1 N1 e1 n1 k1 g1 r1 => call_ok k1 r1 (by rw [h2, z]) fun v H' N' e n k g r => q v H' N' (e1.trans e) (n1.trans n) k (g1.trans e1 g) r, fun x z => ?_⟩
  exact fun σ N hs Q H eN q => h ds es h1 σ N hs H eN _ fun vs H1 N1 e1 n1 k1 g1 r1 => call_er k1 e1 r1 (by rw [h2, z]) q
theorem frn_call (h : FA ta fa) : FRN cm W (tCallS (spP cm 3 f) (WE W) ta) (cR f fa) := fun ds r e => by
  obtain ⟨es, h1, h2⟩ := cR_is e
  refine ⟨fun d z => fun σ N hs H eN Q q => h ds es h1 σ N hs H eN _ fun vs H1 N1 e1 n1 k1 g1 r1 => call_new k1 e1 r1 (by rw [h2, z]) q, fun x z => ?_⟩
  exact fun σ N hs Q H eN q => h ds es h1 σ N hs H eN _ fun vs H1 N1 e1 n1 k1 g1 r1 => call_er k1 e1 r1 (by rw [h2, z]) q
/-- a def's body -/
def outOf : Option GO → Option Ob
  | some (.nx _) => some (.ok .none)
  | some (.rt d _) => some (.ok d)
  | some (.er e _) => some (.error e)
  | _ => none
def runF (n : Nat) (g : De → Option GO) : List PyData → Option Ob := fun es => outOf (g (startD n es))
theorem hg_start {N H : Hp} {names : List Str} {vs : List V} {es : List PyData} {os : List Nat} (eN : Ex N H) (r : RpAll N vs es) (hn : ∀ i, pinned (os.getD i 0) = false) (h0 : ∀ i, i < es.length → os.getD i 0 = 0) : Hg (fun _ => none) N H (L2.start names vs) (startD names.length es) os (fun _ => []) := by
  have hs := holds_start (names := names) r
  refine ⟨hs.len, fun i d e => ?_, fun _ _ => rfl, fun _ => List.nodup_nil, fun _ _ _ _ z => (nomatch z), fun _ _ z => (nomatch z), fun _ _ z => (nomatch z), fun _ _ z => (nomatch z), fun _ _ => rfl⟩
  obtain ⟨v, e1, r1⟩ := hs.at_ i d e
  refine ⟨v, e1, ?_⟩
  have hi : i < es.length := by
    refine Nat.lt_of_not_le fun z => ?_
    unfold startD at e
    rw [List.getElem?_append_right (by rw [List.length_map]; omega), List.getElem?_replicate] at e
    split at e
    · cases Option.some.inj e
    · cases e
  rw [h0 i hi]
  exact .leaf rfl r1
theorem body_P {t : TS} {g : De → Option GO} {names : List Str} {vs : List V} {H : Hp} {Q : VK} {os : List Nat} {n : Nat} (hs : FS os rc cm (fun cls o _ H => E cls o H) t g) (hn : names.length = n) (hl : ∀ i, pinned (os.getD i 0) = false) (h0 : ∀ i, i < vs.length → os.getD i 0 = 0) (h : spP cm rc (runF n g) vs H Q E) :
    t { nx := fun _ H' => Q .non H', rt := Q, bk := fun _ _ => False, ct := fun _ _ => False } (L2.start names vs) H := by
  subst hn
  obtain ⟨N, es, r, eN, rv, hf, q1, q2⟩ := h
  have hr : ∀ {N' H' : Hp} {F' : Fp}, Stp N H (fun _ => []) N' H' F' → Ex H H' ∧ Reg N H N' := fun s => ⟨fun a o z => by
    rw [s.un a (fun w => w.elim (fun y => by rw [z] at y; cases y) fun ⟨i, y⟩ => nomatch y)]
    exact z, fun a ha => (s.ng a ha).elim .inl fun w => w.elim .inr fun ⟨i, y⟩ => nomatch y⟩
  have ap : ∀ {N' : Hp} {F' : Fp} {S : List Addr}, Apt N H (fun _ => []) N' F' S → ∀ a ∈ S, H a = none ∧ N' a = none := fun p a ha => ⟨(p.wr a ha).elim (fun y => y) fun ⟨i, y⟩ => (nomatch y), p.ou a ha⟩
  unfold runF at hf
  cases e : g (startD names.length es) with
  | none =>
    rw [e] at hf
    cases hf
  | some o =>
    rw [e] at hf
    refine hs _ o e _ _ N H _ (hg_start eN rv hl fun i hi => h0 i (by rw [rv.length]; exact hi)) eN _ ?_
    cases o with
    | nx ds =>
      cases hf
      exact fun σ' N' H' F' s g' => q1 _ rfl .non H' N' [] (hr s).1 s.n s.k (hr s).2 (Ow.flat (N := nilH) .non rfl) List.nodup_nil fun _ z => nomatch z
    | rt d ds =>
      cases hf
      exact fun v σ' N' H' F' S s g' r p => q1 _ rfl v H' N' S (hr s).1 s.n s.k (hr s).2 r p.nd (ap p)
    | er x ds =>
      cases hf
      exact fun σ' N' H' F' o S s g' r p => q2 _ rfl H' o S (hr s).1 r p.nd fun a ha => (ap p a ha).1
    | bk ds => cases hf
    | ct ds => cases hf
/-- how many things are handed in -/
theorem lenP_of {n : Nat} (h : ∀ es r, f es = some r → es.length = n) : ∀ vs H Q E, spP cm rc f vs H Q E → vs.length = n := fun vs H Q E ⟨N, es, r, _, rv, hf, _⟩ => by
  rw [rv.length]
  exact h es r hf
/-- just so many things -/
def only_ (n : Nat) (f : List PyData → Option Ob) : List PyData → Option Ob := fun es => if es.length = n then f es else none
theorem only_is {n : Nat} {es : List PyData} {r : Ob} (h : only_ n f es = some r) : es.length = n ∧ f es = some r := by
  unfold only_ at h
  split at h
  · exact ⟨‹_›, h⟩
  · cases h
end
end FX
set_option Elab.async false
set_option linter.all false
set_option maxRecDepth 100000
set_option maxHeartbeats 2000000
/-! Walks of any kind, targets of any kind: comprehensions, loops. -/
namespace FX
open PySem PySem.Spec PyProof.Rows L2 Evl DL
set_option autoImplicit false
variable [Kn]

/-! ### what a walk gives -/
def Wk (J : It) (N1 : Hp) (its : List PyData) : Prop := ∃ Y : Nat → Hp → V → Hp → Prop, Walk J its.length (fun H => Ex N1 H) Y ∧
  ∀ i d, its[i]? = some d → ∀ H x H', Ex N1 H → Y i H x H' → ∃ N2, Ex H H' ∧ Ex N1 N2 ∧ Ex N2 H' ∧ Reg N1 H N2 ∧ Rp N2 x d
def FI (ti : TI) (f : De → Option (List PyData)) : Prop := ∀ ds its, f ds = some its → ∀ σ N, Holds N σ ds → ∀ H, Ex N H → ∀ R : It → Hp → Prop, (∀ J H1 N1, Ex H H1 → Ex N N1 → Ex N1 H1 → Reg N H N1 → Wk J N1 its → R J H1) → ti σ H R
section
variable {te tl : TE} {ta : TA} {f : De → Option PyData} {fa : De → Option (List PyData)} {w w' : TI} {g g' : De → Option (List PyData)}
def itL (f : De → Option PyData) : De → Option (List PyData) := fun ds => match f ds with
  | some (.list xs) => some xs
  | _ => none
def itT (f : De → Option PyData) : De → Option (List PyData) := fun ds => match f ds with
  | some (.tuple xs) => some xs
  | _ => none
def itO (f g : De → Option (List PyData)) : De → Option (List PyData) := fun ds => match f ds with
  | some z => some z
  | none => g ds
theorem fi_or (h : FI w g) (h' : FI w' g') : FI (iOr w w') (itO g g') := fun ds its e σ N hs H eN R k => by
  unfold itO at e
  cases q : g ds with
  | some z =>
    rw [q] at e
    cases e
    exact .inl (h ds _ q σ N hs H eN R k)
  | none =>
    rw [q] at e
    exact .inr (h' ds its e σ N hs H eN R k)
/-- items that stand already -/
theorem wk_at {J : It} {N1 : Hp} {its : List PyData} {xs : List V} (hall : RpAll N1 xs its) {G : Hp → Prop} (hG : ∀ H, Ex N1 H → G H) (h : Walk J xs.length G (YAt xs)) : Wk J N1 its :=
  ⟨YAt xs, by rw [← hall.length]; exact h.mono hG fun i H x H' _ _ y => y, fun i d e H x H' hN y => by
    obtain ⟨v, e1, r⟩ := hall.get e
    have : x = v := Option.some.inj (y.2.symm.trans e1)
    subst this
    obtain ⟨rfl, _⟩ := y
    exact ⟨N1, Ex.refl _, Ex.refl _, hN, Reg.refl, r⟩⟩
theorem fi_list (h : FE tl f) : FI (iList KK tl) (itL f) := fun ds its e σ N hs H eN R k => by
  unfold itL at e
  split at e
  · cases e
    refine h ds _ ‹_› σ N hs H eN _ fun v H1 N1 e1 n1 k1 g1 r1 => ?_
    cases r1 with
    | lst hr hall => exact ⟨_, rfl, ⟨_, ex_l k1 hr⟩, k _ H1 N1 e1 n1 k1 g1 (wk_at hall (fun H hN => ex_l hN hr) walk_list)⟩
  · cases e
theorem fi_tup (h : FE tl f) : FI (iTup KK tl) (itT f) := fun ds its e σ N hs H eN R k => by
  unfold itT at e
  split at e
  · cases e
    refine h ds _ ‹_› σ N hs H eN _ fun v H1 N1 e1 n1 k1 g1 r1 => ?_
    cases r1 with
    | tup hr hall => exact ⟨_, rfl, ⟨_, set_of_rd (rd_ex k1 hr)⟩, k _ H1 N1 e1 n1 k1 g1 (wk_at hall (fun H hN => set_of_rd (rd_ex hN hr)) walk_tup)⟩
  · cases e
def rngD (lo : Int) (n : Nat) : List PyData := (List.range n).map fun i => .int (lo + (i : Nat))
theorem wk_rng {N1 : Hp} {lo : Int} {n : Nat} : Wk (Itr lo n) N1 (rngD lo n) :=
  ⟨YFn fun i => .int (lo + i), by
    have := (walk_range (lo := lo) (n := n)).mono (G' := fun H => Ex N1 H) (Y' := YFn fun i => .int (lo + i)) (fun _ _ => trivial) fun _ _ _ _ _ _ y => y
    simpa [rngD] using this, fun i d e H x H' hN y => by
    obtain ⟨rfl, rfl⟩ := y
    unfold rngD at e
    rw [List.getElem?_map] at e
    cases q : (List.range n)[i]? with
    | none =>
      rw [q] at e
      cases e
    | some j =>
      rw [q] at e
      obtain ⟨h1, h2⟩ := List.getElem?_eq_some_iff.mp q
      rw [List.getElem_range] at h2
      subst h2
      cases e
      exact ⟨N1, Ex.refl _, Ex.refl _, hN, Reg.refl, .int _⟩⟩
def itR1 (fa : De → Option (List PyData)) : De → Option (List PyData) := fun ds => match fa ds with
  | some [.int n] => if -(2 ^ 62) ≤ n ∧ n < 2 ^ 62 then some (rngD 0 n.toNat) else none
  | _ => none
theorem fi_rng1 (h : FA ta fa) : FI (iRng1 ta) (itR1 fa) := fun ds its e σ N hs H eN R k => by
  unfold itR1 at e
  split at e
  · split at e
    · rename_i w
      cases e
      refine h ds _ ‹_› σ N hs H eN _ fun vs H1 N1 e1 n1 k1 g1 r1 => ?_
      cases r1 with
      | cons r rr =>
        cases rr
        cases r
        exact ⟨_, rfl, w.1, w.2, k _ H1 N1 e1 n1 k1 g1 wk_rng⟩
    · cases e
  · cases e
def itR2 (fa : De → Option (List PyData)) : De → Option (List PyData) := fun ds => match fa ds with
  | some [.int m, .int n] => if -(2 ^ 62) ≤ m ∧ m < 2 ^ 62 ∧ -(2 ^ 62) ≤ n ∧ n < 2 ^ 62 then some (rngD m (n - m).toNat) else none
  | _ => none
theorem fi_rng2 (h : FA ta fa) : FI (iRng2 ta) (itR2 fa) := fun ds its e σ N hs H eN R k => by
  unfold itR2 at e
  split at e
  · split at e
    · rename_i w
      cases e
      refine h ds _ ‹_› σ N hs H eN _ fun vs H1 N1 e1 n1 k1 g1 r1 => ?_
      cases r1 with
      | cons r rr =>
        cases rr with
        | cons r2 rr =>
          cases rr
          cases r
          cases r2
          exact ⟨_, _, rfl, w, k _ H1 N1 e1 n1 k1 g1 wk_rng⟩
    · cases e
  · cases e
/-- pairs made on the way -/
theorem wk_pair {J : It} {N1 : Hp} {its : List PyData} {xs ys : Nat → Option V} {G : Hp → Prop} (hG : ∀ H, Ex N1 H → G H) (h : Walk J its.length G (YPair xs ys))
    (hp : ∀ i d, its[i]? = some d → ∃ a b, d = .tuple [a, b] ∧ (∀ x, xs i = some x → Rp N1 x a) ∧ ∀ y, ys i = some y → Rp N1 y b) : Wk J N1 its :=
  ⟨_, h.mono hG fun i H x H' _ _ y => y, fun i d e H x H' hN y => by
    obtain ⟨a, b, rfl, ha, hb⟩ := hp i d e
    obtain ⟨T, x, y, rfl, hT, rfl, ex, ey⟩ := y
    have nT : N1 T = none := ex_none hN hT
    refine ⟨upd N1 T (.tup [x, y]), Ex.new hT, Ex.new nT, fun c o hc => ?_, fun c hc => ?_, .tup (.inl upd_same) (.cons ((ha x ex).mono (Ex.new nT)) (.cons ((hb y ey).mono (Ex.new nT)) .nil))⟩
    · by_cases z : c = T
      · subst z
        rw [upd_same] at hc ⊢
        exact hc
      · rw [upd_ne z] at hc ⊢
        exact hN c o hc
    · by_cases z : c = T
      · subst z
        exact .inr hT
      · rw [upd_ne z] at hc
        exact .inl hc⟩
def enumD (xs : List PyData) : List PyData := xs.zipIdx.map fun p => .tuple [.int (p.2 : Int), p.1]
theorem enum_at {xs : List PyData} {i : Nat} {d : PyData} (h : (enumD xs)[i]? = some d) : ∃ x, xs[i]? = some x ∧ d = .tuple [.int (i : Int), x] := by
  unfold enumD at h
  rw [List.getElem?_map, List.getElem?_zipIdx] at h
  cases q : xs[i]? with
  | none =>
    rw [q] at h
    cases h
  | some x =>
    rw [q] at h
    have h' := Option.some.inj h
    exact ⟨x, rfl, by rw [← h']; simp⟩
def itE (fa : De → Option (List PyData)) : De → Option (List PyData) := fun ds => match fa ds with
  | some [.list xs] => some (enumD xs)
  | _ => none
theorem fi_enum (h : FA ta fa) : FI (iEnum KK ta) (itE fa) := fun ds its e σ N hs H eN R k => by
  unfold itE at e
  split at e
  · rename_i xs _
    cases e
    refine h ds _ ‹_› σ N hs H eN _ fun vs H1 N1 e1 n1 k1 g1 r1 => ?_
    cases r1 with
    | cons r rr =>
      cases rr
      cases r with
      | @lst a us _ hr hall =>
        refine ⟨a, us, rfl, ex_l k1 hr, k _ H1 N1 e1 n1 k1 g1 (wk_pair (fun H hN => ex_l hN hr) (by
          have : (enumD xs).length = us.length := by rw [hall.length]; simp [enumD]
          rw [this]
          exact walk_enum) fun i d e => ?_)⟩
        obtain ⟨x, ex, rfl⟩ := enum_at e
        obtain ⟨v, ev, rv⟩ := hall.get ex
        refine ⟨_, _, rfl, fun z hz => ?_, fun z hz => ?_⟩
        · cases hz
          exact .int _
        · rw [ev] at hz
          cases hz
          exact rv
  · cases e
def zipD (xs ys : List PyData) : List PyData := (xs.zip ys).map fun p => .tuple [p.1, p.2]
theorem zip_at2 {xs ys : List PyData} {i : Nat} {d : PyData} (h : (zipD xs ys)[i]? = some d) : ∃ x y, xs[i]? = some x ∧ ys[i]? = some y ∧ d = .tuple [x, y] := by
  unfold zipD at h
  rw [List.getElem?_map] at h
  cases q : (xs.zip ys)[i]? with
  | none =>
    rw [q] at h
    cases h
  | some p =>
    rw [q] at h
    have h' := Option.some.inj h
    rw [List.getElem?_zip_eq_some] at q
    exact ⟨p.1, p.2, q.1, q.2, h'.symm⟩
def itZ (fa : De → Option (List PyData)) : De → Option (List PyData) := fun ds => match fa ds with
  | some [.list xs, .list ys] => some (zipD xs ys)
  | _ => none
theorem fi_zip (h : FA ta fa) : FI (iZip KK ta) (itZ fa) := fun ds its e σ N hs H eN R k => by
  unfold itZ at e
  split at e
  · rename_i xs ys _
    cases e
    refine h ds _ ‹_› σ N hs H eN _ fun vs H1 N1 e1 n1 k1 g1 r1 => ?_
    cases r1 with
    | cons r rr =>
      cases rr with
      | cons r' rr =>
        cases rr
        cases r with
        | @lst a us _ hr hall =>
          cases r' with
          | @lst b ws _ hr' hall' =>
            refine ⟨a, b, us, ws, rfl, ex_l k1 hr, ex_l k1 hr', k _ H1 N1 e1 n1 k1 g1 (wk_pair (fun H hN => ⟨ex_l hN hr, ex_l hN hr'⟩) (walk_zip (by
              rw [hall.length, hall'.length]; simp [zipD])) fun i d e => ?_)⟩
            obtain ⟨x, y, ex, ey, rfl⟩ := zip_at2 e
            obtain ⟨v, ev, rv⟩ := hall.get ex
            obtain ⟨v', ev', rv'⟩ := hall'.get ey
            refine ⟨_, _, rfl, fun z hz => ?_, fun z hz => ?_⟩
            · rw [ev] at hz
              cases hz
              exact rv
            · rw [ev'] at hz
              cases hz
              exact rv'
  · cases e
/-- the rows of a list of lists -/
def rowsOf : List PyData → Option (List (List PyData))
  | [] => some []
  | .list r :: l => match rowsOf l with
    | some rs => some (r :: rs)
    | none => none
  | _ => none
theorem rowsOf_is : ∀ {ds : List PyData} {rs : List (List PyData)}, rowsOf ds = some rs → ds = rs.map PyData.list
  | [], rs, h => by
    unfold rowsOf at h
    cases h
    rfl
  | .list r :: l, rs, h => by
    unfold rowsOf at h
    cases q : rowsOf l with
    | none =>
      rw [q] at h
      cases h
    | some ms =>
      rw [q] at h
      cases h
      rw [rowsOf_is q]
      rfl
  | .none :: r, ns, h => by simp [rowsOf] at h
  | .bool _ :: r, ns, h => by simp [rowsOf] at h
  | .str _ :: r, ns, h => by simp [rowsOf] at h
  | .int _ :: r, ns, h => by simp [rowsOf] at h
  | .tuple _ :: r, ns, h => by simp [rowsOf] at h
  | .dict _ :: r, ns, h => by simp [rowsOf] at h
theorem rowsOf_map : ∀ rs : List (List PyData), rowsOf (rs.map PyData.list) = some rs
  | [] => rfl
  | r :: l => by
    show (match rowsOf (l.map PyData.list) with | some rs => some (r :: rs) | none => none) = _
    rw [rowsOf_map l]
def colD (rs : List (List PyData)) (i : Nat) : List PyData := rs.map fun r => r.getD i .none
def colsD (rs : List (List PyData)) (m : Nat) : List PyData := (List.range m).map fun i => .tuple (colD rs i)
def itS (f : De → Option PyData) : De → Option (List PyData) := fun ds => match f ds with
  | some (.list xs) => match rowsOf xs with
    | some rs => if 0 < rs.length ∧ rs.length ≤ 8 ∧ rs.all (fun r => r.length == (rs.headD []).length) = true then some (colsD rs (rs.headD []).length) else none
    | none => none
  | _ => none
theorem fi_zipS (h : FE tl f) : FI (ZS.iZipS KK tl) (itS f) := fun ds its e σ N hs H eN R k => by
  unfold itS at e
  split at e
  · rename_i xs _
    cases q : rowsOf xs with
    | none =>
      rw [q] at e
      cases e
    | some rs =>
      rw [q] at e
      simp only at e
      split at e
      · rename_i w
        obtain ⟨w0, w8, wl⟩ := w
        cases e
        have ex := rowsOf_is q
        subst ex
        have hm : ∀ r ∈ rs, r.length = (rs.headD []).length := fun r hr => by simpa using List.all_eq_true.mp wl r hr
        generalize (rs.headD []).length = m at hm k
        refine h ds _ ‹_› σ N hs H eN _ fun v H1 N1 e1 n1 k1 g1 r1 => ?_
        cases r1 with
        | @lst a vs _ hr hall =>
          obtain ⟨ls, xss, ev, el1, el2, hrow⟩ := rp_lists hall
          subst ev
          have hrd : ∀ (k : Nat) (l : Addr), ls[k]? = some l → ∃ xs r, rs[k]? = some r ∧ SqL KK N1 l xs ∧ RpAll N1 xs r := fun k l hk => by
            have hk2 : k < rs.length := by
              rw [← el1]
              exact (List.getElem?_eq_some_iff.mp hk).1
            have hx : xss[k]? = some (xss[k]'(by omega)) := List.getElem?_eq_getElem _
            have hy : rs[k]? = some rs[k] := List.getElem?_eq_getElem hk2
            obtain ⟨p1, p2⟩ := hrow k l _ _ hk hx hy
            exact ⟨_, _, hy, p1, p2⟩
          refine ⟨a, ls, rfl, .inr (ex_l k1 hr), by omega, by omega, fun l hl => ?_, ?_⟩
          · obtain ⟨k, hk⟩ := List.mem_iff_getElem?.mp hl
            obtain ⟨xs, r, _, p1, _⟩ := hrd k l hk
            exact ⟨xs, ex_l k1 p1⟩
          refine k _ H1 N1 e1 n1 k1 g1 ⟨(ZS.Its KK ls).yld, ⟨fun i H' hi hN => ?_, fun H' hN => ?_, fun i H' x H'' _ _ y => y⟩, fun i d e H' x H'' hN y => ?_⟩
          · have hi' : i < m := by simpa [colsD] using hi
            have hp : ∀ (k : Nat) (l : Addr), ls[k]? = some l → ∃ v : V, ∃ xs, SqL KK H' l xs ∧ xs[i]? = some v := fun k l hk => by
              obtain ⟨xs, r, p0, p1, p2⟩ := hrd k l hk
              have hx : i < xs.length := by
                rw [p2.length, hm r (List.mem_of_getElem? p0)]
                exact hi'
              exact ⟨xs[i], xs, ex_l hN p1, List.getElem?_eq_getElem hx⟩
            obtain ⟨vs, hv1, hv2⟩ := ZS.pick (R := fun l v => ∃ xs, SqL KK H' l xs ∧ xs[i]? = some v) _ ls rfl hp
            exact ⟨vs, hv1, fun k l v a b => hv2 k l v a b⟩
          · have hl0 : 0 < ls.length := by omega
            obtain ⟨xs, r, p0, p1, p2⟩ := hrd 0 ls[0] (List.getElem?_eq_getElem hl0)
            exact ⟨ls[0], xs, List.getElem?_eq_getElem hl0, ex_l hN p1, by rw [p2.length, hm r (List.mem_of_getElem? p0)]; simp [colsD]⟩
          · have hi : i < m := by
              have := (List.getElem?_eq_some_iff.mp e).1
              simpa [colsD] using this
            have ed : d = .tuple (colD rs i) := by
              unfold colsD at e
              rw [List.getElem?_map, List.getElem?_range hi] at e
              exact (Option.some.inj e).symm
            subst ed
            obtain ⟨T, vs, rfl, hT, rfl, hvl, hv⟩ := y
            have rcol : RpAll N1 vs (colD rs i) := rp_col vs _ (by rw [hvl, el1]; simp [colD]) fun k v d e2 e3 => by
              have hk2 : k < ls.length := by
                rw [← hvl]
                exact (List.getElem?_eq_some_iff.mp e2).1
              obtain ⟨xs, r, p0, p1, p2⟩ := hrd k ls[k] (List.getElem?_eq_getElem hk2)
              have e4 := hv k ls[k] v (List.getElem?_eq_getElem hk2) e2 xs (ex_l hN p1)
              have hl : i < r.length := by rw [hm r (List.mem_of_getElem? p0)]; exact hi
              have e6 : d = r[i] := by
                unfold colD at e3
                rw [List.getElem?_map, p0] at e3
                have e7 := Option.some.inj e3
                rw [← e7]
                show r.getD i PyData.none = r[i]
                rw [List.getD_eq_getElem?_getD, List.getElem?_eq_getElem hl]
                rfl
              obtain ⟨v', e5, rv⟩ := p2.get (List.getElem?_eq_getElem hl)
              rw [e4] at e5
              cases e5
              rw [e6]
              exact rv
            have nT : N1 T = none := ex_none hN hT
            refine ⟨upd N1 T (.tup vs), Ex.new hT, Ex.new nT, fun c o hc => ?_, fun c hc => ?_, .tup (.inl upd_same) (rcol.mono (Ex.new nT))⟩
            · by_cases z : c = T
              · subst z
                rw [upd_same] at hc ⊢
                exact hc
              · rw [upd_ne z] at hc ⊢
                exact hN c o hc
            · by_cases z : c = T
              · subst z
                exact .inr hT
              · rw [upd_ne z] at hc
                exact .inl hc
      · cases e
  · cases e
end

/-! ### targets -/
abbrev Bd := List (Nat × PyData)
def setV (σ : St) : Bd → List V → St
  | (i, _) :: l, u :: us => setV (σ.set i (some u)) l us
  | _, _ => σ
def bindD (ds : De) : Bd → De
  | [] => ds
  | (i, d) :: l => bindD (ds.set i (some d)) l
theorem setV_app : ∀ (l l' : Bd) (us us' : List V) (σ : St), us.length = l.length → setV σ (l ++ l') (us ++ us') = setV (setV σ l us) l' us'
  | [], _, [], _, _, _ => rfl
  | (i, d) :: l, l', u :: us, us', σ, h => by
    show setV (σ.set i (some u)) (l ++ l') (us ++ us') = _
    rw [setV_app l l' us us' _ (by simpa using h)]
    rfl
  | [], _, _ :: _, _, _, h => by simp at h
  | _ :: _, _, [], _, _, h => by simp at h
theorem Holds.bind {N : Hp} : ∀ {l : Bd} {us : List V} {σ : St} {ds : De}, Holds N σ ds → RpAll N us (l.map Prod.snd) → Holds N (setV σ l us) (bindD ds l)
  | [], _, _, _, h, .nil => h
  | (i, d) :: l, _, _, _, h, .cons r rr => by
    have q := Holds.bind (h.set r i) rr
    exact q
theorem wipe_setV {vs : List Nat} : ∀ {l : Bd} {us : List V} {σ : St}, (l.all fun x => vs.contains x.1) = true → wipe (setV σ l us) vs = wipe σ vs
  | [], _, _, _ => rfl
  | (i, d) :: l, [], σ, _ => rfl
  | (i, d) :: l, u :: us, σ, h => by
    obtain ⟨h1, h2⟩ := (Bool.and_eq_true _ _).mp (show (vs.contains i && l.all fun x => vs.contains x.1) = true from h)
    show wipe (setV (σ.set i (some u)) l us) vs = _
    rw [wipe_setV h2, wipe_set (some u) (by simpa using h1)]
def FT (g : TG) (b : PyData → Option Bd) : Prop := ∀ d l, b d = some l → ∀ N v, Rp N v d → ∀ σ H, Ex N H → ∀ Q : St → Hp → Prop, (∀ us, RpAll N us (l.map Prod.snd) → Q (setV σ l us) H) → g v σ H Q
def FTs (t : TGs) (b : List PyData → Option Bd) : Prop := ∀ ds l, b ds = some l → ∀ N vs, RpAll N vs ds → ∀ σ H, Ex N H → ∀ Q : St → Hp → Prop, (∀ us, RpAll N us (l.map Prod.snd) → Q (setV σ l us) H) → t vs σ H Q
def bName (i : Nat) : PyData → Option Bd := fun d => some [(i, d)]
theorem ft_name {i : Nat} : FT (gName i) (bName i) := fun d l e N v r σ H eN Q q => by
  cases e
  exact q [v] (.cons r .nil)
def bNil : List PyData → Option Bd := fun ds => match ds with
  | [] => some []
  | _ => none
def bCons (b : PyData → Option Bd) (c : List PyData → Option Bd) : List PyData → Option Bd := fun ds => match ds with
  | d :: r => match b d, c r with
    | some l, some l' => some (l ++ l')
    | _, _ => none
  | [] => none
theorem fts_nil : FTs gNil bNil := fun ds l e N vs r σ H eN Q q => by
  unfold bNil at e
  split at e
  · cases e
    cases r
    exact ⟨rfl, q [] .nil⟩
  · cases e
theorem fts_cons {g : TG} {t : TGs} {b : PyData → Option Bd} {c : List PyData → Option Bd} (h : FT g b) (h' : FTs t c) : FTs (gCons g t) (bCons b c) := fun ds l e N vs r σ H eN Q q => by
  unfold bCons at e
  split at e
  · split at e
    · rename_i q1 q2
      cases e
      cases r with
      | cons r1 rr =>
        refine ⟨_, _, rfl, h _ _ q1 N _ r1 σ H eN _ fun us ru => h' _ _ q2 N _ rr _ H eN Q fun us' ru' => ?_⟩
        rw [← setV_app _ _ _ _ _ (by rw [ru.length, List.length_map])]
        exact q (us ++ us') (by rw [List.map_append]; exact ru.append ru')
    · cases e
  · cases e
def bTup (n : Nat) (c : List PyData → Option Bd) : PyData → Option Bd := fun d => match d with
  | .tuple ds => if ds.length = n then c ds else none
  | _ => none
theorem ft_tup {n : Nat} {t : TGs} {c : List PyData → Option Bd} (h : FTs t c) : FT (gTup KK n t) (bTup n c) := fun d l e N v r σ H eN Q q => by
  unfold bTup at e
  split at e
  · split at e
    · rename_i hn
      cases r with
      | tup hr hall => exact ⟨_, _, rfl, set_of_rd (rd_ex eN hr), by rw [hall.length]; exact hn, h _ l e N _ hall σ H eN Q q⟩
    · cases e
  · cases e

/-! ### a list in the making -/
structure Mk (P : List PyData → Hp → Prop) (N1 : Hp) (D : Addr) : Prop where
  on : ∀ zs H H', P zs H → Ex H H' → P zs H'
  kn : ∀ zs H, P zs H → Ex N1 H
  at_ : ∀ zs H, P zs H → H D ≠ none
def Elt (P : List PyData → Hp → Prop) (N H N1 : Hp) (D : Addr) (te : TE) (f : De → Option PyData) : Prop := ∀ e d, f e = some d → ∀ zs σ2 N2 H3, Holds N2 σ2 e → Ex N1 N2 → Ex N2 H3 → N2 D = none → Reg N H N2 → P zs H3 → zs.length < 100000 →
  ∀ R : Hp → Prop, (∀ H5, P (zs ++ [d]) H5 → R H5) → te σ2 H3 fun y H4 => ∃ acc, H4 D = some (.lst acc) ∧ acc.length < sizeLine ∧ R (upd H4 D (.lst (acc ++ [y])))
def stepD (vs : List Nat) (b : PyData → Option Bd) (ds : De) (x : PyData) : Option De := match b x with
  | some l => if (l.all fun x => vs.contains x.1) = true then some (bindD (wipeD ds vs) l) else none
  | none => none
def lcGo (st : PyData → Option De) (p : De → Option Bool) (f : De → Option PyData) : List PyData → List PyData → Option (List PyData)
  | [], zs => some zs
  | x :: xs, zs => match st x with
    | none => none
    | some e => match p e with
      | none => none
      | some false => lcGo st p f xs zs
      | some true => match f e with
        | none => none
        | some y => lcGo st p f xs (zs ++ [y])
theorem lcGo_len {st : PyData → Option De} {p : De → Option Bool} {f : De → Option PyData} : ∀ {xs zs all : List PyData}, lcGo st p f xs zs = some all → zs.length ≤ all.length
  | [], zs, all, h => by
    cases h
    exact Nat.le_refl _
  | x :: xs, zs, all, h => by
    unfold lcGo at h
    split at h
    · cases h
    · split at h
      · cases h
      · exact lcGo_len h
      · split at h
        · cases h
        · have := lcGo_len h
          simp at this
          omega
section
variable {P : List PyData → Hp → Prop} {N H N1 : Hp} {D : Addr} {te : TE} {tt : TT} {g : TG} {fe : De → Option PyData} {fp : De → Option Bool} {b : PyData → Option Bd} {σ : St} {ds : De} {vs : List Nat}
/-- one turn up to its test -/
theorem turn_bind (hg : FT g b) (hp : FB tt fp) (hs : Holds N1 σ ds) {x : PyData} {e : De} {c : Bool} (hst : stepD vs b ds x = some e) (hc : fp e = some c) {v : V} {H' N2 : Hp} (n2 : Ex N1 N2) (k2 : Ex N2 H') (r : Rp N2 v x) {K : St → Bool → Hp → Prop}
    (k : ∀ σ2 H3, Holds N2 σ2 e → Ex H' H3 → K σ2 c H3) : g v (wipe σ vs) H' fun σ2 H2 => wipe σ2 vs = wipe σ vs ∧ tt σ2 H2 fun b H3 => K σ2 b H3 := by
  unfold stepD at hst
  split at hst
  · split at hst
    · rename_i l hb hl
      cases hst
      refine hg x l hb N2 v r _ H' k2 _ fun us ru => ?_
      have hh := Holds.bind ((hs.mono n2).wipe vs) ru
      exact ⟨by rw [wipe_setV hl, wipe_wipe], hp _ c hc _ N2 hh H' k2 _ fun H3 e3 => k _ H3 hh e3⟩
    · cases hst
  · cases hst
/-- a whole loop of such turns -/
theorem loop_gen {J : It} {its all zs0 : List PyData} (mk : Mk P N1 D) (wk : Wk J N1 its) (hND : N1 D = none) (gN : Reg N H N1) (hg : FT g b) (hp : FB tt fp) (he : Elt P N H N1 D te fe) (hs : Holds N1 σ ds) (hgo : lcGo (stepD vs b ds) fp fe its zs0 = some all) (hz : all.length ≤ 100000)
    {H4 : Hp} (h0 : P zs0 H4) (hH : ∀ zs H', P zs H' → Ex H H') {Qd : Hp → Prop} (hd : ∀ H', P all H' → Qd H') :
    ∃ W : Nat → Nat → Hp → Prop, (∃ m, W 0 m H4) ∧ ∀ i m H, W i m H → (J.stop i H ∧ Qd H) ∨ (J.go i H ∧ ∃ Nx : Hp → Prop, (∀ H', Nx H' → ∃ m', m' < m ∧ W (i + 1) m' H') ∧ ∀ x H', J.yld i H x H' → g x (wipe σ vs) H' fun σ2 H2 => wipe σ2 vs = wipe σ vs ∧ tt σ2 H2 fun b H3 =>
        if b = true then te σ2 H3 fun y H4 => ∃ acc, H4 D = some (.lst acc) ∧ acc.length < sizeLine ∧ Nx (upd H4 D (.lst (acc ++ [y]))) else Nx H3) := by
  obtain ⟨Y, wk, wy⟩ := wk
  refine ⟨fun i m H' => m = its.length - i ∧ i ≤ its.length ∧ ∃ zs, lcGo (stepD vs b ds) fp fe (its.drop i) zs = some all ∧ P zs H', ⟨_, rfl, Nat.zero_le _, zs0, hgo, h0⟩, ?_⟩
  rintro i m H' ⟨rfl, hi, zs, hgo, p⟩
  have kn := mk.kn zs H' p
  by_cases hlt : i < its.length
  · have ex : its[i]? = some its[i] := List.getElem?_eq_getElem hlt
    rw [List.drop_eq_getElem_cons hlt] at hgo
    unfold lcGo at hgo
    refine .inr ⟨wk.goes i H' hlt kn, fun H'' => ∃ zs, lcGo (stepD vs b ds) fp fe (its.drop (i + 1)) zs = some all ∧ P zs H'', fun H'' q => ⟨its.length - (i + 1), by omega, rfl, hlt, q⟩, fun x H'' y => ?_⟩
    obtain ⟨N2, e2, n2, k2, g2, r2⟩ := wy i _ ex H' x H'' kn (wk.yields i H' x H'' hlt kn y)
    have hN2 : N2 D = none := by
      cases z : N2 D with
      | none => rfl
      | some o =>
        rcases g2 D (by rw [z]; intro w; cases w) with w | w
        · exact absurd hND w
        · exact absurd w (mk.at_ zs H' p)
    have gg : Reg N H N2 := fun a ha => (g2 a ha).elim (gN a) fun z => .inr (ex_none (hH zs H' p) z)
    split at hgo
    · cases hgo
    · rename_i e hst
      split at hgo
      · cases hgo
      · rename_i hc
        exact turn_bind hg hp hs hst hc n2 k2 r2 fun σ2 H3 hh e3 => iteF ⟨zs, hgo, mk.on _ _ _ (mk.on _ _ _ p e2) e3⟩
      · rename_i hc
        split at hgo
        · cases hgo
        · rename_i d hf
          have hlen := lcGo_len hgo
          rw [List.length_append] at hlen
          refine turn_bind hg hp hs hst hc n2 k2 r2 fun σ2 H3 hh e3 => iteT ?_
          exact he e d hf zs σ2 N2 H3 hh n2 (k2.trans e3) hN2 gg (mk.on _ _ _ (mk.on _ _ _ p e2) e3) (by simp at hlen; omega) (fun H'' => ∃ zs, lcGo (stepD vs b ds) fp fe (its.drop (i + 1)) zs = some all ∧ P zs H'') fun H5 p5 => ⟨zs ++ [d], hgo, p5⟩
  · have e : i = its.length := by omega
    subst e
    rw [List.drop_length] at hgo
    cases hgo
    exact .inl ⟨wk.stops H' kn, hd H' p⟩
end
/-! ### comprehensions -/
section
variable {te tl : TE} {tt : TT} {g : TG} {ti : TI} {f : De → Option PyData} {fp : De → Option Bool} {fi : De → Option (List PyData)} {b : PyData → Option Bd} {vs : List Nat}
def eLc (vs : List Nat) (b : PyData → Option Bd) (fi : De → Option (List PyData)) (fp : De → Option Bool) (f : De → Option PyData) : De → Option PyData := fun ds => match fi ds with
  | some its => match lcGo (stepD vs b ds) fp f its [] with
    | some all => if all.length ≤ 100000 then some (.list all) else none
    | none => none
  | none => none
theorem eLc_is {ds : De} {z : PyData} (h : eLc vs b fi fp f ds = some z) : ∃ its all, fi ds = some its ∧ lcGo (stepD vs b ds) fp f its [] = some all ∧ all.length ≤ 100000 ∧ z = .list all := by
  unfold eLc at h
  split at h
  · split at h
    · split at h
      · cases h
        exact ⟨_, _, ‹_›, ‹_›, ‹_›, rfl⟩
      · cases h
    · cases h
  · cases h
theorem mk_cq {N H H1 N1 : Hp} {D : Addr} : Mk (fun zs H' => Cq N H H1 N1 D zs H') N1 D := ⟨fun _ _ _ c e => c.on e, fun _ _ c => c.known, fun _ _ c => c.at⟩
theorem elt_cq {N H H1 N1 : Hp} {D : Addr} (e1 : Ex H H1) (hD : H1 D = none) (h : FE te f) : Elt (fun zs H' => Cq N H H1 N1 D zs H') N H N1 D te f := fun e d hf zs σ2 N2 H3 hs n2 k2 hN2 g2 p hz R hR => by
  obtain ⟨acc, Nk, a, b, c, k, f', g, r⟩ := (p.more k2 hN2 g2 n2).ex
  refine h e d hf σ2 Nk (hs.mono c) H3 k _ fun y H4 N4 e4 n4 k4 g4 r4 => ⟨acc, e4 _ _ b, by rw [r.length]; exact sz_lt hz, hR _ ⟨acc ++ [y], N4, Ex.mut (a.trans e4) hD, upd_same, (n2.trans c).trans n4, ?_, ?_, ?_, (r.mono n4).append (.one r4)⟩⟩
  · have f4 : N4 D = none := by
      cases h : N4 D with
      | none => rfl
      | some o =>
        rcases g4 D (by rw [h]; intro z; cases z) with z | z
        · exact absurd f' z
        · rw [b] at z
          cases z
    exact Ex.mut k4 f4
  · cases h : N4 D with
    | none => rfl
    | some o =>
      rcases g4 D (by rw [h]; intro z; cases z) with z | z
      · exact absurd f' z
      · rw [b] at z
        cases z
  · exact fun x hx => (g4 x hx).elim (g x) fun z => .inr (ex_none (e1.trans a) z)
theorem fe_lc (hi : FI ti fi) (hg : FT g b) (hp : FB tt fp) (h : FE te f) : FE (tLc ti g tt te vs) (eLc vs b fi fp f) := fun ds z e => by
  obtain ⟨its, all, h1, h2, h3, rfl⟩ := eLc_is e
  intro σ N hs H eN Q q
  refine hi ds its h1 σ N hs H eN _ fun J H1 N1 e1 n1 k1 g1 wk D hD => ?_
  exact loop_gen mk_cq wk (ex_none k1 hD) g1 hg hp (elt_cq e1 hD h) (hs.mono n1) h2 h3 (Cq.start e1 k1 g1 hD) (fun zs H' c => e1.trans c.old) fun H' c => c.fin e1 n1 hD q
/-- a new list of new things -/
def Cn (H H1 N1 : Hp) (D : Addr) (zs : List PyData) (H' : Hp) : Prop := ∃ acc S, Ex H1 H' ∧ H' D = some (.lst acc) ∧ Ows nilH H' 3 acc zs S ∧ (D :: S).Nodup ∧ (∀ a ∈ S, H1 a = none) ∧ Ex N1 H1
theorem mk_cn {H H1 N1 : Hp} {D : Addr} : Mk (fun zs H' => Cn H H1 N1 D zs H') N1 D := ⟨fun _ _ _ ⟨acc, S, a, b, c, d, e, f⟩ x => ⟨acc, S, a.trans x, x _ _ b, c.mono x, d, e, f⟩, fun _ _ ⟨acc, S, a, b, c, d, e, f⟩ => f.trans a, fun _ _ ⟨acc, S, a, b, c, d, e, f⟩ => by rw [b]; intro z; cases z⟩
theorem Ows.snoc {N H : Hp} {c : Nat} : ∀ {vs : List V} {ds : List PyData} {S S' : List Addr} {v : V} {d : PyData}, Ows N H c vs ds S → Ow N H c v d S' → Ows N H c (vs ++ [v]) (ds ++ [d]) (S ++ S')
  | _, _, _, S', _, _, .nil, h => by
    have q := Ows.cons h .nil
    rw [List.append_nil] at q
    exact q
  | _, _, _, _, _, _, .cons g r, h => by
    rw [List.append_assoc]
    exact .cons g (Ows.snoc r h)
theorem elt_cn {N H H1 N1 : Hp} {D : Addr} (hD : H1 D = none) (h : FN te f) : Elt (fun zs H' => Cn H H1 N1 D zs H') N H N1 D te f := fun e d hf zs σ2 N2 H3 hs n2 k2 hN2 g2 p hz R hR => by
  obtain ⟨acc, S, c1, c2, c3, c4, c5, c6⟩ := p
  refine h e d hf σ2 N2 hs H3 k2 _ fun y H4 S' e4 r4 nd4 f4 => ?_
  have hDS : D ∉ S' := fun z => by
    have := f4 D z
    rw [c2] at this
    cases this
  refine ⟨acc, e4 _ _ c2, by rw [c3.length]; exact sz_lt hz, hR _ ⟨acc ++ [y], S ++ S', Ex.mut (c1.trans e4) hD, upd_same, ?_, ?_, ?_, c6⟩⟩
  · have q1 := (c3.mono e4).snoc r4
    refine q1.agree fun b hb => upd_ne fun z => ?_
    subst z
    rcases List.mem_append.mp hb with hb | hb
    · exact (List.nodup_cons.mp c4).1 hb
    · exact hDS hb
  · obtain ⟨p1, p2⟩ := List.nodup_cons.mp c4
    refine List.nodup_cons.mpr ⟨fun z => (List.mem_append.mp z).elim p1 hDS, List.nodup_append.mpr ⟨p2, nd4, fun a ha b hb z => ?_⟩⟩
    subst z
    exact c3.there a ha (f4 a hb)
  · exact fun b hb => (List.mem_append.mp hb).elim (c5 b) fun z => ex_none c1 (f4 b z)
theorem cn_start {H H1 N1 : Hp} {D : Addr} (k1 : Ex N1 H1) (hD : H1 D = none) : Cn H H1 N1 D [] (upd H1 D (.lst [])) := ⟨[], [], Ex.new hD, upd_same, .nil, by simp, fun _ z => (nomatch z), k1⟩
theorem cn_fin {H H1 N1 : Hp} {D : Addr} {all : List PyData} {H' : Hp} (e1 : Ex H H1) (hD : H1 D = none) (c : Cn H H1 N1 D all H') {Q : VK} (q : ∀ v H' S, Ex H H' → Ow nilH H' 3 v (.list all) S → S.Nodup → (∀ a ∈ S, H a = none) → Q v H') : Q (.ref D) H' := by
  obtain ⟨acc, S, c1, c2, c3, c4, c5, c6⟩ := c
  exact q (.ref D) H' (D :: S) (e1.trans c1) (.lst c2 c3) c4 fun b hb => (List.mem_cons.mp hb).elim (fun z => by rw [z]; exact ex_none e1 hD) fun z => ex_none e1 (c5 b z)
theorem fn_lc (hi : FI ti fi) (hg : FT g b) (hp : FB tt fp) (h : FN te f) : FN (tLc ti g tt te vs) (eLc vs b fi fp f) := fun ds z e => by
  obtain ⟨its, all, h1, h2, h3, rfl⟩ := eLc_is e
  intro σ N hs H eN Q q
  refine hi ds its h1 σ N hs H eN _ fun J H1 N1 e1 n1 k1 g1 wk D hD => ?_
  exact loop_gen (P := fun zs H' => Cn H H1 N1 D zs H') mk_cn wk (ex_none k1 hD) g1 hg hp (elt_cn hD h) (hs.mono n1) h2 h3 (cn_start k1 hD) (fun zs H' ⟨acc, S, c1, _⟩ => e1.trans c1) fun H' c => cn_fin e1 hD c q
/-! two fors -/
variable {te1 : TE} {tt1 : TT} {g1 : TG} {ti1 : TI} {fp1 : De → Option Bool} {fi1 : De → Option (List PyData)} {b1 : PyData → Option Bd} {vs1 : List Nat}
def lcGo2 (st : PyData → Option De) (p : De → Option Bool) (inn : De → List PyData → Option (List PyData)) : List PyData → List PyData → Option (List PyData)
  | [], zs => some zs
  | x :: xs, zs => match st x with
    | none => none
    | some e => match p e with
      | none => none
      | some false => lcGo2 st p inn xs zs
      | some true => match inn e zs with
        | none => none
        | some ys => lcGo2 st p inn xs ys
def innD (vs1 : List Nat) (b1 : PyData → Option Bd) (fi1 : De → Option (List PyData)) (fp1 : De → Option Bool) (f : De → Option PyData) : De → List PyData → Option (List PyData) := fun e zs => match fi1 e with
  | some its => lcGo (stepD vs1 b1 e) fp1 f its zs
  | none => none
theorem inn_is {e : De} {zs ys : List PyData} (h : innD vs1 b1 fi1 fp1 f e zs = some ys) : ∃ its, fi1 e = some its ∧ lcGo (stepD vs1 b1 e) fp1 f its zs = some ys := by
  unfold innD at h
  split at h
  · exact ⟨_, ‹_›, h⟩
  · cases h
theorem lcGo2_len {st : PyData → Option De} {p : De → Option Bool} : ∀ {xs zs all : List PyData}, lcGo2 st p (innD vs1 b1 fi1 fp1 f) xs zs = some all → zs.length ≤ all.length
  | [], zs, all, h => by
    cases h
    exact Nat.le_refl _
  | x :: xs, zs, all, h => by
    unfold lcGo2 at h
    split at h
    · cases h
    · split at h
      · cases h
      · exact lcGo2_len h
      · split at h
        · cases h
        · rename_i q
          obtain ⟨its, _, q2⟩ := inn_is q
          exact Nat.le_trans (lcGo_len q2) (lcGo2_len h)
def eLc2 (vs : List Nat) (b : PyData → Option Bd) (fi : De → Option (List PyData)) (fp : De → Option Bool) (vs1 : List Nat) (b1 : PyData → Option Bd) (fi1 : De → Option (List PyData)) (fp1 : De → Option Bool) (f : De → Option PyData) : De → Option PyData := fun ds => match fi ds with
  | some its => match lcGo2 (stepD vs b ds) fp (innD vs1 b1 fi1 fp1 f) its [] with
    | some all => if all.length ≤ 100000 then some (.list all) else none
    | none => none
  | none => none
theorem eLc2_is {ds : De} {z : PyData} (h : eLc2 vs b fi fp vs1 b1 fi1 fp1 f ds = some z) : ∃ its all, fi ds = some its ∧ lcGo2 (stepD vs b ds) fp (innD vs1 b1 fi1 fp1 f) its [] = some all ∧ all.length ≤ 100000 ∧ z = .list all := by
  unfold eLc2 at h
  split at h
  · split at h
    · split at h
      · cases h
        exact ⟨_, _, ‹_›, ‹_›, ‹_›, rfl⟩
      · cases h
    · cases h
  · cases h
/-- the parts that a list in the making asks for, where more is known on the way -/
structure Mk2 (P : Hp → List PyData → Hp → Prop) (N H H1 N1 : Hp) (D : Addr) (te : TE) (f : De → Option PyData) : Prop where
  mks : ∀ N2, Mk (P N2) N2 D
  el : ∀ N2, Elt (P N2) N H N2 D te f
  up : ∀ N2 N3 zs H', Ex N2 N3 → Ex N3 H' → N3 D = none → Reg N H N3 → P N2 zs H' → P N3 zs H'
  dn : ∀ N2 N3 zs H', Ex N2 N3 → P N3 zs H' → P N2 zs H'
  old : ∀ N2 zs H', P N2 zs H' → Ex H1 H'
theorem lc2_gen {P : Hp → List PyData → Hp → Prop} {N H H1 N1 : Hp} {D : Addr} {J : It} {its all : List PyData} {σ : St} {ds : De} (mm : Mk2 P N H H1 N1 D te f) (e1 : Ex H H1) (wk : Wk J N1 its) (hND : N1 D = none) (gN : Reg N H N1) (hi1 : FI ti1 fi1) (hg : FT g b) (hp : FB tt fp) (hg1 : FT g1 b1) (hp1 : FB tt1 fp1) (hs : Holds N1 σ ds)
    (hgo : lcGo2 (stepD vs b ds) fp (innD vs1 b1 fi1 fp1 f) its [] = some all) (hz : all.length ≤ 100000) (h0 : P N1 [] (upd H1 D (.lst []))) {Qd : Hp → Prop} (hd : ∀ H', P N1 all H' → Qd H') :
    ∃ W : Nat → Nat → Hp → Prop, (∃ m, W 0 m (upd H1 D (.lst []))) ∧ ∀ i m H, W i m H →
  (J.stop i H ∧ Qd H) ∨ (J.go i H ∧ ∃ Nx : Hp → Prop, (∀ H', Nx H' → ∃ m', m' < m ∧ W (i + 1) m' H') ∧ ∀ x H', J.yld i H x H' → g x (wipe σ vs) H' fun σ2 H2 => wipe σ2 vs = wipe σ vs ∧ tt σ2 H2 fun b H3 =>
    if b = true then ti1 σ2 H3 fun J1 H4 => ∃ W1 : Nat → Nat → Hp → Prop, (∃ m, W1 0 m H4) ∧ ∀ j k H, W1 j k H →
      (J1.stop j H ∧ Nx H) ∨ (J1.go j H ∧ ∃ Nx1 : Hp → Prop, (∀ H', Nx1 H' → ∃ k', k' < k ∧ W1 (j + 1) k' H') ∧ ∀ x H', J1.yld j H x H' → g1 x (wipe σ2 vs1) H' fun σ3 H5 => wipe σ3 vs1 = wipe σ2 vs1 ∧ tt1 σ3 H5 fun b H6 =>
        if b = true then te σ3 H6 fun y H7 => ∃ acc, H7 D = some (.lst acc) ∧ acc.length < sizeLine ∧ Nx1 (upd H7 D (.lst (acc ++ [y]))) else Nx1 H6)
    else Nx H3) := by
  obtain ⟨Y, wk, wy⟩ := wk
  refine ⟨fun i m H' => m = its.length - i ∧ i ≤ its.length ∧ ∃ zs, lcGo2 (stepD vs b ds) fp (innD vs1 b1 fi1 fp1 f) (its.drop i) zs = some all ∧ P N1 zs H', ⟨_, rfl, Nat.zero_le _, [], hgo, h0⟩, ?_⟩
  rintro i m H' ⟨rfl, hi, zs, hgo, p⟩
  have mk := mm.mks N1
  have kn := mk.kn zs H' p
  by_cases hlt : i < its.length
  · have ex : its[i]? = some its[i] := List.getElem?_eq_getElem hlt
    rw [List.drop_eq_getElem_cons hlt] at hgo
    unfold lcGo2 at hgo
    refine .inr ⟨wk.goes i H' hlt kn, fun H'' => ∃ zs, lcGo2 (stepD vs b ds) fp (innD vs1 b1 fi1 fp1 f) (its.drop (i + 1)) zs = some all ∧ P N1 zs H'', fun H'' q => ⟨its.length - (i + 1), by omega, rfl, hlt, q⟩, fun x H'' y => ?_⟩
    obtain ⟨N2, e2, n2, k2, g2, r2⟩ := wy i _ ex H' x H'' kn (wk.yields i H' x H'' hlt kn y)
    have hN2 : N2 D = none := by
      cases z : N2 D with
      | none => rfl
      | some o =>
        rcases g2 D (by rw [z]; intro w; cases w) with w | w
        · exact absurd hND w
        · exact absurd w (mk.at_ zs H' p)
    have hH' : Ex H H' := e1.trans (mm.old _ _ _ p)
    have gg : Reg N H N2 := fun a ha => (g2 a ha).elim (gN a) fun z => .inr (ex_none hH' z)
    split at hgo
    · cases hgo
    · rename_i e hst
      split at hgo
      · cases hgo
      · rename_i hc
        exact turn_bind hg hp hs hst hc n2 k2 r2 fun σ2 H3 hh e3 => iteF ⟨zs, hgo, mk.on _ _ _ (mk.on _ _ _ p e2) e3⟩
      · rename_i hc
        split at hgo
        · cases hgo
        · rename_i ys hin
          obtain ⟨its1, hf1, hgo1⟩ := inn_is hin
          have hlen := lcGo2_len hgo
          refine turn_bind hg hp hs hst hc n2 k2 r2 fun σ2 H3 hh e3 => iteT ?_
          have k3 := k2.trans e3
          have p3 : P N1 zs H3 := mk.on _ _ _ (mk.on _ _ _ p e2) e3
          refine hi1 e its1 hf1 σ2 N2 hh H3 k3 _ fun J1 H4 N4 e4 n4 k4 g4 wk1 => ?_
          have hN4 : N4 D = none := by
            cases z : N4 D with
            | none => rfl
            | some o =>
              rcases g4 D (by rw [z]; intro w; cases w) with w | w
              · exact absurd hN2 w
              · exact absurd w (mk.at_ zs H3 p3)
          have g4' : Reg N H N4 := fun a ha => (g4 a ha).elim (gg a) fun z => .inr (ex_none ((hH'.trans e2).trans e3) z)
          have p4 : P N4 zs H4 := mm.up N1 N4 zs H4 (n2.trans n4) k4 hN4 g4' (mk.on _ _ _ p3 e4)
          exact loop_gen (mm.mks N4) wk1 hN4 g4' hg1 hp1 (mm.el N4) (hh.mono n4) hgo1 (Nat.le_trans hlen hz) p4 (fun zs H' c => e1.trans (mm.old _ _ _ c)) fun H5 p5 => ⟨ys, hgo, mm.dn N1 N4 ys H5 (n2.trans n4) p5⟩
  · have e : i = its.length := by omega
    subst e
    rw [List.drop_length] at hgo
    cases hgo
    exact .inl ⟨wk.stops H' kn, hd H' p⟩
theorem mk2_cq {N H H1 N1 : Hp} {D : Addr} (e1 : Ex H H1) (hD : H1 D = none) (h : FE te f) : Mk2 (fun N2 zs H' => Cq N H H1 N2 D zs H') N H H1 N1 D te f :=
  ⟨fun _ => mk_cq, fun _ => elt_cq e1 hD h, fun N2 N3 zs H' n k d g p => p.more k d g n, fun N2 N3 zs H' n p => p.less n, fun _ _ _ p => p.old⟩
theorem fe_lc2 (hi : FI ti fi) (hg : FT g b) (hp : FB tt fp) (hi1 : FI ti1 fi1) (hg1 : FT g1 b1) (hp1 : FB tt1 fp1) (h : FE te f) : FE (tLc2 ti g tt ti1 g1 tt1 te vs vs1) (eLc2 vs b fi fp vs1 b1 fi1 fp1 f) := fun ds z e => by
  obtain ⟨its, all, h1, h2, h3, rfl⟩ := eLc2_is e
  intro σ N hs H eN Q q
  refine hi ds its h1 σ N hs H eN _ fun J H1 N1 e1 n1 k1 g1 wk D hD => ?_
  exact lc2_gen (mk2_cq (N1 := N1) e1 hD h) e1 wk (ex_none k1 hD) g1 hi1 hg hp hg1 hp1 (hs.mono n1) h2 h3 (Cq.start e1 k1 g1 hD) fun H' c => c.fin e1 n1 hD q
/-- new: what is known beside it may grow -/
def Cm (H H1 : Hp) (D : Addr) (N2 : Hp) (zs : List PyData) (H' : Hp) : Prop := (∃ acc S, Ex H1 H' ∧ H' D = some (.lst acc) ∧ Ows nilH H' 3 acc zs S ∧ (D :: S).Nodup ∧ (∀ a ∈ S, H1 a = none)) ∧ Ex N2 H' ∧ N2 D = none
theorem mk2_cm {N H H1 N1 : Hp} {D : Addr} (hD : H1 D = none) (h : FN te f) : Mk2 (fun N2 zs H' => Cm H H1 D N2 zs H') N H H1 N1 D te f :=
  ⟨fun N2 => ⟨fun _ _ _ ⟨⟨acc, S, a, b, c, d, e⟩, k, w⟩ x => ⟨⟨acc, S, a.trans x, x _ _ b, c.mono x, d, e⟩, k.trans x, w⟩, fun _ _ p => p.2.1, fun _ _ ⟨⟨acc, S, a, b, c, d, e⟩, _⟩ => by rw [b]; intro z; cases z⟩,
   fun N2 e d hf zs σ2 N3 H3 hs n2 k2 hN2 g2 p hz R hR => by
    obtain ⟨⟨acc, S, c1, c2, c3, c4, c5⟩, kk, kw⟩ := p
    refine h e d hf σ2 N3 hs H3 k2 _ fun y H4 S' e4 r4 nd4 f4 => ?_
    have hDS : D ∉ S' := fun z => by
      have := f4 D z
      rw [c2] at this
      cases this
    refine ⟨acc, e4 _ _ c2, by rw [c3.length]; exact sz_lt hz, hR _ ⟨⟨acc ++ [y], S ++ S', Ex.mut (c1.trans e4) hD, upd_same, ?_, ?_, ?_⟩, Ex.mut (kk.trans e4) kw, kw⟩⟩
    · have q1 := (c3.mono e4).snoc r4
      refine q1.agree fun b hb => upd_ne fun z => ?_
      subst z
      rcases List.mem_append.mp hb with hb | hb
      · exact (List.nodup_cons.mp c4).1 hb
      · exact hDS hb
    · obtain ⟨p1, p2⟩ := List.nodup_cons.mp c4
      refine List.nodup_cons.mpr ⟨fun z => (List.mem_append.mp z).elim p1 hDS, List.nodup_append.mpr ⟨p2, nd4, fun a ha b hb z => ?_⟩⟩
      subst z
      exact c3.there a ha (f4 a hb)
    · exact fun b hb => (List.mem_append.mp hb).elim (c5 b) fun z => ex_none c1 (f4 b z),
   fun N2 N3 zs H' n k d g p => ⟨p.1, k, d⟩, fun N2 N3 zs H' n p => ⟨p.1, n.trans p.2.1, ex_none n p.2.2⟩, fun _ _ _ ⟨⟨acc, S, a, _⟩, _⟩ => a⟩
theorem fn_lc2 (hi : FI ti fi) (hg : FT g b) (hp : FB tt fp) (hi1 : FI ti1 fi1) (hg1 : FT g1 b1) (hp1 : FB tt1 fp1) (h : FN te f) : FN (tLc2 ti g tt ti1 g1 tt1 te vs vs1) (eLc2 vs b fi fp vs1 b1 fi1 fp1 f) := fun ds z e => by
  obtain ⟨its, all, h1, h2, h3, rfl⟩ := eLc2_is e
  intro σ N hs H eN Q q
  refine hi ds its h1 σ N hs H eN _ fun J H1 N1 e1 n1 k1 g1 wk D hD => ?_
  exact lc2_gen (mk2_cm (N := N) (H := H) (N1 := N1) hD h) e1 wk (ex_none k1 hD) g1 hi1 hg hp hg1 hp1 (hs.mono n1) h2 h3 ⟨⟨[], [], Ex.new hD, upd_same, .nil, by simp, fun _ z => (nomatch z)⟩, k1.trans (Ex.new hD), ex_none k1 hD⟩ fun H' ⟨⟨acc, S, c1, c2, c3, c4, c5⟩, _⟩ => q (.ref D) H' (D :: S) (e1.trans c1) (.lst c2 c3) c4 fun b hb => (List.mem_cons.mp hb).elim (fun z => by rw [z]; exact ex_none e1 hD) fun z => ex_none e1 (c5 b z)
end
end FX
set_option Elab.async false
set_option linter.all false
set_option maxRecDepth 100000
set_option maxHeartbeats 2000000
/-! Loops; several targets; what stands within an owned tree is changed. -/
namespace FX
open PySem PySem.Spec PyProof.Rows L2 Evl DL
set_option autoImplicit false
variable [Kn]

/-! ### slots of what is known -/
theorem Fp.put_nil {F : Fp} {i : Nat} (h : F i = []) : F.put i [] = F := by
  funext j
  by_cases z : j = i
  · subst z
    rw [Fp.put_same, h]
  · rw [Fp.put_ne z]
def zeros (os : List Nat) (l : Bd) : Bool := l.all fun x => os.getD x.1 0 == 0
section
variable {pv : Nat → Option V} {os : List Nat} {rc : Nat} {cm : String → Addr} {W : WX}
theorem Hg.put0 {N H : Hp} {σ : St} {ds : De} {F : Fp} {i : Nat} {v : V} {d : PyData} (g : Hg pv N H σ ds os F) (hp : os.getD i 0 = 0) (r : Rp N v d) : Hg pv N H (σ.set i (some v)) (ds.set i (some d)) os F := by
  have q := g.put (S := []) (i := i) (.leaf (by rw [hp]; rfl) r) (by rw [hp]; rfl) (fun _ => rfl) List.nodup_nil (fun _ _ _ _ z => (nomatch z)) fun _ z => (nomatch z)
  rwa [Fp.put_nil (g.fr i hp)] at q
theorem Hg.bind {N H : Hp} {F : Fp} : ∀ {l : Bd} {us : List V} {σ : St} {ds : De}, Hg pv N H σ ds os F → zeros os l = true → RpAll N us (l.map Prod.snd) → Hg pv N H (setV σ l us) (bindD ds l) os F
  | [], _, _, _, g, _, .nil => g
  | (i, d) :: l, _, _, _, g, hz, .cons r rr => by
    obtain ⟨h1, h2⟩ := (Bool.and_eq_true _ _).mp (show (os.getD i 0 == 0 && zeros os l) = true from hz)
    have q := Hg.bind (g.put0 (by simpa using h1) r) h2 rr
    exact q
variable {t : TS} {te : TE} {tt : TT} {ti : TI} {g : TG} {f body : De → Option GO} {fe : De → Option PyData} {fr : De → Option Ob} {fb : De → Option Bool} {fi : De → Option (List PyData)} {fa : De → Option (List PyData)} {ta : TA} {b : PyData → Option Bd}
/-! ### for -/
def forGo (os : List Nat) (b : PyData → Option Bd) (body : De → Option GO) : List PyData → De → Option GO
  | [], ds => some (.nx ds)
  | x :: xs, ds => match b x with
    | none => none
    | some l => if zeros os l = true then match body (bindD ds l) with
        | some (.nx d) => forGo os b body xs d
        | some (.ct d) => forGo os b body xs d
        | some (.bk d) => some (.nx d)
        | o => o
      else none
def sFor (os : List Nat) (b : PyData → Option Bd) (fi : De → Option (List PyData)) (body : De → Option GO) : De → Option GO := fun ds => match fi (hideD os ds) with
  | some its => forGo os b body its ds
  | none => none
theorem fs_for (hi : FI ti fi) (hg : FT g b) (hb : FS os rc cm W t body) : FS os rc cm W (tFor ti g t) (sFor os b fi body) := fun ds o e pv σ N H F gg eN D a => by
  unfold sFor at e
  cases q : fi (hideD os ds) with
  | none =>
    rw [q] at e
    cases e
  | some its =>
    rw [q] at e
    simp only at e
    refine hi _ its q σ N gg.hide H eN _ fun J H1 N1 e1 n1 k1 g1 wk => ?_
    obtain ⟨Y, wk, wy⟩ := wk
    have s0 : Stp N H F N1 H1 F := Stp.growN n1 k1 e1 g1
    have gg1 : Hg pv N1 H1 σ ds os F := (gg.mono e1).monoN n1 fun i x hx => by
      cases z : N1 x with
      | none => rfl
      | some o =>
        rcases g1 x (by rw [z]; intro w; cases w) with w | w
        · exact absurd (gg.ou i x hx) w
        · exact absurd w (gg.th i x hx)
    refine ⟨fun i m σ' H' => m = its.length - i ∧ i ≤ its.length ∧ ∃ N' F' ds', Stp N H F N' H' F' ∧ Hg pv N' H' σ' ds' os F' ∧ Ex N1 N' ∧ forGo os b body (its.drop i) ds' = some o, ⟨_, rfl, Nat.zero_le _, N1, F, ds, s0, gg1, Ex.refl _, e⟩, ?_⟩
    rintro i m σ' H' ⟨rfl, hi', N', F', ds', s, g', n', e⟩
    have kn : Ex N1 H' := n'.trans s.k
    by_cases hlt : i < its.length
    · have ex : its[i]? = some its[i] := List.getElem?_eq_getElem hlt
      rw [List.drop_eq_getElem_cons hlt] at e
      unfold forGo at e
      refine .inr ⟨wk.goes i H' hlt kn, fun σ'' H'' => ∃ N' F' ds', Stp N H F N' H'' F' ∧ Hg pv N' H'' σ'' ds' os F' ∧ Ex N1 N' ∧ forGo os b body (its.drop (i + 1)) ds' = some o, fun σ'' H'' q => ⟨its.length - (i + 1), by omega, rfl, hlt, q⟩, fun x H'' y => ?_⟩
      obtain ⟨N2, e2, n2, k2, g2, r2⟩ := wy i _ ex H' x H'' kn (wk.yields i H' x H'' hlt kn y)
      have k3 : Ex (HU N' N2) H'' := hu_in (s.k.trans e2) k2
      have gN : ∀ c, HU N' N2 c ≠ none → N' c ≠ none ∨ H' c = none := fun c hc => (hu_reg hc).elim .inl fun z => (g2 c z).elim (fun w => .inl (by
        cases u : N1 c with
        | none => exact absurd u w
        | some o => rw [n' c o u]; intro y; cases y)) .inr
      have s2 : Stp N' H' F' (HU N' N2) H'' F' := Stp.growN (hu_l _ _) k3 e2 gN
      have g3 : Hg pv (HU N' N2) H'' σ' ds' os F' := (g'.mono e2).monoN (hu_l _ _) fun j c hc => by
        cases z : HU N' N2 c with
        | none => rfl
        | some o =>
          rcases gN c (by rw [z]; intro w; cases w) with w | w
          · exact absurd (g'.ou j c hc) w
          · exact absurd w (g'.th j c hc)
      have s3 := s.trans s2
      split at e
      · cases e
      · rename_i l hl
        split at e
        · rename_i hz
          refine hg _ l hl _ x (r2.mono (hu_r (s.k.trans e2) k2)) σ' H'' k3 _ fun us ru => ?_
          have g4 := g3.bind hz ru
          cases hbd : body (bindD ds' l) with
          | none =>
            rw [hbd] at e
            cases e
          | some o1 =>
            rw [hbd] at e
            refine hb _ o1 hbd pv _ _ _ _ g4 k3 _ ?_
            cases o1 with
            | nx d1 => exact fun σ5 N5 H5 F5 s5 g5 => ⟨N5, F5, d1, s3.trans s5, g5, (n'.trans (hu_l _ _)).trans s5.n, e⟩
            | ct d1 => exact fun σ5 N5 H5 F5 s5 g5 => ⟨N5, F5, d1, s3.trans s5, g5, (n'.trans (hu_l _ _)).trans s5.n, e⟩
            | bk d1 =>
              cases e
              exact fun σ5 N5 H5 F5 s5 g5 => a σ5 N5 H5 F5 (s3.trans s5) g5
            | rt d1 d2 =>
              cases e
              exact a.on s3
            | er d1 d2 =>
              cases e
              exact a.on s3
        · cases e
    · have ei : i = its.length := by omega
      subst ei
      rw [List.drop_length] at e
      cases e
      exact .inl ⟨wk.stops H' kn, a σ' N' H' F' s g'⟩
/-! ### while -/
def whGo (c : De → Option Bool) (body : De → Option GO) : Nat → De → Option GO
  | 0, _ => none
  | n + 1, ds => match c ds with
    | some false => some (.nx ds)
    | some true => match body ds with
      | some (.nx d) => whGo c body n d
      | some (.ct d) => whGo c body n d
      | some (.bk d) => some (.nx d)
      | o => o
    | none => none
theorem whGo_up {c : De → Option Bool} {body : De → Option GO} : ∀ {n : Nat} {ds : De} {o : GO}, whGo c body n ds = some o → whGo c body (n + 1) ds = some o
  | 0, _, _, h => nomatch h
  | n + 1, ds, o, h => by
    unfold whGo at h ⊢
    split at h
    · exact h
    · split at h
      · exact whGo_up h
      · exact whGo_up h
      · exact h
      · exact h
    · cases h
theorem whGo_le {c : De → Option Bool} {body : De → Option GO} {n m : Nat} {ds : De} {o : GO} (h : whGo c body n ds = some o) (hm : n ≤ m) : whGo c body m ds = some o := by
  induction hm with
  | refl => exact h
  | step _ ih => exact whGo_up ih
open Classical in
noncomputable def sWhile (c : De → Option Bool) (body : De → Option GO) : De → Option GO := fun ds => if h : ∃ n o, whGo c body n ds = some o then whGo c body h.choose ds else none
theorem sWhile_of {c : De → Option Bool} {body : De → Option GO} {n : Nat} {ds : De} {o : GO} (h : whGo c body n ds = some o) : sWhile c body ds = some o := by
  unfold sWhile
  have hx : ∃ n o, whGo c body n ds = some o := ⟨n, o, h⟩
  rw [dif_pos hx]
  obtain ⟨o', ho⟩ := hx.choose_spec
  rw [ho]
  have h1 := whGo_le h (Nat.le_max_left n hx.choose)
  have h2 := whGo_le ho (Nat.le_max_right n hx.choose)
  rw [h1] at h2
  exact h2.symm
theorem of_sWhile {c : De → Option Bool} {body : De → Option GO} {ds : De} {o : GO} (h : sWhile c body ds = some o) : ∃ n, whGo c body n ds = some o := by
  unfold sWhile at h
  split at h
  · exact ⟨_, h⟩
  · cases h
theorem fs_while (hc : FB tt fb) (hb : FS os rc cm W t body) : FS os rc cm W (tWhile tt t) (sWhile fb body) := fun ds o e pv σ N H F gg eN D a => by
  obtain ⟨n, e⟩ := of_sWhile e
  refine ⟨fun m σ' H' => ∃ N' F' ds', Stp N H F N' H' F' ∧ Hg pv N' H' σ' ds' os F' ∧ whGo fb body m ds' = some o, ⟨n, N, F, ds, Stp.refl eN, gg, e⟩, ?_⟩
  rintro m σ' H' ⟨N', F', ds', s, g', e⟩
  cases m with
  | zero => cases e
  | succ m =>
    unfold whGo at e
    cases q : fb ds' with
    | none =>
      rw [q] at e
      cases e
    | some c =>
      rw [q] at e
      refine use_test g' s.k (hc ds' c q) fun H1 e1 => ?_
      have s1 := s.trans (Stp.grow (F := F') s.k e1)
      cases c with
      | false =>
        cases e
        exact iteF (a σ' N' H1 F' s1 (g'.mono e1))
      | true =>
        simp only at e
        refine iteT ⟨fun σ'' H'' => ∃ N' F' ds', Stp N H F N' H'' F' ∧ Hg pv N' H'' σ'' ds' os F' ∧ whGo fb body m ds' = some o, fun σ'' H'' q => ⟨m, Nat.lt_succ_self _, q⟩, ?_⟩
        cases hbd : body ds' with
        | none =>
          rw [hbd] at e
          cases e
        | some o1 =>
          rw [hbd] at e
          refine hb _ o1 hbd pv _ _ _ _ (g'.mono e1) s1.k _ ?_
          cases o1 with
          | nx d1 => exact fun σ5 N5 H5 F5 s5 g5 => ⟨N5, F5, d1, s1.trans s5, g5, e⟩
          | ct d1 => exact fun σ5 N5 H5 F5 s5 g5 => ⟨N5, F5, d1, s1.trans s5, g5, e⟩
          | bk d1 =>
            cases e
            exact fun σ5 N5 H5 F5 s5 g5 => a σ5 N5 H5 F5 (s1.trans s5) g5
          | rt d1 d2 =>
            cases e
            exact a.on s1
          | er d1 d2 =>
            cases e
            exact a.on s1
/-! ### several targets -/
def sAsgT (os : List Nat) (b : PyData → Option Bd) (fr : De → Option Ob) : De → Option GO := fun ds => match fr (hideD os ds) with
  | some (.ok d) => match b d with
    | some l => if zeros os l = true then some (.nx (bindD ds l)) else none
    | none => none
  | some (.error e) => some (.er e ds)
  | none => none
theorem fs_asgT (hg : FT g b) (h : FR cm W te fr) : FS os rc cm W (tAsg te g) (sAsgT os b fr) := fun ds o e pv σ N H F gg eN D a => by
  unfold sAsgT at e
  cases q : fr (hideD os ds) with
  | none =>
    rw [q] at e
    cases e
  | some r =>
    rw [q] at e
    cases r with
    | error x =>
      cases e
      exact er_hid gg eN ((h _ _ q).2 x rfl) a
    | ok d =>
      simp only at e
      split at e
      · rename_i l hl
        split at e
        · rename_i hz
          cases e
          exact use_hid gg eN ((h _ _ q).1 d rfl) fun v H' N' e1 s g' r => hg d l hl N' v r σ H' s.k _ fun us ru => a _ N' H' F s (g'.bind hz ru)
        · cases e
      · cases e
def sPar (os : List Nat) (i j : Nat) (fa : De → Option (List PyData)) : De → Option GO := fun ds => match fa (hideD os ds) with
  | some [x, y] => some (.nx ((ds.set i (some x)).set j (some y)))
  | _ => none
theorem fs_par {i j : Nat} (hi : os.getD i 0 = 0) (hj : os.getD j 0 = 0) (h : FA ta fa) : FS os rc cm W (tPar i j ta) (sPar os i j fa) := fun ds o e pv σ N H F gg eN D a => by
  unfold sPar at e
  split at e
  · rename_i x y q
    cases e
    refine h _ _ q σ N gg.hide H eN _ fun vs H' N' e1 n1 k1 g1 rv => ?_
    cases rv with
    | cons r rr =>
      cases rr with
      | cons r2 rr =>
        cases rr
        have g' : Hg pv N' H' σ ds os F := (gg.mono e1).monoN n1 fun i x hx => by
          cases z : N' x with
          | none => rfl
          | some o =>
            rcases g1 x (by rw [z]; intro w; cases w) with w | w
            · exact absurd (gg.ou i x hx) w
            · exact absurd w (gg.th i x hx)
        exact ⟨_, _, rfl, a _ N' H' F (Stp.growN n1 k1 e1 g1) ((g'.put0 hi r).put0 hj r2)⟩
  · cases e
/-- x op= e, ints -/
def sAug (i : Nat) (op : Int → Int → Int) (fe : De → Option PyData) : De → Option GO := fun ds => match eV i ds, fe ds with
  | some (.int x), some (.int y) => some (.nx (ds.set i (some (.int (op x y)))))
  | _, _ => none
theorem eV_is {i : Nat} {ds : De} {d : PyData} (h : eV i ds = some d) : ds[i]? = some (some d) := by
  unfold eV at h
  cases q : ds[i]? with
  | none =>
    rw [q] at h
    cases h
  | some o =>
    rw [q] at h
    cases o with
    | none => cases h
    | some d' =>
      cases h
      rfl
theorem fs_aug {i : Nat} {op : Int → Int → Int} (hp : pinned (os.getD i 0) = false) (h : FE te fe) : FS os rc cm W (tAug i te (ipI op)) (sAug i op fe) := fun ds o e pv σ N H F gg eN D a => by
  unfold sAug at e
  split at e
  · rename_i x y q1 q2
    cases e
    obtain ⟨v, e1, r⟩ := gg.at_ i _ (eV_is q1)
    have hv : v = .int x := by
      generalize F i = S at r
      cases r with
      | leaf _ r => cases r; rfl
    subst hv
    refine ⟨_, e1, use_any gg eN (h ds _ q2) fun w H' e2 rw_ => ?_⟩
    have rw2 := rw_ rfl
    cases rw2
    refine ⟨x, y, rfl, rfl, ?_⟩
    refine a _ N H' (F.put i []) ⟨Ex.refl _, eN.trans e2, (Stp.grow (F := F) eN e2).un, fun _ h => .inl h, fun j b hb => ?_⟩ ((gg.mono e2).put (Ow.flat (N := nilH) (.int _) rfl) hp (fun _ => rfl) List.nodup_nil (fun _ _ _ _ z => (nomatch z)) fun _ z => (nomatch z))
    by_cases z : j = i
    · subst z
      rw [Fp.put_same] at hb
      cases hb
    · rw [Fp.put_ne z] at hb
      exact .inr ⟨j, hb⟩
  · cases e
end
end FX
set_option Elab.async false
set_option linter.all false
set_option maxRecDepth 100000
set_option maxHeartbeats 2000000
/-! What stands within an owned tree is changed: x[..][k] = e, x[..].append(e); owned trees handed on; defs that change what they are handed. -/
namespace FX
open PySem PySem.Spec PyProof.Rows L2 Evl DL
set_option autoImplicit false
variable [Kn]

/-! ### ways into a tree -/
def getP (c : Nat) : List Int → PyData → Option PyData
  | [], d => if leafOk c d = true then none else some d
  | i :: p, d => if leafOk c d = true then none else match d with
    | .list ds => match atI ds i with
      | some x => getP c p x
      | none => none
    | .tuple ds => match atI ds i with
      | some x => getP c p x
      | none => none
    | _ => none
def putP (new : PyData) : List Int → PyData → Option PyData
  | [], _ => some new
  | i :: p, d => match d with
    | .list ds => match ixN ds.length i with
      | some j => match ds[j]? with
        | some x => match putP new p x with
          | some x' => some (.list (ds.set j x'))
          | none => none
        | none => none
      | none => none
    | .tuple ds => match ixN ds.length i with
      | some j => match ds[j]? with
        | some x => match putP new p x with
          | some x' => some (.tuple (ds.set j x'))
          | none => none
        | none => none
      | none => none
    | _ => none
def At (H : Hp) : List Int → V → V → Prop
  | [], v, w => v = w
  | i :: p, v, w => ∃ a xs u, v = .ref a ∧ (H a = some (.lst xs) ∨ H a = some (.tup xs)) ∧ atI xs i = some u ∧ At H p u w
theorem At.mono {H H' : Hp} (e : Ex H H') : ∀ {p : List Int} {v w : V}, At H p v w → At H' p v w
  | [], _, _, h => h
  | i :: p, _, _, ⟨a, xs, u, h1, h2, h3, h4⟩ => ⟨a, xs, u, h1, h2.imp (e _ _) (e _ _), h3, At.mono e h4⟩
theorem At.snoc {H : Hp} : ∀ {p : List Int} {k : Int} {v w : V}, At H (p ++ [k]) v w → ∃ a xs, At H p v (.ref a) ∧ (H a = some (.lst xs) ∨ H a = some (.tup xs)) ∧ atI xs k = some w
  | [], k, v, w, ⟨a, xs, u, h1, h2, h3, h4⟩ => ⟨a, xs, h1, h2, by rw [h3]; exact congrArg some h4⟩
  | i :: p, k, v, w, ⟨a, xs, u, h1, h2, h3, h4⟩ => by
    obtain ⟨b, ys, q1, q2, q3⟩ := At.snoc h4
    exact ⟨b, ys, ⟨a, xs, u, h1, h2, h3, q1⟩, q2, q3⟩
theorem Ows.split {N H : Hp} {c : Nat} : ∀ {vs : List V} {ds : List PyData} {S : List Addr} {j : Nat} {x : PyData}, Ows N H c vs ds S → ds[j]? = some x → ∃ u S1 Sj S2, vs[j]? = some u ∧ S = S1 ++ (Sj ++ S2) ∧ Ow N H c u x Sj ∧
    ∀ (H' : Hp) (x' : PyData) (u' : V) (Sj' : List Addr), (∀ b, (b ∈ S1 ∨ b ∈ S2) → H' b = H b) → Ow N H' c u' x' Sj' → Ows N H' c (vs.set j u') (ds.set j x') (S1 ++ (Sj' ++ S2))
  | _, _, _, _, _, .nil, h => by simp at h
  | _, _, _, 0, _, @Ows.cons _ _ _ _ v vs d ds S S' r rr, h => by
    cases h
    refine ⟨v, [], S, S', rfl, rfl, r, fun H' x' u' Sj' e o => ?_⟩
    have q := Ows.cons o (rr.agree (H' := H') fun a ha => e a (.inr ha))
    exact q
  | _, _, _, j + 1, _, @Ows.cons _ _ _ _ v vs d ds S S' r rr, h => by
    obtain ⟨u, S1, Sj, S2, q1, q2, q3, q4⟩ := Ows.split (j := j) rr h
    refine ⟨u, S ++ S1, Sj, S2, q1, by rw [q2, List.append_assoc], q3, fun H' x' u' Sj' e o => ?_⟩
    rw [List.append_assoc]
    exact .cons (r.agree fun a ha => e a (.inl (List.mem_append_left _ ha))) (q4 H' x' u' Sj' (fun b hb => e b (hb.imp (List.mem_append_right _) id)) o)
theorem at_ix {A : Type} {xs : List A} {i : Int} {x : A} (h : atI xs i = some x) : ∃ j, ixN xs.length i = some j ∧ xs[j]? = some x := by
  unfold atI at h
  cases e : ixN xs.length i with
  | none =>
    rw [e] at h
    cases h
  | some j =>
    rw [e] at h
    exact ⟨j, rfl, h⟩
theorem ix_at {A : Type} {xs : List A} {i : Int} {x : A} {j : Nat} (h1 : ixN xs.length i = some j) (h2 : xs[j]? = some x) : atI xs i = some x := by
  unfold atI
  rw [h1]
  exact h2
theorem set_same {A : Type} {xs : List A} {j : Nat} {x : A} (h : xs[j]? = some x) : xs.set j x = xs := by
  obtain ⟨h1, h2⟩ := List.getElem?_eq_some_iff.mp h
  subst h2
  exact List.set_getElem_self h1
/-- the list at the end of a way, and the tree with another list there -/
theorem ow_upd {N H : Hp} {c : Nat} : ∀ (p : List Int) {v : V} {d : PyData} {S : List Addr} {dsn : List PyData}, Ow N H c v d S → S.Nodup → getP c p d = some (.list dsn) →
    ∃ a xs Sn, At H p v (.ref a) ∧ a ∈ S ∧ a ∉ Sn ∧ H a = some (.lst xs) ∧ Ows N H c xs dsn Sn ∧ Sn.Nodup ∧ (∀ b ∈ Sn, b ∈ S) ∧
      ∀ (xs' : List V) (ds' : List PyData) (T : List Addr) (H' : Hp), H' a = some (.lst xs') → (∀ b, b ≠ a → b ∈ S → H' b = H b) → Ows N H' c xs' ds' T → T.Nodup → a ∉ T → (∀ b ∈ T, b ∈ Sn ∨ b ∉ S) →
        ∃ d' S', putP (.list ds') p d = some d' ∧ Ow N H' c v d' S' ∧ S'.Nodup ∧ ∀ b ∈ S', b ∈ S ∨ b ∈ T
  | [], v, d, S, dsn, o, nd, g => by
    unfold getP at g
    split at g
    · cases g
    · rename_i hl
      cases g
      cases o with
      | leaf h _ => exact absurd h hl
      | @lst a xs _ S0 h r =>
        obtain ⟨n1, n2⟩ := List.nodup_cons.mp nd
        exact ⟨a, xs, S0, rfl, List.mem_cons_self, n1, h, r, n2, fun b hb => List.mem_cons_of_mem _ hb, fun xs' ds' T H' e _ r' nd' ha hT => ⟨_, a :: T, rfl, .lst e r', List.nodup_cons.mpr ⟨ha, nd'⟩, fun b hb => (List.mem_cons.mp hb).elim (fun z => .inl (by rw [z]; exact List.mem_cons_self)) .inr⟩⟩
  | i :: p, v, d, S, dsn, o, nd, g => by
    unfold getP at g
    split at g
    · cases g
    · rename_i hl
      have main : ∀ (a0 : Addr) (xs0 : List V) (ds0 : List PyData) (S0 : List Addr) (x : PyData), (H a0 = some (.lst xs0) ∨ H a0 = some (.tup xs0)) → Ows N H c xs0 ds0 S0 → S = a0 :: S0 → v = .ref a0 → atI ds0 i = some x → getP c p x = some (.list dsn) →
          ∃ a xs Sn, At H (i :: p) v (.ref a) ∧ a ∈ S ∧ a ∉ Sn ∧ H a = some (.lst xs) ∧ Ows N H c xs dsn Sn ∧ Sn.Nodup ∧ (∀ b ∈ Sn, b ∈ S) ∧ a ≠ a0 ∧
            ∀ (xs' : List V) (ds' : List PyData) (T : List Addr) (H' : Hp), H' a = some (.lst xs') → (∀ b, b ≠ a → b ∈ S → H' b = H b) → Ows N H' c xs' ds' T → T.Nodup → a ∉ T → (∀ b ∈ T, b ∈ Sn ∨ b ∉ S) →
              ∃ (j : Nat) (x' : PyData) (S' : List Addr), ixN ds0.length i = some j ∧ ds0[j]? = some x ∧ putP (.list ds') p x = some x' ∧ Ows N H' c xs0 (ds0.set j x') S' ∧ (a0 :: S').Nodup ∧ (∀ b ∈ S', b ∈ S ∨ b ∈ T) := by
        intro a0 xs0 ds0 S0 x hh rr eS ev hx hg
        subst eS ev
        obtain ⟨j, j1, j2⟩ := at_ix hx
        obtain ⟨n1, n2⟩ := List.nodup_cons.mp nd
        obtain ⟨u, S1, Sj, S2, q1, q2, q3, q4⟩ := rr.split j2
        subst q2
        obtain ⟨m1, m2, m3⟩ := List.nodup_append.mp n2
        obtain ⟨m4, m5, m6⟩ := List.nodup_append.mp m2
        obtain ⟨a, xs, Sn, w1, w2, w3, w4, w5, w6, w7, w8⟩ := ow_upd p q3 m4 hg
        have aS0 : a ∈ S1 ++ (Sj ++ S2) := List.mem_append_right _ (List.mem_append_left _ w2)
        have na0 : a ≠ a0 := fun z => n1 (z ▸ aS0)
        refine ⟨a, xs, Sn, ⟨a0, xs0, u, rfl, hh, ix_at (by rw [rr.length]; exact j1) q1, w1⟩, List.mem_cons_of_mem _ aS0, w3, w4, w5, w6, fun b hb => List.mem_cons_of_mem _ (List.mem_append_right _ (List.mem_append_left _ (w7 b hb))), na0, fun xs' ds' T H' e1 e2 r' nd' ha hT => ?_⟩
        have inS : ∀ b, b ∈ Sj → b ∈ a0 :: (S1 ++ (Sj ++ S2)) := fun b hb => List.mem_cons_of_mem _ (List.mem_append_right _ (List.mem_append_left _ hb))
        obtain ⟨x', S', p1, p2, p3, p4⟩ := w8 xs' ds' T H' e1 (fun b hb hbs => e2 b hb (inS b hbs)) r' nd' ha fun b hb => (hT b hb).imp id fun z y => z (inS b y)
        have oth : ∀ b, (b ∈ S1 ∨ b ∈ S2) → b ∉ S' := fun b hb hs => by
          rcases p4 b hs with z | z
          · rcases hb with hb | hb
            · exact m3 b hb b (List.mem_append_left _ z) rfl
            · exact m6 b z b hb rfl
          · rcases hT b z with y | y
            · rcases hb with hb | hb
              · exact m3 b hb b (List.mem_append_left _ (w7 b y)) rfl
              · exact m6 b (w7 b y) b hb rfl
            · exact y (List.mem_cons_of_mem _ (hb.elim (List.mem_append_left _) fun h => List.mem_append_right _ (List.mem_append_right _ h)))
        refine ⟨j, x', S1 ++ (S' ++ S2), j1, j2, p1, ?_, ?_, ?_⟩
        · have r2 := q4 H' x' u S' (fun b hb => e2 b (fun z => by
            subst z
            rcases hb with hb | hb
            · exact m3 b hb b (List.mem_append_left _ w2) rfl
            · exact m6 b w2 b hb rfl) (List.mem_cons_of_mem _ (hb.elim (List.mem_append_left _) fun h => List.mem_append_right _ (List.mem_append_right _ h)))) p2
          rwa [set_same q1] at r2
        · refine List.nodup_cons.mpr ⟨fun z => ?_, List.nodup_append.mpr ⟨m1, List.nodup_append.mpr ⟨p3, m5, fun a ha b hb z => oth b (.inr hb) (z ▸ ha)⟩, fun a ha b hb z => ?_⟩⟩
          · rcases List.mem_append.mp z with z | z
            · exact n1 (List.mem_append_left _ z)
            · rcases List.mem_append.mp z with z | z
              · rcases p4 a0 z with y | y
                · exact n1 (List.mem_append_right _ (List.mem_append_left _ y))
                · rcases hT a0 y with w | w
                  · exact n1 (List.mem_append_right _ (List.mem_append_left _ (w7 _ w)))
                  · exact w List.mem_cons_self
              · exact n1 (List.mem_append_right _ (List.mem_append_right _ z))
          · subst z
            rcases List.mem_append.mp hb with hb | hb
            · exact oth a (.inl ha) hb
            · exact m3 a ha a (List.mem_append_right _ hb) rfl
        · intro b hb
          rcases List.mem_append.mp hb with hb | hb
          · exact .inl (List.mem_cons_of_mem _ (List.mem_append_left _ hb))
          · rcases List.mem_append.mp hb with hb | hb
            · exact (p4 b hb).imp (inS b) id
            · exact .inl (List.mem_cons_of_mem _ (List.mem_append_right _ (List.mem_append_right _ hb)))
      cases o with
      | leaf h _ => exact absurd h hl
      | @lst a0 xs0 ds0 S0 h r =>
        simp only at g
        cases hx : atI ds0 i with
        | none =>
          rw [hx] at g
          cases g
        | some x =>
          rw [hx] at g
          obtain ⟨a, xs, Sn, w1, w2, w3, w4, w5, w6, w7, w8, w9⟩ := main a0 xs0 ds0 S0 x (.inl h) r rfl rfl hx g
          refine ⟨a, xs, Sn, w1, w2, w3, w4, w5, w6, w7, fun xs' ds' T H' e1 e2 r' nd' ha hT => ?_⟩
          obtain ⟨j, x', S', t1, t2, t3, t4, t5, t6⟩ := w9 xs' ds' T H' e1 e2 r' nd' ha hT
          refine ⟨.list (ds0.set j x'), a0 :: S', ?_, .lst (by rw [e2 a0 (fun z => w8 z.symm) List.mem_cons_self]; exact h) t4, t5, fun b hb => (List.mem_cons.mp hb).elim (fun z => .inl (by rw [z]; exact List.mem_cons_self)) (t6 b)⟩
          simp only [putP, t1, t2, t3]
      | @tup a0 xs0 ds0 S0 h r =>
        simp only at g
        cases hx : atI ds0 i with
        | none =>
          rw [hx] at g
          cases g
        | some x =>
          rw [hx] at g
          obtain ⟨a, xs, Sn, w1, w2, w3, w4, w5, w6, w7, w8, w9⟩ := main a0 xs0 ds0 S0 x (.inr h) r rfl rfl hx g
          refine ⟨a, xs, Sn, w1, w2, w3, w4, w5, w6, w7, fun xs' ds' T H' e1 e2 r' nd' ha hT => ?_⟩
          obtain ⟨j, x', S', t1, t2, t3, t4, t5, t6⟩ := w9 xs' ds' T H' e1 e2 r' nd' ha hT
          refine ⟨.tuple (ds0.set j x'), a0 :: S', ?_, .tup (by rw [e2 a0 (fun z => w8 z.symm) List.mem_cons_self]; exact h) t4, t5, fun b hb => (List.mem_cons.mp hb).elim (fun z => .inl (by rw [z]; exact List.mem_cons_self)) (t6 b)⟩
          simp only [putP, t1, t2, t3]
      | dct _ _ => cases g

/-! ### the place that an expression names -/
section
variable {pv : Nat → Option V} {os : List Nat} {rc : Nat} {cm : String → Addr} {W : WX} {te tc tk : TE} {f : De → Option Ob} {fk fe : De → Option PyData} {fp : De → Option (List Int)} {i : Nat}
def FPth (i : Nat) (os : List Nat) (te : TE) (fp : De → Option (List Int)) : Prop := ∀ ds p, fp ds = some p → ∀ pv σ N H F, Hg pv N H σ ds os F → Ex N H → ∀ v0, σ[i]? = some (some v0) → ∀ w, At H p v0 w → ∀ Q : VK, (∀ H', Ex H H' → Q w H') → te σ H Q
def pN : De → Option (List Int) := fun _ => some []
def pS (fp : De → Option (List Int)) (fk : De → Option PyData) : De → Option (List Int) := fun ds => match fp ds, fk ds with
  | some p, some (.int k) => some (p ++ [k])
  | _, _ => none
theorem pth_var : FPth i os (tVar i) pN := fun ds p e pv σ N H F g eN v0 h0 w hw Q q => by
  cases e
  have hw' : v0 = w := hw
  subst hw'
  exact ⟨v0, h0, q H (Ex.refl H)⟩
theorem pth_ix (h : FPth i os tc fp) (hk : FE tk fk) : FPth i os (tOp (rOr (rIxL KK) (rIxT KK)) tc tk) (pS fp fk) := fun ds p e pv σ N H F g eN v0 h0 w hw Q q => by
  unfold pS at e
  split at e
  · rename_i p k q1 q2
    cases e
    obtain ⟨a, xs, w1, w2, w3⟩ := hw.snoc
    refine h ds p q1 pv σ N H F g eN v0 h0 _ w1 _ fun H1 e1 => use_any (g.mono e1) (eN.trans e1) (hk ds _ q2) fun y H2 e2 r => ?_
    have r' := r rfl
    cases r'
    rcases w2 with w2 | w2
    · exact .inl ⟨a, xs, k, w, rfl, rfl, sq_of (e2 _ _ (e1 _ _ w2)), w3, q H2 (e1.trans e2)⟩
    · exact .inr ⟨a, xs, k, w, rfl, rfl, .inl (.inl (e2 _ _ (e1 _ _ w2))), w3, q H2 (e1.trans e2)⟩
  · cases e
/-! ### what may be put there -/
def FK (os : List Nat) (c : Nat) (cm : String → Addr) (W : WX) (te : TE) (f : De → Option Ob) : Prop := ∀ ds r, f ds = some r → ∀ pv σ N H F, Hg pv N H σ ds os F → Ex N H → ∀ Q : VK,
  (∀ d, r = .ok d → ∀ v H' N' S, Ex H H' → Stp N H F N' H' F → Hg pv N' H' σ ds os F → Ow N' H' c v d S → S.Nodup → (∀ a ∈ S, H a = none ∧ N' a = none) → Q v H') →
  (∀ e, r = .error e → ∀ H' o S, Ex H H' → PayR H' o e.pl S → S.Nodup → (∀ a ∈ S, H a = none) → W (.ref (cm e.c)) o σ H') → te σ H Q
def fltR (f : De → Option Ob) : De → Option Ob := fun ds => match f ds with
  | some (.ok d) => if flatD d = true then some (.ok d) else none
  | o => o
def lefR (os : List Nat) (c : Nat) (f : De → Option Ob) : De → Option Ob := fun ds => match f (hideD os ds) with
  | some (.ok d) => if leafOk c d = true then some (.ok d) else none
  | o => o
theorem fk_flat {c : Nat} (h : FR cm W te f) : FK os c cm W te (fltR f) := fun ds r e pv σ N H F g eN Q q1 q2 => by
  unfold fltR at e
  split at e
  · rename_i d hd
    split at e
    · cases e
      exact use_any g eN ((h ds _ hd).1 d rfl) fun v H' e1 r => q1 d rfl v H' N [] e1 (Stp.grow eN e1) (g.mono e1) (Ow.flat (r ‹_›) ‹_›) List.nodup_nil fun _ z => nomatch z
    · cases e
  · cases r with
    | ok d => exact absurd e (by intro z; rename_i hn; exact hn d z)
    | error x => exact use_er g eN ((h ds _ e).2 x rfl) fun H' o S e1 p nd fr => q2 x rfl H' o S e1 p nd fr
theorem fk_hid {c : Nat} (h : FR cm W te f) : FK os c cm W te (lefR os c f) := fun ds r e pv σ N H F g eN Q q1 q2 => by
  unfold lefR at e
  split at e
  · rename_i d hd
    split at e
    · cases e
      exact use_hid g eN ((h _ _ hd).1 d rfl) fun v H' N' e1 s g' r => q1 d rfl v H' N' [] e1 s g' (.leaf ‹_› r) List.nodup_nil fun _ z => nomatch z
    · cases e
  · cases r with
    | ok d => exact absurd e (by intro z; rename_i hn; exact hn d z)
    | error x => exact (h _ _ e).2 x rfl σ N g.hide Q H eN fun H' o S e1 p nd fr => q2 x rfl H' o S e1 p nd fr
theorem fk_new {c : Nat} (h : FRN cm W te f) : FK os c cm W te f := fun ds r e pv σ N H F g eN Q q1 q2 => by
  cases r with
  | ok d => exact use_new g eN ((h ds _ e).1 d rfl) fun v H' S e1 r nd fr => q1 d rfl v H' N S e1 (Stp.grow eN e1) (g.mono e1) r.new nd fun a ha => ⟨fr a ha, ex_none eN (fr a ha)⟩
  | error x => exact use_er g eN ((h ds _ e).2 x rfl) fun H' o S e1 p nd fr => q2 x rfl H' o S e1 p nd fr
theorem At.uniq {H : Hp} : ∀ {p : List Int} {v w w' : V}, At H p v w → At H p v w' → w = w'
  | [], v, w, w', h, h' => (show v = w from h).symm.trans h'
  | k :: p, v, w, w', ⟨b, ys, u, q1, q2, q3, q4⟩, ⟨b', ys', u', q1', q2', q3', q4'⟩ => by
    rw [q1] at q1'
    cases q1'
    have : ys = ys' := by
      rcases q2 with q2 | q2 <;> rcases q2' with q2' | q2' <;> rw [q2] at q2' <;> cases q2' <;> rfl
    subst this
    rw [q3] at q3'
    cases q3'
    exact At.uniq q4 q4'
/-- the slot's tree with another list at the end of a way -/
theorem Hg.node {N H : Hp} {σ : St} {ds : De} {F : Fp} (g : Hg pv N H σ ds os F) {d0 : PyData} {p : List Int} {dsn : List PyData} (h0 : eV i ds = some d0) (hc : os.getD i 0 ≠ 0) (hp : getP (os.getD i 0) p d0 = some (.list dsn)) :
    ∃ v0 a xs Sn, σ[i]? = some (some v0) ∧ At H p v0 (.ref a) ∧ H a = some (.lst xs) ∧ Ows N H (os.getD i 0) xs dsn Sn ∧ Sn.Nodup ∧ a ∉ Sn ∧ (∀ b ∈ Sn, b ∈ F i) ∧ a ∈ F i ∧
      ∀ (H2 : Hp) (xs' : List V) (ds' : List PyData) (T : List Addr), Ex H H2 → Ows N H2 (os.getD i 0) xs' ds' T → T.Nodup → a ∉ T → (∀ b ∈ T, b ∈ Sn ∨ (N b = none ∧ ∀ j, b ∉ F j)) →
        ∃ d' F', putP (.list ds') p d0 = some d' ∧ Hg pv N (upd H2 a (.lst xs')) σ (ds.set i (some d')) os F' ∧ (∀ j, ∀ b ∈ F' j, b ∈ F j ∨ b ∈ T) := by
  obtain ⟨v0, e0, o⟩ := g.at_ i d0 (eV_is h0)
  obtain ⟨a, xs, Sn, w1, w2, w3, w4, w5, w6, w7, w8⟩ := ow_upd p o (g.nd i) hp
  refine ⟨v0, a, xs, Sn, e0, w1, w4, w5, w6, w3, w7, w2, fun H2 xs' ds' T e2 r' nd' ha hT => ?_⟩
  have keep : ∀ j, ∀ b ∈ F j, b ≠ a → upd H2 a (.lst xs') b = H b := fun j b hb hba => by
    rw [upd_ne hba]
    cases q : H b with
    | none => exact absurd q (g.th j b hb)
    | some o => exact e2 b o q
  obtain ⟨d', S', t1, t2, t3, t4⟩ := w8 xs' ds' T (upd H2 a (.lst xs')) upd_same (fun b hb hbs => keep i b hbs hb) (r'.agree fun b hb => upd_ne fun z => by subst z; exact ha hb) nd' ha fun b hb => (hT b hb).imp id fun z => z.2 i
  have fr : ∀ b ∈ S', b ∈ F i ∨ (N b = none ∧ ∀ j, b ∉ F j) := fun b hb => (t4 b hb).elim .inl fun z => (hT b z).imp (w7 b) id
  refine ⟨d', F.put i S', t1, ⟨by rw [List.length_set]; exact g.len, fun j d q => ?_, fun j hj => ?_, fun j => ?_, fun j k hjk b hb hb2 => ?_, fun j b hb => ?_, fun j b hb => ?_, g.pin, g.pno⟩, fun j b hb => ?_⟩
  · by_cases z : j = i
    · subst z
      obtain ⟨lt, _⟩ := List.getElem?_eq_some_iff.mp (eV_is h0)
      rw [List.getElem?_set_self lt] at q
      cases q
      exact ⟨v0, e0, by rw [Fp.put_same]; exact t2⟩
    · rw [List.getElem?_set_ne (fun y => z y.symm)] at q
      obtain ⟨u, q1, q2⟩ := g.at_ j d q
      refine ⟨u, q1, ?_⟩
      rw [Fp.put_ne z]
      exact q2.agree fun b hb => keep j b hb fun y => by subst y; exact g.dj j i z b hb w2
  · by_cases z : j = i
    · subst z
      exact absurd hj hc
    · rw [Fp.put_ne z]
      exact g.fr j hj
  · by_cases z : j = i
    · subst z
      rw [Fp.put_same]
      exact t3
    · rw [Fp.put_ne z]
      exact g.nd j
  · by_cases z : j = i
    · subst z
      rw [Fp.put_same] at hb
      rw [Fp.put_ne (fun y => hjk y.symm)] at hb2
      rcases fr b hb with y | y
      · exact g.dj j k hjk b y hb2
      · exact y.2 k hb2
    · rw [Fp.put_ne z] at hb
      by_cases w : k = i
      · subst w
        rw [Fp.put_same] at hb2
        rcases fr b hb2 with y | y
        · exact g.dj j k hjk b hb y
        · exact y.2 j hb
      · rw [Fp.put_ne w] at hb2
        exact g.dj j k hjk b hb hb2
  · by_cases z : j = i
    · subst z
      rw [Fp.put_same] at hb
      rcases fr b hb with y | y
      · exact g.ou j b y
      · exact y.1
    · rw [Fp.put_ne z] at hb
      exact g.ou j b hb
  · by_cases z : j = i
    · subst z
      rw [Fp.put_same] at hb
      exact t2.there b hb
    · rw [Fp.put_ne z] at hb
      rw [keep j b hb fun y => by subst y; exact g.dj j i z b hb w2]
      exact g.th j b hb
  · by_cases z : j = i
    · subst z
      rw [Fp.put_same] at hb
      exact t4 b hb
    · rw [Fp.put_ne z] at hb
      exact .inl hb
/-- the step that such a change is -/
theorem Stp.put {N H N1 H1 H2 : Hp} {F F' : Fp} {a : Addr} {o : HO} {T : List Addr} (s : Stp N H F N1 H1 F) (e : Ex H1 H2) (ha : a ∈ F i) (hN : N1 a = none) (hT : ∀ b ∈ T, H b = none) (hF : ∀ j, ∀ b ∈ F' j, (∃ k, b ∈ F k) ∨ b ∈ T) : Stp N H F N1 (upd H2 a o) F' :=
  ⟨s.n, fun b u q => by
    by_cases z : b = a
    · subst z
      rw [hN] at q
      cases q
    · rw [upd_ne z]
      exact e _ _ (s.k b u q), fun b hb => by
    by_cases z : b = a
    · subst z
      exact absurd (.inr ⟨i, ha⟩) hb
    · rw [upd_ne z]
      cases q : H1 b with
      | none =>
        have := s.un b hb
        rw [q] at this
        exact absurd (.inl this.symm) hb
      | some u => rw [e b u q, ← s.un b hb, q], s.ng, fun j b hb => (hF j b hb).elim .inr fun z => .inl (hT b z)⟩
/-- x[..][k] = e -/
def sSetP (c : Nat) (i : Nat) (fp : De → Option (List Int)) (fk : De → Option PyData) (f : De → Option Ob) : De → Option GO := fun ds => match f ds with
  | some (.error e) => some (.er e ds)
  | none => none
  | some (.ok d) => match eV i ds, fp ds, fk ds with
    | some d0, some p, some (.int k) => match getP c p d0 with
      | some (.list dsn) => match ixN dsn.length k with
        | some j => match putP (.list (dsn.set j d)) p d0 with
          | some d' => if j < dsn.length then some (.nx (ds.set i (some d'))) else none
          | none => none
        | none => none
      | _ => none
    | _, _, _ => none
theorem fs_setP {c : Nat} (hc : os.getD i 0 = c) (h0 : c ≠ 0) (hp : FPth i os tc fp) (hk : FE tk fk) (h : FK os c cm W te f) : FS os rc cm W (tAsg te (gSub tc tk rSetL)) (sSetP c i fp fk f) := fun ds o e pv σ N H F g eN D a => by
  subst hc
  unfold sSetP at e
  split at e
  · rename_i x hx
    cases e
    exact h ds _ hx pv σ N H F g eN _ (fun d z => nomatch z) fun y z H' o S e1 p nd fr => by
      cases z
      exact a σ N H' F o S (Stp.grow eN e1) (g.mono e1) p (apt_new g eN nd fr)
  · cases e
  · rename_i d hd
    split at e
    · rename_i d0 p k h1 h2 h3
      split at e
      · rename_i dsn hg
        split at e
        · rename_i j hj
          split at e
          · rename_i d' hd'
            split at e
            · rename_i lt
              cases e
              refine h ds _ hd pv σ N H F g eN _ (fun d1 z v H1 N1 S e1 s1 g1 r nd fr => ?_) fun y z => nomatch z
              cases z
              obtain ⟨v0, ad, xs, Sn, n1, n2, n3, n4, n5, n6, n7, n8, n9⟩ := g1.node h1 h0 hg
              refine hp ds p h2 pv σ N1 H1 F g1 s1.k v0 n1 _ n2 _ fun H2 e2 => use_any (g1.mono e2) (s1.k.trans e2) (hk ds _ h3) fun y H3 e3 ry => ?_
              have ry' := ry rfl
              cases ry'
              refine ⟨ad, xs, k, j, rfl, rfl, e3 _ _ (e2 _ _ n3), by rw [n4.length]; exact hj, ?_⟩
              obtain ⟨u, S1, Sj, S2, q1, q2, q3, q4⟩ := n4.split (List.getElem?_eq_getElem lt)
              subst q2
              have e23 := e2.trans e3
              have sub : ∀ b, (b ∈ S1 ∨ b ∈ S2) → b ∈ S1 ++ (Sj ++ S2) := fun b hb => hb.elim (List.mem_append_left _) fun z => List.mem_append_right _ (List.mem_append_right _ z)
              have off : ∀ b ∈ S, ∀ j, b ∉ F j := fun b hb j hf => g.th j b hf (fr b hb).1
              have r' := q4 H3 d v S (fun b hb => by
                cases q : H1 b with
                | none => exact absurd q (n4.there b (sub b hb))
                | some o => exact e23 b o q) (r.mono e23)
              have hin : ∀ b ∈ S1 ++ (S ++ S2), b ∈ S1 ++ (Sj ++ S2) ∨ b ∈ S := fun b hb => by
                rcases List.mem_append.mp hb with z | z
                · exact .inl (List.mem_append_left _ z)
                · rcases List.mem_append.mp z with z | z
                  · exact .inr z
                  · exact .inl (List.mem_append_right _ (List.mem_append_right _ z))
              obtain ⟨m1, m2, m3⟩ := List.nodup_append.mp n5
              obtain ⟨m4, m5, m6⟩ := List.nodup_append.mp m2
              have ndT : (S1 ++ (S ++ S2)).Nodup := List.nodup_append.mpr ⟨m1, List.nodup_append.mpr ⟨nd, m5, fun x hx y hy z => by
                subst z
                exact off x hx i (n7 x (sub x (.inr hy)))⟩, fun x hx y hy z => by
                subst z
                rcases List.mem_append.mp hy with w | w
                · exact off x w i (n7 x (sub x (.inl hx)))
                · exact m3 x hx x (List.mem_append_right _ w) rfl⟩
              obtain ⟨d2, F', t1, t2, t3⟩ := n9 H3 _ _ (S1 ++ (S ++ S2)) e23 r' ndT (fun z => (hin ad z).elim n6 fun w => off ad w i n8) fun b hb => (hin b hb).imp id fun w => ⟨(fr b w).2, off b w⟩
              rw [hd'] at t1
              cases t1
              refine a σ N1 _ F' (Stp.put (i := i) (T := S) s1 e23 n8 (g1.ou i ad n8) (fun b hb => (fr b hb).1) fun j b hb => ?_) t2
              rcases t3 j b hb with z | z
              · exact .inl ⟨j, z⟩
              · exact (hin b z).imp (fun w => ⟨i, n7 b w⟩) id
            · cases e
          · cases e
        · cases e
      · cases e
    · cases e
/-- x[..].append(e) -/
def sApp (c : Nat) (i : Nat) (fp : De → Option (List Int)) (f : De → Option Ob) : De → Option GO := fun ds => match f ds with
  | some (.error e) => some (.er e ds)
  | none => none
  | some (.ok d) => match eV i ds, fp ds with
    | some d0, some p => match getP c p d0 with
      | some (.list dsn) => if dsn.length < 100000 then match putP (.list (dsn ++ [d])) p d0 with
          | some d' => some (.nx (ds.set i (some d')))
          | none => none
        else none
      | _ => none
    | _, _ => none
theorem fs_app {c : Nat} (hc : os.getD i 0 = c) (h0 : c ≠ 0) (hp : FPth i os tc fp) (hok : ∀ ds e, f ds ≠ some (.error e)) (h : FK os c cm W te f) : FS os rc cm W (tDrop (tBM KK "list" rAppend tc (tCons te tNil))) (sApp c i fp f) := fun ds o e pv σ N H F g eN D a => by
  subst hc
  unfold sApp at e
  split at e
  · rename_i x hx
    exact absurd hx (hok ds x)
  · cases e
  · rename_i d hd
    split at e
    · rename_i d0 p h1 h2
      split at e
      · rename_i dsn hg
        split at e
        · rename_i lt
          split at e
          · rename_i d' hd'
            cases e
            obtain ⟨w0, aw, xsw, Snw, o1, o2, o3, o4, o5, o6, o7, o8, _⟩ := g.node h1 h0 hg
            refine hp ds p h2 pv σ N H F g eN w0 o1 _ o2 _ fun H1 e1 => ?_
            refine ⟨.inl ⟨rfl, xsw, sq_of (e1 _ _ o3)⟩, ?_⟩
            have g1 := g.mono e1
            have s0 : Stp N H F N H1 F := Stp.grow eN e1
            refine h ds _ hd pv σ N H1 F g1 s0.k _ (fun d1 z v H2 N2 S e2 s2 g2 r nd fr => ?_) fun y z => nomatch z
            cases z
            obtain ⟨v0, ad, xs, Sn, n1, n2, n3, n4, n5, n6, n7, n8, n9⟩ := g2.node h1 h0 hg
            have ev : w0 = v0 := by
              rw [o1] at n1
              exact Option.some.inj (Option.some.inj n1)
            subst ev
            have ea := (o2.mono (e1.trans e2)).uniq n2
            cases ea
            refine ⟨aw, xs, v, rfl, rfl, n3, by rw [n4.length]; exact sz_lt lt, ?_⟩
            have off : ∀ b ∈ S, ∀ j, b ∉ F j := fun b hb j hf => g1.th j b hf (fr b hb).1
            obtain ⟨d2, F', t1, t2, t3⟩ := n9 H2 _ _ (Sn ++ S) (Ex.refl _) (n4.snoc r) (List.nodup_append.mpr ⟨n5, nd, fun x hx y hy z => by
              subst z
              exact off x hy i (n7 x hx)⟩) (fun z => (List.mem_append.mp z).elim n6 fun w => off aw w i n8) fun b hb => (List.mem_append.mp hb).imp id fun w => ⟨(fr b w).2, off b w⟩
            rw [hd'] at t1
            cases t1
            refine a σ N2 _ F' (Stp.put (i := i) (T := S) (s0.trans s2) (Ex.refl _) n8 (g2.ou i aw n8) (fun b hb => ex_none e1 (fr b hb).1) fun j b hb => ?_) t2
            rcases t3 j b hb with z | z
            · exact .inl ⟨j, z⟩
            · exact (List.mem_append.mp z).imp (fun w => ⟨i, n7 b w⟩) id
          · cases e
        · cases e
      · cases e
    · cases e
/-! ### owned trees handed on -/
def FM (os : List Nat) (c : Nat) (te : TE) (f : De → Option (PyData × De)) : Prop := ∀ ds d ds', f ds = some (d, ds') → ∀ pv σ N H F, Hg pv N H σ ds os F → Ex N H → ∀ Q : VK, (∀ v N' H' F' S, Stp N H F N' H' F' → Hg pv N' H' σ ds' os F' → Ow N' H' c v d S → Apt N H F N' F' S → Q v H') → te σ H Q
def mVar (i : Nat) : De → Option (PyData × De) := fun ds => match eV i ds with
  | some d => some (d, ds.set i none)
  | none => none
theorem Hg.drop {N H : Hp} {σ : St} {ds : De} {F : Fp} (g : Hg pv N H σ ds os F) : Hg pv N H σ (ds.set i none) os (F.put i []) := ⟨by rw [List.length_set]; exact g.len, fun j d q => by
  by_cases z : j = i
  · subst z
    by_cases hj : j < ds.length
    · rw [List.getElem?_set_self hj] at q
      cases q
    · rw [List.getElem?_eq_none (by rw [List.length_set]; omega)] at q
      cases q
  · rw [List.getElem?_set_ne (fun y => z y.symm)] at q
    rw [Fp.put_ne z]
    exact g.at_ j d q, fun j hj => by
  by_cases z : j = i
  · subst z
    exact Fp.put_same
  · rw [Fp.put_ne z]
    exact g.fr j hj, fun j => by
  by_cases z : j = i
  · subst z
    rw [Fp.put_same]
    exact List.nodup_nil
  · rw [Fp.put_ne z]
    exact g.nd j, fun j k hjk b hb hb2 => by
  by_cases z : j = i
  · subst z
    rw [Fp.put_same] at hb
    cases hb
  · rw [Fp.put_ne z] at hb
    by_cases w : k = i
    · subst w
      rw [Fp.put_same] at hb2
      cases hb2
    · rw [Fp.put_ne w] at hb2
      exact g.dj j k hjk b hb hb2, fun j b hb => by
  by_cases z : j = i
  · subst z
    rw [Fp.put_same] at hb
    cases hb
  · rw [Fp.put_ne z] at hb
    exact g.ou j b hb, fun j b hb => by
  by_cases z : j = i
  · subst z
    rw [Fp.put_same] at hb
    cases hb
  · rw [Fp.put_ne z] at hb
    exact g.th j b hb, g.pin, g.pno⟩
theorem fm_var {c : Nat} (hc : os.getD i 0 = c ∨ os.getD i 0 = 3) : FM os c (tVar i) (mVar i) := fun ds d ds' e pv σ N H F g eN Q q => by
  unfold mVar at e
  split at e
  · rename_i d0 h0
    cases e
    obtain ⟨v, e1, r⟩ := g.at_ i _ (eV_is h0)
    refine ⟨v, e1, q v N H (F.put i []) (F i) ⟨Ex.refl _, eN, fun _ _ => rfl, fun _ h => .inl h, fun j b hb => ?_⟩ g.drop ?_ ⟨g.nd i, g.ou i, fun b hb => .inr ⟨i, hb⟩, fun j b hb hb2 => ?_⟩⟩
    · by_cases z : j = i
      · subst z
        rw [Fp.put_same] at hb
        cases hb
      · rw [Fp.put_ne z] at hb
        exact .inr ⟨j, hb⟩
    · rcases hc with hc | hc
      · rw [← hc]
        exact r
      · rw [hc] at r
        exact r.new
    · by_cases z : j = i
      · subst z
        rw [Fp.put_same] at hb
        cases hb
      · rw [Fp.put_ne z] at hb
        exact g.dj j i z b hb hb2
  · cases e
def keepM (f : De → Option Ob) : De → Option (PyData × De) := fun ds => match f ds with
  | some (.ok d) => some (d, ds)
  | _ => none
theorem fm_k {c : Nat} (h : FK os c cm W te f) : FM os c te (keepM f) := fun ds d ds' e pv σ N H F g eN Q q => by
  unfold keepM at e
  split at e
  · rename_i d0 h0
    cases e
    exact h ds _ h0 pv σ N H F g eN Q (fun d1 z v H' N' S e1 s g' r nd fr => by
      cases z
      exact q v N' H' F S s g' r ⟨nd, fun a ha => (fr a ha).2, fun a ha => .inl (fr a ha).1, fun j a ha hb => g.th j a ha (fr a hb).1⟩) fun y z => nomatch z
  · cases e
def FMs (os : List Nat) (c : Nat) (ta : TA) (f : De → Option (List PyData × De)) : Prop := ∀ ds es ds', f ds = some (es, ds') → ∀ pv σ N H F, Hg pv N H σ ds os F → Ex N H → ∀ Q : List V → Hp → Prop, (∀ vs N' H' F' S, Stp N H F N' H' F' → Hg pv N' H' σ ds' os F' → Ows N' H' c vs es S → Apt N H F N' F' S → Q vs H') → ta σ H Q
def mNil : De → Option (List PyData × De) := fun ds => some ([], ds)
def mCons (f : De → Option (PyData × De)) (g : De → Option (List PyData × De)) : De → Option (List PyData × De) := fun ds => match f ds with
  | some (d, ds1) => match g ds1 with
    | some (es, ds2) => some (d :: es, ds2)
    | none => none
  | none => none
theorem fms_nil {c : Nat} : FMs os c tNil mNil := fun ds es ds' e pv σ N H F g eN Q q => by
  cases e
  exact q [] N H F [] (Stp.refl eN) g .nil Apt.nil
/-- a tree apart stays as it is while other things are done -/
theorem apt_keep {N H N1 H1 N2 H2 : Hp} {F F1 F2 : Fp} {S : List Addr} {c : Nat} {v : V} {d : PyData} (p : Apt N H F N1 F1 S) (r : Ow N1 H1 c v d S) (s : Stp N1 H1 F1 N2 H2 F2) : Ow N2 H2 c v d S ∧ Apt N H F N2 F2 S := by
  have nw : ∀ a ∈ S, ¬ Wr H1 F1 a := fun a ha w => w.elim (r.there a ha) fun ⟨i, h⟩ => p.dj i a h ha
  exact ⟨(r.agree fun a ha => s.un a (nw a ha)).monoN s.n, p.nd, fun a ha => by
    cases z : N2 a with
    | none => rfl
    | some o =>
      rcases s.ng a (by rw [z]; intro y; cases y) with y | y
      · exact absurd (p.ou a ha) y
      · exact absurd y (nw a ha), p.wr, fun i a ha hb => nw a hb (s.fg i a ha)⟩
theorem fms_cons {c : Nat} {tr : TA} {m : De → Option (PyData × De)} {ms : De → Option (List PyData × De)} (h : FM os c te m) (h' : FMs os c tr ms) : FMs os c (tCons te tr) (mCons m ms) := fun ds es ds' e pv σ N H F g eN Q q => by
  unfold mCons at e
  split at e
  · rename_i d ds1 e1
    split at e
    · rename_i es' ds2 e2
      cases e
      refine h ds d ds1 e1 pv σ N H F g eN _ fun v N1 H1 F1 S1 s1 g1 r1 p1 => h' ds1 es' _ e2 pv σ N1 H1 F1 g1 s1.k _ fun vs N2 H2 F2 S2 s2 g2 r2 p2 => ?_
      obtain ⟨r1', p1'⟩ := apt_keep p1 r1 s2
      have p2' := p2.on s1
      refine q (v :: vs) N2 H2 F2 (S1 ++ S2) (s1.trans s2) g2 (.cons r1' r2) ⟨List.nodup_append.mpr ⟨p1'.nd, p2.nd, fun a ha b hb z => ?_⟩, fun a ha => (List.mem_append.mp ha).elim (p1'.ou a) (p2.ou a), fun a ha => (List.mem_append.mp ha).elim (p1'.wr a) (p2'.wr a), fun i a ha hb => (List.mem_append.mp hb).elim (p1'.dj i a ha) (p2.dj i a ha)⟩
      subst z
      exact (p2.wr a hb).elim (r1.there a ha) fun ⟨i, y⟩ => p1.dj i a y ha
    · cases e
  · cases e
def mTup (m : De → Option (List PyData × De)) : De → Option (PyData × De) := fun ds => match m ds with
  | some (es, ds') => if es.length ≤ 100000 then some (.tuple es, ds') else none
  | none => none
def mLst (m : De → Option (List PyData × De)) : De → Option (PyData × De) := fun ds => match m ds with
  | some (es, ds') => if es.length ≤ 100000 then some (.list es, ds') else none
  | none => none
theorem apt_new2 {N H N1 H1 : Hp} {F F1 : Fp} {S : List Addr} {ad : Addr} {o : HO} {σ : St} {ds : De} {c : Nat} {vs : List V} {es : List PyData} (s : Stp N H F N1 H1 F1) (g : Hg pv N1 H1 σ ds os F1) (p : Apt N H F N1 F1 S) (r : Ows N1 H1 c vs es S) (ha : H1 ad = none) :
    Stp N H F N1 (upd H1 ad o) F1 ∧ Hg pv N1 (upd H1 ad o) σ ds os F1 ∧ Ows N1 (upd H1 ad o) c vs es S ∧ Apt N H F N1 F1 (ad :: S) :=
  ⟨s.trans (Stp.grow s.k (Ex.new ha)), g.mono (Ex.new ha), r.mono (Ex.new ha), List.nodup_cons.mpr ⟨fun z => r.there ad z ha, p.nd⟩, fun a hb => (List.mem_cons.mp hb).elim (fun z => by rw [z]; exact ex_none s.k ha) (p.ou a), fun a hb => (List.mem_cons.mp hb).elim (fun z => by rw [z]; exact s.wr (.inl ha)) (p.wr a), fun i a hb hc => (List.mem_cons.mp hc).elim (fun z => by subst z; exact g.th i a hb ha) (p.dj i a hb)⟩
theorem fm_tup {c : Nat} {ta : TA} {m : De → Option (List PyData × De)} (h : FMs os c ta m) : FM os c (tTup ta) (mTup m) := fun ds d ds' e pv σ N H F g eN Q q => by
  unfold mTup at e
  split at e
  · rename_i es ds1 e1
    split at e
    · rename_i hl
      cases e
      refine h ds es _ e1 pv σ N H F g eN _ fun vs N1 H1 F1 S s1 g1 r1 p1 => ⟨sz_100 (by rw [r1.length]; exact hl), fun ad had => ?_⟩
      obtain ⟨a1, a2, a3, a4⟩ := apt_new2 (o := .tup vs) s1 g1 p1 r1 had
      exact q _ _ _ _ (ad :: S) a1 a2 (.tup upd_same a3) a4
    · cases e
  · cases e
theorem fm_lst {c : Nat} {ta : TA} {m : De → Option (List PyData × De)} (h : FMs os c ta m) : FM os c (tLst ta) (mLst m) := fun ds d ds' e pv σ N H F g eN Q q => by
  unfold mLst at e
  split at e
  · rename_i es ds1 e1
    split at e
    · rename_i hl
      cases e
      refine h ds es _ e1 pv σ N H F g eN _ fun vs N1 H1 F1 S s1 g1 r1 p1 => ⟨sz_100 (by rw [r1.length]; exact hl), fun ad had => ?_⟩
      obtain ⟨a1, a2, a3, a4⟩ := apt_new2 (o := .lst vs) s1 g1 p1 r1 had
      exact q _ _ _ _ (ad :: S) a1 a2 (.lst upd_same a3) a4
    · cases e
  · cases e
def sRetM (m : De → Option (PyData × De)) : De → Option GO := fun ds => match m ds with
  | some (d, ds') => some (.rt d ds')
  | none => none
theorem fs_retM {m : De → Option (PyData × De)} (h : FM os rc te m) : FS os rc cm W (tRet te) (sRetM m) := fun ds o e pv σ N H F g eN D a => by
  unfold sRetM at e
  split at e
  · rename_i d ds1 e1
    cases e
    exact h ds d ds1 e1 pv σ N H F g eN _ fun v N1 H1 F1 S s1 g1 r1 p1 => a v σ N1 H1 F1 S s1 g1 r1 p1
  · cases e
end
end FX
set_option Elab.async false
set_option linter.all false
set_option maxRecDepth 100000
set_option maxHeartbeats 2000000
/-! Defs that change one thing that they are handed; raise, try. -/
namespace FX
open PySem PySem.Spec PyProof.Rows L2 Evl DL
set_option autoImplicit false
variable [Kn]
def ownF (m : Nat) (S : List Addr) : Fp := Fp.put (fun _ => []) m S
theorem ownF_same {m : Nat} {S : List Addr} : ownF m S m = S := Fp.put_same
theorem ownF_ne {m j : Nat} {S : List Addr} (h : j ≠ m) : ownF m S j = [] := Fp.put_ne h
theorem wr_own {H : Hp} {m : Nat} {S : List Addr} {a : Addr} (w : Wr H (ownF m S) a) : H a = none ∨ a ∈ S := w.imp id fun ⟨i, h⟩ => by
  by_cases z : i = m
  · subst z
    rwa [ownF_same] at h
  · rw [ownF_ne z] at h
    cases h
theorem own_wr {H : Hp} {m : Nat} {S : List Addr} {a : Addr} (w : H a = none ∨ a ∈ S) : Wr H (ownF m S) a := w.imp id fun h => ⟨m, by rw [ownF_same]; exact h⟩
/-- the things handed in: the one at k as it is, the others known -/
inductive AR (N : Hp) (v0 : V) (d0 : PyData) : Option Nat → List V → List PyData → Prop
  | nil : AR N v0 d0 none [] []
  | own {vs : List V} {ds : List PyData} : AR N v0 d0 none vs ds → AR N v0 d0 (some 0) (v0 :: vs) (d0 :: ds)
  | nxt {v : V} {d : PyData} {vs : List V} {ds : List PyData} : Rp N v d → AR N v0 d0 none vs ds → AR N v0 d0 none (v :: vs) (d :: ds)
  | bef {k : Nat} {v : V} {d : PyData} {vs : List V} {ds : List PyData} : Rp N v d → AR N v0 d0 (some k) vs ds → AR N v0 d0 (some (k + 1)) (v :: vs) (d :: ds)
theorem AR.length {N : Hp} {v0 : V} {d0 : PyData} : ∀ {k : Option Nat} {vs : List V} {ds : List PyData}, AR N v0 d0 k vs ds → vs.length = ds.length
  | _, _, _, .nil => rfl
  | _, _, _, .own r => by simp [r.length]
  | _, _, _, .nxt _ r => by simp [r.length]
  | _, _, _, .bef _ r => by simp [r.length]
theorem AR.mono {N N' : Hp} {v0 : V} {d0 : PyData} (e : Ex N N') : ∀ {k : Option Nat} {vs : List V} {ds : List PyData}, AR N v0 d0 k vs ds → AR N' v0 d0 k vs ds
  | _, _, _, .nil => .nil
  | _, _, _, .own r => .own (r.mono e)
  | _, _, _, .nxt h r => .nxt (h.mono e) (r.mono e)
  | _, _, _, .bef h r => .bef (h.mono e) (r.mono e)
theorem AR.at_ {N : Hp} {v0 : V} {d0 : PyData} : ∀ {k : Option Nat} {vs : List V} {ds : List PyData}, AR N v0 d0 k vs ds → ∀ (i : Nat) (d : PyData), ds[i]? = some d → ∃ v, vs[i]? = some v ∧ ((k = some i ∧ v = v0 ∧ d = d0) ∨ (k ≠ some i ∧ Rp N v d))
  | _, _, _, .nil, i, d, h => by simp at h
  | _, _, _, .own r, 0, d, h => by
    cases h
    exact ⟨v0, rfl, .inl ⟨rfl, rfl, rfl⟩⟩
  | _, _, _, .own r, i + 1, d, h => by
    obtain ⟨v, h1, h2⟩ := r.at_ i d h
    exact ⟨v, h1, .inr ⟨by simp, h2.elim (fun z => nomatch z.1) fun z => z.2⟩⟩
  | _, _, _, .nxt q r, 0, d, h => by
    cases h
    exact ⟨_, rfl, .inr ⟨by simp, q⟩⟩
  | _, _, _, .nxt q r, i + 1, d, h => by
    obtain ⟨v, h1, h2⟩ := r.at_ i d h
    exact ⟨v, h1, .inr ⟨by simp, h2.elim (fun z => nomatch z.1) fun z => z.2⟩⟩
  | _, _, _, .bef q r, 0, d, h => by
    cases h
    exact ⟨_, rfl, .inr ⟨by simp, q⟩⟩
  | _, _, _, .bef q r, i + 1, d, h => by
    obtain ⟨v, h1, h2⟩ := r.at_ i d h
    exact ⟨v, h1, h2.imp (fun z => ⟨by rw [Option.some.inj z.1], z.2⟩) fun z => ⟨fun y => z.1 (by rw [Nat.succ.inj (Option.some.inj y)]), z.2⟩⟩
theorem AR.there {N : Hp} {v0 : V} {d0 : PyData} : ∀ {k : Option Nat} {vs : List V} {ds : List PyData} {m : Nat}, AR N v0 d0 k vs ds → k = some m → vs[m]? = some v0 ∧ ds[m]? = some d0
  | _, _, _, _, .nil, h => nomatch h
  | _, _, _, _, .own r, h => by
    cases h
    exact ⟨rfl, rfl⟩
  | _, _, _, _, .nxt _ r, h => nomatch h
  | _, _, _, _, .bef _ r, h => by
    cases h
    exact r.there rfl
/-- a promise of a def that changes the m-th thing that it is handed: what f tells: what it hands back, what stands there then -/
def spM (m c rc : Nat) (f : List PyData → Option (PyData × PyData)) : Sp := fun vs H Q _ => ∃ (N : Hp) (S : List Addr) (ds : List PyData) (d e : PyData) (vm : V) (dm : PyData), Ex N H ∧ AR N vm dm (some m) vs ds ∧ Ow N H c vm dm S ∧ S.Nodup ∧ (∀ a ∈ S, N a = none) ∧ f ds = some (d, e) ∧
  ∀ v N' H' S' T, Stp N H (ownF m S) N' H' (ownF m S') → Ow N' H' c vm e S' → S'.Nodup → (∀ a ∈ S', N' a = none) → Ow N' H' rc v d T → Apt N H (ownF m S) N' (ownF m S') T → Q v H'
section
variable {pv : Nat → Option V} {os : List Nat} {rc : Nat} {cm : String → Addr} {W : WX} {E : XK} {te : TE} {ta tr : TA} {f : De → Option Ob} {fa : De → Option (List PyData)} {i : Nat}
theorem Ow.code {N H : Hp} {c c' : Nat} (h : c % 10 = c' % 10) {v : V} {d : PyData} {S : List Addr} (r : Ow N H c v d S) : Ow N H c' v d S := r.recode (fun _ d q r => ⟨by unfold leafOk at q ⊢; rw [← h]; exact q, r⟩) fun _ _ r => r
/-! the body of such a def -/
def outM (m : Nat) : Option GO → Option (PyData × PyData)
  | some (.nx ds) => (eV m ds).map fun e => (.none, e)
  | some (.rt d ds) => (eV m ds).map fun e => (d, e)
  | _ => none
def runM (n m : Nat) (g : De → Option GO) : List PyData → Option (PyData × PyData) := fun es => outM m (g (startD n es))
theorem body_M {t : TS} {g : De → Option GO} {names : List Str} {vs : List V} {H : Hp} {Q : VK} {n m c : Nat} (hs : FS os rc cm W t g) (hn : names.length = n) (hm : os.getD m 0 = 10 + c) (hc : c ≠ 0 ∧ c < 10) (ho : ∀ i, i ≠ m → pinned (os.getD i 0) = false) (h0 : ∀ i, i < vs.length → i ≠ m → os.getD i 0 = 0) (h : spM m c rc (runM n m g) vs H Q E) :
    t { nx := fun _ H' => Q .non H', rt := Q, bk := fun _ _ => False, ct := fun _ _ => False } (L2.start names vs) H := by
  subst hn
  obtain ⟨N, S, es, d, e, vm, dm, eN, ar, ow, nd, nS, hf, q⟩ := h
  have code : (10 + c) % 10 = c % 10 := by omega
  have hl := ar.length
  have atm := ar.there rfl
  have sv : ∀ i v, vs[i]? = some v → (L2.start names vs)[i]? = some (some v) := fun i v hv => by
    unfold L2.start
    obtain ⟨lt, _⟩ := List.getElem?_eq_some_iff.mp hv
    rw [List.getElem?_append_left (by rw [List.length_map]; exact lt), List.getElem?_map, hv]
    rfl
  have g0 : Hg (fun i => if i = m then some vm else none) N H (L2.start names vs) (startD names.length es) os (ownF m S) := by
    refine ⟨by unfold L2.start startD; simp [hl], fun i d' q' => ?_, fun i hi => ?_, fun i => ?_, fun i j hij a ha hb => ?_, fun i a ha => ?_, fun i a ha => ?_, fun i v hv => ?_, fun i hi => ?_⟩
    · have hi : i < es.length := by
        refine Nat.lt_of_not_le fun z => ?_
        unfold startD at q'
        rw [List.getElem?_append_right (by rw [List.length_map]; omega), List.getElem?_replicate] at q'
        split at q'
        · cases Option.some.inj q'
        · cases q'
      have q2 : es[i]? = some d' := by
        unfold startD at q'
        rw [List.getElem?_append_left (by rw [List.length_map]; exact hi), List.getElem?_map] at q'
        cases z : es[i]? with
        | none =>
          rw [z] at q'
          cases q'
        | some x =>
          rw [z] at q'
          exact Option.some.inj q'
      obtain ⟨v, e1, e2⟩ := ar.at_ i d' q2
      refine ⟨v, sv i v e1, ?_⟩
      rcases e2 with ⟨e3, rfl, rfl⟩ | ⟨e3, r⟩
      · cases e3
        rw [ownF_same, hm]
        exact ow.code code.symm
      · have ne : i ≠ m := fun z => e3 (by rw [z])
        rw [ownF_ne ne, h0 i (by rw [hl]; exact hi) ne]
        exact .leaf rfl r
    · by_cases z : i = m
      · subst z
        rw [hm] at hi
        omega
      · exact ownF_ne z
    · by_cases z : i = m
      · subst z
        rw [ownF_same]
        exact nd
      · rw [ownF_ne z]
        exact List.nodup_nil
    · by_cases z : i = m
      · subst z
        rw [ownF_ne (fun y => hij y.symm)] at hb
        cases hb
      · rw [ownF_ne z] at ha
        cases ha
    · by_cases z : i = m
      · subst z
        rw [ownF_same] at ha
        exact nS a ha
      · rw [ownF_ne z] at ha
        cases ha
    · by_cases z : i = m
      · subst z
        rw [ownF_same] at ha
        exact ow.there a ha
      · rw [ownF_ne z] at ha
        cases ha
    · replace hv : (if i = m then some vm else none) = some v := hv
      split at hv
      · rename_i z
        subst z
        cases hv
        exact sv i _ atm.1
      · cases hv
    · show (if i = m then some vm else none) = none
      split
      · rename_i z
        subst z
        rw [hm] at hi
        unfold pinned at hi
        have := of_decide_eq_false hi
        omega
      · rfl
  have fin : ∀ σ' N' H' F' (ds' : De), Stp N H (ownF m S) N' H' F' → Hg (fun i => if i = m then some vm else none) N' H' σ' ds' os F' → eV m ds' = some e → Stp N H (ownF m S) N' H' (ownF m (F' m)) ∧ Ow N' H' c vm e (F' m) ∧ (F' m).Nodup ∧ (∀ a ∈ F' m, N' a = none) := fun σ' N' H' F' ds' s g' he => by
    obtain ⟨v, e1, r⟩ := g'.at_ m e (eV_is he)
    have e2 := g'.pin m vm (if_pos rfl)
    rw [e1] at e2
    cases e2
    refine ⟨⟨s.n, s.k, s.un, s.ng, fun j a ha => ?_⟩, ?_, g'.nd m, g'.ou m⟩
    · by_cases z : j = m
      · subst z
        rw [ownF_same] at ha
        exact s.fg j a ha
      · rw [ownF_ne z] at ha
        cases ha
    · rw [hm] at r
      exact r.code code
  unfold runM at hf
  cases w : g (startD names.length es) with
  | none =>
    rw [w] at hf
    cases hf
  | some o =>
    rw [w] at hf
    refine hs _ o w _ _ N H _ g0 eN _ ?_
    cases o with
    | nx ds =>
      obtain ⟨e', h1, h2⟩ := map_is hf
      cases h2
      refine fun σ' N' H' F' s g' => ?_
      obtain ⟨a1, a2, a3, a4⟩ := fin σ' N' H' F' ds s g' h1
      exact q .non N' H' (F' m) [] a1 a2 a3 a4 (Ow.flat (N := nilH) .non rfl) Apt.nil
    | rt d1 ds =>
      obtain ⟨e', h1, h2⟩ := map_is hf
      cases h2
      refine fun v σ' N' H' F' T s g' r p => ?_
      obtain ⟨a1, a2, a3, a4⟩ := fin σ' N' H' F' ds s g' h1
      exact q v N' H' (F' m) T a1 a2 a3 a4 r ⟨p.nd, p.ou, p.wr, fun j a ha => by
        by_cases z : j = m
        · subst z
          rw [ownF_same] at ha
          exact p.dj j a ha
        · rw [ownF_ne z] at ha
          cases ha⟩
    | er x ds => cases hf
    | bk ds => cases hf
    | ct ds => cases hf
theorem lenM_of {m c n : Nat} {f : List PyData → Option (PyData × PyData)} (h : ∀ es r, f es = some r → es.length = n) : ∀ vs H Q E, spM m c rc f vs H Q E → vs.length = n := fun vs H Q E ⟨N, S, es, d, e, vm, dm, eN, ar, ow, nd, nS, hf, q⟩ => by
  rw [ar.length]
  exact h es _ hf
def onlyM (n : Nat) (f : List PyData → Option (PyData × PyData)) : List PyData → Option (PyData × PyData) := fun es => if es.length = n then f es else none
theorem onlyM_is {n : Nat} {f : List PyData → Option (PyData × PyData)} {es : List PyData} {r : PyData × PyData} (h : onlyM n f es = some r) : es.length = n ∧ f es = some r := by
  unfold onlyM at h
  split at h
  · exact ⟨‹_›, h⟩
  · cases h
/-! ### such a call -/
def FAm (os : List Nat) (i : Nat) (k : Option Nat) (ta : TA) (fa : De → Option (List PyData)) : Prop := ∀ ds es, fa ds = some es → ∀ pv σ N H F, Hg pv N H σ ds os F → Ex N H → ∀ v0 d0, (∀ m, k = some m → σ[i]? = some (some v0) ∧ eV i ds = some d0) → ∀ Q : List V → Hp → Prop, (∀ vs N' H', Stp N H F N' H' F → Hg pv N' H' σ ds os F → AR N' v0 d0 k vs es → Q vs H') → ta σ H Q
theorem fam_nil : FAm os i none tNil aN := fun ds es e pv σ N H F g eN v0 d0 h Q q => by
  cases e
  exact q [] N H (Stp.refl eN) g .nil
theorem fam_own (h' : FAm os i none tr fa) : FAm os i (some 0) (tCons (tVar i) tr) (aC (eV i) fa) := fun ds es e pv σ N H F g eN v0 d0 h Q q => by
  obtain ⟨d, r, h1, h2, rfl⟩ := aC_is e
  obtain ⟨e1, e2⟩ := h 0 rfl
  rw [h1] at e2
  cases e2
  exact ⟨v0, e1, h' ds r h2 pv σ N H F g eN v0 _ (fun m z => nomatch z) _ fun vs N' H' s g' ar => q (v0 :: vs) N' H' s g' (.own ar)⟩
def dataK (f : De → Option Ob) : De → Option PyData := fun ds => match f ds with
  | some (.ok d) => some d
  | _ => none
/-- a thing that is known from then on -/
theorem known_k (h : FK os 0 cm W te f) {ds : De} {d : PyData} (e : dataK f ds = some d) {N H : Hp} {σ : St} {F : Fp} (g : Hg pv N H σ ds os F) (eN : Ex N H) {Q : VK} (q : ∀ v N' H', Stp N H F N' H' F → Hg pv N' H' σ ds os F → Rp N' v d → Q v H') : te σ H Q := by
  unfold dataK at e
  split at e
  · rename_i d' hd
    cases e
    refine h ds _ hd pv σ N H F g eN Q (fun d1 z v H' N' S e1 s g' r nd fr => ?_) fun y z => nomatch z
    cases z
    have hx : Ex (HU N' (only H' S)) H' := hu_in s.k (only_ex _ _)
    have hS : ∀ b, HU N' (only H' S) b ≠ none → N' b ≠ none ∨ b ∈ S := fun b hb => (hu_reg hb).elim .inl fun z => .inr (by
      by_cases w : b ∈ S
      · exact w
      · rw [only_out w] at z
        exact absurd rfl z)
    refine q v (HU N' (only H' S)) H' ⟨s.n.trans (hu_l _ _), hx, s.un, fun b hb => (hS b hb).elim (s.ng b) fun z => .inr (.inl (fr b z).1), s.fg⟩ (g'.monoN (hu_l _ _) fun j b hb => ?_) (r.rp (hu_l _ _) fun a ha => ?_)
    · cases z : HU N' (only H' S) b with
      | none => rfl
      | some o =>
        rcases hS b (by rw [z]; intro y; cases y) with y | y
        · exact absurd (g'.ou j b hb) y
        · exact absurd (fr b y).1 (g.th j b hb)
    · have z := hu_r (A := N') s.k (only_ex H' S)
      cases w : H' a with
      | none => exact absurd w (r.there a ha)
      | some o => exact z a o (by rw [only_in ha, w])
  · cases e
theorem fam_nxt (h : FK os 0 cm W te f) (h' : FAm os i none tr fa) : FAm os i none (tCons te tr) (aC (dataK f) fa) := fun ds es e pv σ N H F g eN v0 d0 hh Q q => by
  obtain ⟨d, r, h1, h2, rfl⟩ := aC_is e
  exact known_k h h1 g eN fun v N1 H1 s1 g1 r1 => h' ds r h2 pv σ N1 H1 F g1 s1.k v0 d0 hh _ fun vs N2 H2 s2 g2 ar => q (v :: vs) N2 H2 (s1.trans s2) g2 (.nxt (r1.mono s2.n) ar)
theorem fam_bef {k : Nat} (h : FK os 0 cm W te f) (h' : FAm os i (some k) tr fa) : FAm os i (some (k + 1)) (tCons te tr) (aC (dataK f) fa) := fun ds es e pv σ N H F g eN v0 d0 hh Q q => by
  obtain ⟨d, r, h1, h2, rfl⟩ := aC_is e
  exact known_k h h1 g eN fun v N1 H1 s1 g1 r1 => h' ds r h2 pv σ N1 H1 F g1 s1.k v0 d0 (fun m z => hh (k + 1) rfl) _ fun vs N2 H2 s2 g2 ar => q (v :: vs) N2 H2 (s1.trans s2) g2 (.bef (r1.mono s2.n) ar)
def FC (os : List Nat) (te : TE) (f : De → Option (PyData × De)) : Prop := ∀ ds d ds', f ds = some (d, ds') → ∀ pv σ N H F, Hg pv N H σ ds os F → Ex N H → ∀ Q : VK, (∀ v N' H' F', Stp N H F N' H' F' → Hg pv N' H' σ ds' os F' → Rp N' v d → Q v H') → te σ H Q
def cM (i : Nat) (f : List PyData → Option (PyData × PyData)) (fa : De → Option (List PyData)) : De → Option (PyData × De) := fun ds => match fa ds with
  | some es => match f es with
    | some (d, e) => some (d, ds.set i (some e))
    | none => none
  | none => none
theorem fc_call {m c : Nat} {f : List PyData → Option (PyData × PyData)} (hi : os.getD i 0 % 10 = c) (hc : c ≠ 0) (hl : ∀ ds, fa ds ≠ none → ∃ d, eV i ds = some d) (h : FAm os i (some m) ta fa) : FC os (tCall (spM m c rc f) [] E ta) (cM i f fa) := fun ds d ds' e pv σ N H F g eN Q q => by
  unfold cM at e
  split at e
  · rename_i es hes
    split at e
    · rename_i d1 e1 hf
      cases e
      obtain ⟨d0, h0⟩ := hl ds (by rw [hes]; intro z; cases z)
      obtain ⟨v0, hv0, ow⟩ := g.at_ i d0 (eV_is h0)
      refine h ds es hes pv σ N H F g eN v0 d0 (fun _ _ => ⟨hv0, h0⟩) _ fun vs N1 H1 s1 g1 ar => ?_
      obtain ⟨v0', hv0', ow1⟩ := g1.at_ i d0 (eV_is h0)
      rw [hv0] at hv0'
      cases hv0'
      have code : os.getD i 0 % 10 = c % 10 := by omega
      refine ⟨N1, F i, es, _, e1, v0, d0, s1.k, by rw [List.append_nil]; exact ar, ow1.code code, g1.nd i, g1.ou i, hf, fun v N2 H2 S' T s2 o2 nd2 nS2 rT pT => ?_⟩
      have up : ∀ {a}, Wr H1 (ownF m (F i)) a → Wr H1 F a := fun w => (wr_own w).imp id fun z => ⟨i, z⟩
      have offT : ∀ j, ∀ b ∈ F j, j ≠ i → ¬ Wr H1 (ownF m (F i)) b := fun j b hb hj w => (wr_own w).elim (g1.th j b hb) fun z => g1.dj j i hj b hb z
      have s3 : Stp N1 H1 F N2 H2 (F.put i S') := ⟨s2.n, s2.k, fun a ha => s2.un a fun w => ha (up w), fun a ha => (s2.ng a ha).imp id up, fun j b hb => by
        by_cases z : j = i
        · subst z
          rw [Fp.put_same] at hb
          exact up (s2.fg m b (by rw [ownF_same]; exact hb))
        · rw [Fp.put_ne z] at hb
          exact .inr ⟨j, hb⟩⟩
      have keepN : ∀ j, ∀ b ∈ F j, j ≠ i → N2 b = none := fun j b hb hj => by
        cases z : N2 b with
        | none => rfl
        | some o =>
          rcases s2.ng b (by rw [z]; intro y; cases y) with y | y
          · exact absurd (g1.ou j b hb) y
          · exact absurd y (offT j b hb hj)
      have sw : ∀ b ∈ S', Wr H1 (ownF m (F i)) b := fun b hb => s2.fg m b (by rw [ownF_same]; exact hb)
      have g3 : Hg pv N2 H2 σ (ds.set i (some e1)) os (F.put i S') := by
        obtain ⟨lt, _⟩ := List.getElem?_eq_some_iff.mp (eV_is h0)
        refine ⟨by rw [List.length_set]; exact g1.len, fun j d' q' => ?_, fun j hj => ?_, fun j => ?_, fun j k hjk b hb hb2 => ?_, fun j b hb => ?_, fun j b hb => ?_, g1.pin, g1.pno⟩
        · by_cases z : j = i
          · subst z
            rw [List.getElem?_set_self lt] at q'
            cases q'
            exact ⟨v0, hv0, by rw [Fp.put_same]; exact o2.code code.symm⟩
          · rw [List.getElem?_set_ne (fun y => z y.symm)] at q'
            obtain ⟨u, q1, q2⟩ := g1.at_ j d' q'
            refine ⟨u, q1, ?_⟩
            rw [Fp.put_ne z]
            exact (q2.agree fun b hb => s2.un b (offT j b hb z)).monoN s2.n
        · by_cases z : j = i
          · subst z
            rw [hj] at hi
            omega
          · rw [Fp.put_ne z]
            exact g1.fr j hj
        · by_cases z : j = i
          · subst z
            rw [Fp.put_same]
            exact nd2
          · rw [Fp.put_ne z]
            exact g1.nd j
        · by_cases z : j = i
          · subst z
            rw [Fp.put_same] at hb
            rw [Fp.put_ne (fun y => hjk y.symm)] at hb2
            exact offT k b hb2 (fun y => hjk y.symm) (sw b hb)
          · rw [Fp.put_ne z] at hb
            by_cases w : k = i
            · subst w
              rw [Fp.put_same] at hb2
              exact offT j b hb z (sw b hb2)
            · rw [Fp.put_ne w] at hb2
              exact g1.dj j k hjk b hb hb2
        · by_cases z : j = i
          · subst z
            rw [Fp.put_same] at hb
            exact nS2 b hb
          · rw [Fp.put_ne z] at hb
            exact keepN j b hb z
        · by_cases z : j = i
          · subst z
            rw [Fp.put_same] at hb
            exact o2.there b hb
          · rw [Fp.put_ne z] at hb
            rw [s2.un b (offT j b hb z)]
            exact g1.th j b hb
      have hx : Ex (HU N2 (only H2 T)) H2 := hu_in s2.k (only_ex _ _)
      have hS : ∀ b, HU N2 (only H2 T) b ≠ none → N2 b ≠ none ∨ b ∈ T := fun b hb => (hu_reg hb).elim .inl fun z => .inr (by
        by_cases w : b ∈ T
        · exact w
        · rw [only_out w] at z
          exact absurd rfl z)
      refine q v (HU N2 (only H2 T)) H2 (F.put i S') ⟨(s1.trans s3).n.trans (hu_l _ _), hx, (s1.trans s3).un, fun b hb => (hS b hb).elim ((s1.trans s3).ng b) fun z => .inr (s1.wr (up (pT.wr b z))), (s1.trans s3).fg⟩ (g3.monoN (hu_l _ _) fun j b hb => ?_) (rT.rp (hu_l _ _) fun a ha => ?_)
      · cases z : HU N2 (only H2 T) b with
        | none => rfl
        | some o =>
          rcases hS b (by rw [z]; intro y; cases y) with y | y
          · exact absurd (g3.ou j b hb) y
          · by_cases w : j = i
            · subst w
              rw [Fp.put_same] at hb
              exact absurd y (pT.dj m b (by rw [ownF_same]; exact hb))
            · rw [Fp.put_ne w] at hb
              exact absurd (pT.wr b y) (offT j b hb w)
      · have z := hu_r (A := N2) s2.k (only_ex H2 T)
        cases w : H2 a with
        | none => exact absurd w (rT.there a ha)
        | some o => exact z a o (by rw [only_in ha, w])
    · cases e
  · cases e
/-! statements over such a call -/
def sDropC (m : De → Option (PyData × De)) : De → Option GO := fun ds => match m ds with
  | some (_, ds') => some (.nx ds')
  | none => none
theorem fs_dropC {mf : De → Option (PyData × De)} (h : FC os te mf) : FS os rc cm W (tDrop te) (sDropC mf) := fun ds o e pv σ N H F g eN D a => by
  unfold sDropC at e
  split at e
  · rename_i d ds1 e1
    cases e
    exact h ds d ds1 e1 pv σ N H F g eN _ fun v N1 H1 F1 s1 g1 r1 => a σ N1 H1 F1 s1 g1
  · cases e
def sAsgC (j : Nat) (m : De → Option (PyData × De)) : De → Option GO := fun ds => match m ds with
  | some (d, ds') => some (.nx (ds'.set j (some d)))
  | none => none
theorem fs_asgC {j : Nat} {mf : De → Option (PyData × De)} (hj : os.getD j 0 = 0) (h : FC os te mf) : FS os rc cm W (tAsg te (gName j)) (sAsgC j mf) := fun ds o e pv σ N H F g eN D a => by
  unfold sAsgC at e
  split at e
  · rename_i d ds1 e1
    cases e
    exact h ds d ds1 e1 pv σ N H F g eN _ fun v N1 H1 F1 s1 g1 r1 => a _ N1 H1 F1 s1 (g1.put0 hj r1)
  · cases e
def sAugC (j : Nat) (op : Int → Int → Int) (m : De → Option (PyData × De)) : De → Option GO := fun ds => match eV j ds, m ds with
  | some (.int x), some (.int y, ds') => some (.nx (ds'.set j (some (.int (op x y)))))
  | _, _ => none
theorem fs_augC {j : Nat} {op : Int → Int → Int} {mf : De → Option (PyData × De)} (hj : os.getD j 0 = 0) (h : FC os te mf) : FS os rc cm W (tAug j te (ipI op)) (sAugC j op mf) := fun ds o e pv σ N H F g eN D a => by
  unfold sAugC at e
  split at e
  · rename_i x y ds1 h1 h2
    cases e
    obtain ⟨v, e1, r⟩ := g.at_ j _ (eV_is h1)
    have hv : v = .int x := by
      generalize F j = S at r
      cases r with
      | leaf _ r => cases r; rfl
    subst hv
    refine ⟨_, e1, h ds _ ds1 h2 pv σ N H F g eN _ fun w N1 H1 F1 s1 g1 r1 => ?_⟩
    cases r1
    exact ⟨x, y, rfl, rfl, a _ N1 H1 F1 s1 (g1.put0 hj (.int _))⟩
  · cases e
/-! ### raise, try -/
def sRaise (c : String) : De → Option GO := fun ds => some (.er ⟨c, []⟩ ds)
theorem fs_raise {c : String} {C : Addr} (hC : cm c = C) : FS os rc cm W (fun _ σ H => W (.ref C) none σ H) (sRaise c) := fun ds o e pv σ N H F g eN D a => by
  subst hC
  cases e
  exact a σ N H F none [] (Stp.refl eN) g PayR.nil Apt.nil
def sTry (os : List Nat) (i : Nat) (hd : String → Option PyData) (f : De → Option GO) : De → Option GO := fun ds => match f ds with
  | some (.er ⟨c, []⟩ ds') => match hd c with
    | some d => if i < ds'.length then some (.rt d (ds'.set i none)) else none
    | none => none
  | some (.er _ _) => none
  | o => o
theorem fs_try {tb : WX → TS} {cv : Value} {ts : Addr → Value → Option Addr → TS} {Wo : WX} {body : De → Option GO} {hd : String → Option PyData} (hr : rc = 0) (hi : os.getD i 0 = 0) (hb : ∀ W', FS os rc cm W' (tb W') body)
    (hs : ∀ c d, hd c = some d → PySem.W.exmOne KK (.ref (cm c)) cv = some true ∧ ∀ a ds, EvSu i (ts a (.ref (cm c)) none) a ds d) : FS os rc cm W (tTry KK cv i tb ts Wo) (sTry os i hd body) := fun ds o e pv σ N H F g eN D a => by
  unfold sTry at e
  have run := hb (wAs KK cv i ts Wo D) ds
  split at e
  · rename_i c ds1 h1
    split at e
    · rename_i d hd1
      split at e
      · rename_i lt
        cases e
        obtain ⟨hm, hsu⟩ := hs c d hd1
        refine run _ h1 pv σ N H F g eN D fun σ' N' H' F' o S s1 g1 p ap => ?_
        cases o with
        | none =>
          refine ⟨true, hm, fun _ p hp => ?_, fun z => nomatch z⟩
          have hid : Holds N' (σ'.set i (some (.ref p))) ((hideD os ds1).set i none) := g1.hide.setIn i _
          refine hsu p _ (σ'.set i (some (.ref p))) N' (by rw [List.getElem?_set_self (by rw [g1.len]; exact lt)]) hid _ H' s1.k fun v H2 N2 e2 n2 k2 r2 q2 => ?_
          have g2 : Hg pv N2 H2 σ' ds1 os F' := (g1.mono e2).monoN n2 fun j x hx => by
            cases z : N2 x with
            | none => rfl
            | some o =>
              rcases r2 x (by rw [z]; intro w; cases w) with w | w
              · exact absurd (g1.ou j x hx) w
              · exact absurd w (g1.th j x hx)
          refine a v σ' N2 H2 (F'.put i []) [] ((s1.trans (Stp.growN n2 k2 e2 r2)).trans ⟨Ex.refl _, k2, fun _ _ => rfl, fun _ h => .inl h, fun j b hb => ?_⟩) g2.drop (by rw [hr]; exact .leaf rfl q2) Apt.nil
          by_cases z : j = i
          · subst z
            rw [Fp.put_same] at hb
            cases hb
          · rw [Fp.put_ne z] at hb
            exact .inr ⟨j, hb⟩
        | some D' =>
          obtain ⟨fs, S', z, _⟩ := p
          exact absurd rfl z
      · cases e
    · cases e
  · cases e
  · rename_i hn1 hn2
    refine run o e pv σ N H F g eN D ?_
    cases o with
    | er x ds' => exact absurd e (by intro z; exact hn2 x ds' z)
    | nx _ => exact a
    | bk _ => exact a
    | ct _ => exact a
    | rt _ _ => exact a
end
end FX
set_option Elab.async false
set_option linter.all false
set_option maxRecDepth 100000
set_option maxHeartbeats 2000000
/-! Rules by the machine's own words for what FX tells: unions, one word each; what a def's text asks. -/
namespace FX
open PySem PySem.Spec PyProof.Rows L2 Evl DL
set_option autoImplicit false
variable [Kn]
section
variable {X : Cx} {K : PySem.W.Frag}
theorem k_catT (h : X.K = K := by rfl) : OpR X (binaryOp .Add) (rCatT K) := by
  subst h
  exact op_catT
abbrev rPlus (K : PySem.W.Frag) : R2 := rOr (rI0 fun i j => .int (i + j)) (rOr (rCatR K) (rCatT K))
theorem k_plus (h : X.K = K := by rfl) : OpR X (binaryOp .Add) (rPlus K) := or_op op_add (or_op (k_cat h) (k_catT h))
abbrev rTimes (K : PySem.W.Frag) : R2 := rOr (rI CMul fun i j => .int (i * j)) (rRepL K)
theorem k_times (h : X.K = K := by rfl) : OpR X (binaryOp .Mult) (rTimes K) := or_op op_mul (k_rep h)
abbrev rIx (K : PySem.W.Frag) : R2 := rOr (rIxL K) (rIxT K)
theorem k_ix (h : X.K = K := by rfl) : IxR X (rIx K) := or_ix (k_ixL h) (k_ixT h)
abbrev iAny (K : PySem.W.Frag) (te : TE) : TI := iOr (iList K te) (iTup K te)
theorem k_pi_any {tg e : Expr} {te : TE} (he : PE X e te) (h : X.K = K := by rfl) : PI X tg e (iAny K te) := or_pi (k_pi_list he h) (k_pi_tup he h)
end
def plusD : PyData → PyData → Option PyData := fun d e => match d, e with
  | .int i, .int j => some (.int (i + j))
  | .list a, .list b => if a.length + b.length ≤ 100000 then some (.list (a ++ b)) else none
  | .tuple a, .tuple b => if 0 < a.length ∧ 0 < b.length ∧ a.length + b.length ≤ 100000 then some (.tuple (a ++ b)) else none
  | _, _ => none
theorem ro_plus : RO (rPlus KK) plusD := fun x y N H d e z q eN rx ry Q k => by
  unfold plusD at q
  split at q
  · exact .inl (ro_add x y N H (.int _) (.int _) z q eN rx ry Q k)
  · exact .inr (.inl (ro_catL x y N H (.list _) (.list _) z q eN rx ry Q k))
  · exact .inr (.inr (ro_catT x y N H (.tuple _) (.tuple _) z q eN rx ry Q k))
  · cases q
def timesD : PyData → PyData → Option PyData := fun d e => match d, e with
  | .int i, .int j => if (-(2 ^ 64) < i ∧ i < 2 ^ 64) ∨ (-(2 ^ 64) < j ∧ j < 2 ^ 64) then some (.int (i * j)) else none
  | .list a, .int k => if 0 ≤ k ∧ k < 1000 ∧ a.length * k.toNat ≤ 100000 then some (.list (List.replicate k.toNat a).flatten) else none
  | _, _ => none
theorem ro_times : RO (rTimes KK) timesD := fun x y N H d e z q eN rx ry Q k => by
  unfold timesD at q
  split at q
  · exact .inl (ro_mul x y N H (.int _) (.int _) z q eN rx ry Q k)
  · exact .inr (ro_repL x y N H (.list _) (.int _) z q eN rx ry Q k)
  · cases q
def itA (f : De → Option PyData) : De → Option (List PyData) := fun ds => match f ds with
  | some (.list xs) => some xs
  | some (.tuple xs) => some xs
  | _ => none
theorem fi_any {te : TE} {f : De → Option PyData} (h : FE te f) : FI (iAny KK te) (itA f) := fun ds its e => by
  unfold itA at e
  split at e
  · rename_i q
    cases e
    exact fun σ N hs H eN R k => .inl (fi_list h ds _ (by unfold itL; rw [q]) σ N hs H eN R k)
  · rename_i q
    cases e
    exact fun σ N hs H eN R k => .inr (fi_tup h ds _ (by unfold itT; rw [q]) σ N hs H eN R k)
  · cases e
/-! codes of the slots -/
theorem no_pin {os : List Nat} (h : os.all (fun c => !pinned c) = true) (i : Nat) : pinned (os.getD i 0) = false := by
  rw [List.getD_eq_getElem?_getD]
  cases e : os[i]? with
  | none => rfl
  | some c => simpa using List.all_eq_true.mp h c (List.mem_of_getElem? e)
theorem first0 {os : List Nat} {n : Nat} (h : (os.take n).all (fun c => c == 0) = true) (i : Nat) (hi : i < n) : os.getD i 0 = 0 := by
  rw [List.getD_eq_getElem?_getD]
  cases e : os[i]? with
  | none => rfl
  | some c =>
    have e2 : (os.take n)[i]? = some c := by
      rw [List.getElem?_take, if_pos hi]
      exact e
    simpa using List.all_eq_true.mp h c (List.mem_of_getElem? e2)
section
variable {cm : String → Addr} {rc : Nat} {E : XK}
theorem spP_only {n : Nat} {f : List PyData → Option Ob} {vs : List V} {H : Hp} {Q : VK} (h : spP cm rc (only_ n f) vs H Q E) : vs.length = n ∧ spP cm rc f vs H Q E := by
  obtain ⟨N, ds, r, a, b, c, d, e⟩ := h
  obtain ⟨c1, c2⟩ := only_is c
  exact ⟨by rw [b.length]; exact c1, N, ds, r, a, b, c2, d, e⟩
theorem spM_only {m c n : Nat} {f : List PyData → Option (PyData × PyData)} {vs : List V} {H : Hp} {Q : VK} (h : spM m c rc (onlyM n f) vs H Q E) : vs.length = n ∧ spM m c rc f vs H Q E := by
  obtain ⟨N, S, ds, d, e, vm, dm, a1, a2, a3, a4, a5, a6, a7⟩ := h
  obtain ⟨c1, c2⟩ := onlyM_is a6
  exact ⟨by rw [a2.length]; exact c1, N, S, ds, d, e, vm, dm, a1, a2, a3, a4, a5, c2, a7⟩
/-- a def's body told by g -/
theorem done_P {t : TS} {g : De → Option GO} {names : List Str} {vs : List V} {H : Hp} {Q : VK} {os : List Nat} {n np : Nat} (h : spP cm rc (only_ np (runF n g)) vs H Q E) (hn : names.length = n) (hl : os.all (fun c => !pinned c) = true) (h0 : (os.take np).all (fun c => c == 0) = true) (hs : FS os rc cm (fun cls o _ H => E cls o H) t g) :
    t { nx := fun _ H' => Q .non H', rt := Q, bk := fun _ _ => False, ct := fun _ _ => False } (L2.start names vs) H := by
  obtain ⟨h1, h2⟩ := spP_only h
  exact body_P hs hn (no_pin hl) (fun i hi => first0 h0 i (by omega)) h2
theorem done_M {t : TS} {g : De → Option GO} {names : List Str} {vs : List V} {H : Hp} {Q : VK} {os : List Nat} {n np m c : Nat} {W : WX} (h : spM m c rc (onlyM np (runM n m g)) vs H Q E) (hn : names.length = n) (hm : os.getD m 0 = 10 + c) (hc : c ≠ 0 ∧ c < 10) (hl : (os.set m 0).all (fun c => !pinned c) = true) (h0 : ((os.set m 0).take np).all (fun c => c == 0) = true) (hs : FS os rc cm W t g) :
    t { nx := fun _ H' => Q .non H', rt := Q, bk := fun _ _ => False, ct := fun _ _ => False } (L2.start names vs) H := by
  obtain ⟨h1, h2⟩ := spM_only h
  have ne : ∀ i, i ≠ m → (os.set m 0).getD i 0 = os.getD i 0 := fun i hi => by
    rw [List.getD_eq_getElem?_getD, List.getD_eq_getElem?_getD, List.getElem?_set_ne (fun z => hi z.symm)]
  exact body_M hs hn hm hc (fun i hi => by rw [← ne i hi]; exact no_pin hl i) (fun i hi hm' => by rw [← ne i hm']; exact first0 h0 i (by omega)) h2
theorem lenP {n : Nat} {f : List PyData → Option Ob} : ∀ vs H Q E, spP cm rc (only_ n f) vs H Q E → vs.length = n := fun vs H Q E h => (spP_only h).1
theorem lenM {m c n : Nat} {f : List PyData → Option (PyData × PyData)} : ∀ vs H Q E, spM m c rc (onlyM n f) vs H Q E → vs.length = n := fun vs H Q E h => (spM_only h).1
end
/-! the law's own -/
def spLaw : Sp := fun vs H Q _ => ∃ (a : Addr) (ns : List Int), vs = [.ref a] ∧ SqL KK H a (ns.map V.int) ∧ ns.length ≤ 63 ∧ ∀ H', Q (.bl true) H'
theorem law_done {cm : String → Addr} {W : WX} {t : TS} {g : De → Option GO} {names : List Str} {vs : List V} {H : Hp} {Q : VK} {E : XK} {os : List Nat} {n : Nat} (h : spLaw vs H Q E) (hn : names.length = n) (hl : os.all (fun c => !pinned c) = true) (h0 : (os.take 1).all (fun c => c == 0) = true) (hs : FS os 0 cm (fun cls o _ H => E cls o H) t g)
    (hv : ∀ ns : List Int, ns.length ≤ 63 → runF n g [eI ns] = some (.ok (.bool true))) : t { nx := fun _ H' => Q .non H', rt := Q, bk := fun _ _ => False, ct := fun _ _ => False } (L2.start names vs) H := by
  obtain ⟨a, ns, rfl, hS, hlen, q⟩ := h
  refine body_P (vs := [.ref a]) hs hn (no_pin hl) (fun i hi => first0 h0 i (by simpa using hi)) ⟨H, [eI ns], _, Ex.refl H, .cons (.lst hS (.ints ns)) .nil, hv ns hlen, fun d z v H' N' S e n k g r nd fr => ?_, fun e z => nomatch z⟩
  cases z
  cases r with
  | leaf _ r => cases r; exact q H'
end FX
set_option Elab.async false
set_option linter.all false
set_option maxRecDepth 100000
set_option maxHeartbeats 2000000
/-! More rules: three ints' least, new lists by * and +, an item changed by +=, the last item taken away, {}; small facts. -/
namespace FX
open PySem PySem.Spec PyProof.Rows L2 Evl DL
set_option autoImplicit false
variable [Kn]
theorem noer_ok {f : De → Option PyData} : ∀ ds e, okF f ds ≠ some (.error e) := fun ds e h => by
  unfold okF at h
  cases q : f ds with
  | none =>
    rw [q] at h
    cases h
  | some d =>
    rw [q] at h
    cases h
theorem noer_flt {f : De → Option Ob} (hf : ∀ ds e, f ds ≠ some (.error e)) : ∀ ds e, fltR f ds ≠ some (.error e) := fun ds e h => by
  unfold fltR at h
  split at h
  · split at h <;> cases h
  · exact hf ds e h
theorem noer_lef {os : List Nat} {c : Nat} {f : De → Option Ob} (hf : ∀ ds e, f ds ≠ some (.error e)) : ∀ ds e, lefR os c f ds ≠ some (.error e) := fun ds e h => by
  unfold lefR at h
  split at h
  · split at h <;> cases h
  · exact hf _ e h
theorem has_own {i : Nat} {g : De → Option (List PyData)} : ∀ ds, aC (eV i) g ds ≠ none → ∃ d, eV i ds = some d := fun ds h => by
  unfold aC at h
  cases q : eV i ds with
  | none =>
    rw [q] at h
    exact absurd rfl h
  | some d => exact ⟨d, rfl⟩
theorem has_bef {i : Nat} {f : De → Option PyData} {g : De → Option (List PyData)} (hg : ∀ ds, g ds ≠ none → ∃ d, eV i ds = some d) : ∀ ds, aC f g ds ≠ none → ∃ d, eV i ds = some d := fun ds h => by
  refine hg ds fun z => h ?_
  unfold aC
  rw [z]
  cases f ds <;> rfl
theorem fe_dict0 : FE tDNewK (eC (.dict [])) := fun ds d e => by
  cases e
  exact ev_dict0
theorem k_tru {X : Cx} {K : PySem.W.Frag} {e : Expr} {t : TE} (h : PE X e t) (hK : X.K = K := by rfl) (he : ∀ whole, isTrue e X.env whole = (do let v ← whole; standAt e.pos; holding [v] (truthy v)) := by intro _; rfl) :
    PT X e (fun σ H Q => t σ H fun x H' => ∃ k, TruV K x H' k ∧ Q k H') := by
  subst hK
  exact pt_truth h he
/-! [x] * n and xs + ys of flat things: new -/
def repN : PyData → PyData → Option PyData := fun d e => match d, e with
  | .list a, .int k => if a.all flatD = true ∧ 0 ≤ k ∧ k < 1000 ∧ a.length * k.toNat ≤ 100000 then some (.list (List.replicate k.toNat a).flatten) else none
  | _, _ => none
theorem flat_rep {a : List PyData} (h : a.all flatD = true) (k : Nat) : ((List.replicate k a).flatten).all flatD = true := List.all_eq_true.mpr fun x hx => by
  obtain ⟨l, hl, hd⟩ := List.mem_flatten.mp hx
  rw [(List.mem_replicate.mp hl).2] at hd
  exact List.all_eq_true.mp h x hd
theorem e2_is {op : PyData → PyData → Option PyData} {f g : De → Option PyData} {ds : De} {z : PyData} (h : e2 op f g ds = some z) : ∃ a b, f ds = some a ∧ g ds = some b ∧ op a b = some z := by
  unfold e2 at h
  split at h
  · exact ⟨_, _, ‹_›, ‹_›, h⟩
  · cases h
section
variable {ta tb te tc tk : TE} {f g : De → Option PyData}
theorem fn_rep (ha : FE ta f) (hb : FE tb g) : FN (tOp (rTimes KK) ta tb) (e2 repN f g) := fun ds z e => by
  obtain ⟨a, b, h1, h2, q⟩ := e2_is e
  intro σ N hs H eN Q k
  refine ha ds a h1 σ N hs H eN _ fun x H1 N1 e1 n1 k1 g1 r1 => hb ds b h2 σ N1 (hs.mono n1) H1 k1 _ fun y H2 N2 e2 n2 k2 g2 r2 => ?_
  unfold repN at q
  split at q
  · split at q
    · rename_i w
      cases q
      cases r2
      cases r1 with
      | lst hr hall => exact .inr ⟨_, _, _, rfl, rfl, ex_l (n2.trans k2) hr, w.2.1, w.2.2.1, by rw [hall.length]; exact w.2.2.2, fun p hp => k (.ref p) _ [p] ((e1.trans e2).trans (Ex.new hp)) (.lst upd_same (ows_flat (hall.rep _) (flat_rep w.1 _))) (one_new (e1.trans e2) hp).1 (one_new (e1.trans e2) hp).2⟩
    · cases q
  · cases q
def catN : PyData → PyData → Option PyData := fun d e => match d, e with
  | .list a, .list b => if a.all flatD = true ∧ b.all flatD = true ∧ a.length + b.length ≤ 100000 then some (.list (a ++ b)) else none
  | _, _ => none
theorem fn_cat (ha : FE ta f) (hb : FE tb g) : FN (tOp (rPlus KK) ta tb) (e2 catN f g) := fun ds z e => by
  obtain ⟨a, b, h1, h2, q⟩ := e2_is e
  intro σ N hs H eN Q k
  refine ha ds a h1 σ N hs H eN _ fun x H1 N1 e1 n1 k1 g1 r1 => hb ds b h2 σ N1 (hs.mono n1) H1 k1 _ fun y H2 N2 e2 n2 k2 g2 r2 => ?_
  unfold catN at q
  split at q
  · split at q
    · rename_i w
      cases q
      cases r1 with
      | lst hr hall =>
        cases r2 with
        | lst hr2 hall2 =>
          refine .inr (.inl ⟨_, _, _, _, rfl, rfl, ex_l (n2.trans k2) hr, ex_l k2 hr2, sz_100 (by rw [hall.length, hall2.length]; exact w.2.2), fun p hp => ?_⟩)
          exact k (.ref p) _ [p] ((e1.trans e2).trans (Ex.new hp)) (.lst upd_same (ows_flat ((hall.mono n2).append hall2) (by rw [List.all_append, w.1, w.2.1]; rfl))) (one_new (e1.trans e2) hp).1 (one_new (e1.trans e2) hp).2
    · cases q
  · cases q
/-! the least of three ints -/
theorem k_min3 {X : Cx} {K : PySem.W.Frag} (hc : X.calm = true) (hK : X.K = K := by rfl) : CallR X (.builtin "min") (rNuC3 nuMin3) := call_min3Nu hc
end
/-! a comprehension in a comprehension -/
def relabS (L sc0 : Scope) : Scope := { L with names := L.names.map fun (n, k) => if (k == .free && sc0.kind == .function && sc0.names.lookup n == some .cell) then (n, .cell) else (n, k) }
theorem blk_in {N : List Str} {L scope : Scope} {own : List (Str × Nat)} {env : Env} {sc0 : Scope} (h0 : env.scope = sc0) (h : blkC N (relabS L sc0) scope own = true) : BlkOk N (relabel L env) scope own := by
  subst h0
  exact blkOk_by h
end FX
set_option Elab.async false
set_option linter.all false
set_option maxRecDepth 100000
set_option maxHeartbeats 4000000
/-! list(zip(*rows)): the list of the columns, each a new tuple. -/
namespace LZ
open PySem PySem.Spec PyProof.Rows L2 ZS
set_option autoImplicit false
theorem zip_len : typeLookup (.type "zip") "__len__" = pure none := by rw [typeLookup_type, builtinLookup_eq_fast]; kernel_rfl
theorem zip_hint : typeLookup (.type "zip") "__length_hint__" = pure none := by rw [typeLookup_type, builtinLookup_eq_fast]; kernel_rfl
def lo (acc : Array Value) (c : Nat) : Obj := { cls := .type "list", dict := none, data := .seq acc c, slots := #[] }
section
variable {prog : Program} {w : World} {A : Around} {R : Result → Shared → Prop} {z TI TO S : Addr} {its ls : List Addr}
/-- what is carried through the turns: C of the turn, what is made so far, the heap -/
structure Carry (C : Nat → Array Value → Heap → Prop) (L : Array Value → Heap → Prop) (M : Nat → Array Value → Value → Heap → Prop) (S z TI TO : Addr) (its ls : List Addr) (n : Nat) : Prop where
  more : ∀ i acc h, i < n → C i acc h → ∃ vs : List Value, vs.length = its.length ∧ (∀ (k : Nat) (l : Addr) (v : Value), ls[k]? = some l → vs[k]? = some v → ∃ xs : Array Value, h.IsList l xs ∧ xs[i]? = some v) ∧
    ∀ h', ZSt h' z TI TO its ls (i + 1) → IsT h' h.objs.size vs → h'.objs.size = h.objs.size + 1 → Els z TO its h h' → M i acc (.ref h.objs.size) h'
  over : ∀ acc h, C n acc h → ∃ (l : Addr) (lr : List Addr) (xs : Array Value), ls = l :: lr ∧ h.IsList l xs ∧ xs[n]? = none
  put : ∀ i acc x h h' c, M i acc x h → h'.objs.size = h.objs.size → (∀ b, b ≠ S → h'.get? b = h.get? b) → h'.get? S = some (lo (acc.push x) c) → C (i + 1) (acc.push x) h'
  zero : ∀ h h' c, C 0 #[] h → h'.objs.size = h.objs.size → (∀ b, b ≠ S → h'.get? b = h.get? b) → h'.get? S = some (lo #[] c) → C 0 #[] h'
  last : ∀ acc h h', C n acc h → Els z TO its h h' → L acc h'
  many : ∀ i acc h, C i acc h → acc.size = i
variable {C : Nat → Array Value → Heap → Prop} {L : Array Value → Heap → Prop} {M : Nat → Array Value → Value → Heap → Prop} {n : Nat}
theorem keepS {h h' : Heap} {i : Nat} (Z : ZSt h z TI TO its ls i) (hz : S ≠ z) (h1 : S ≠ TI) (h2 : S ≠ TO) (h3 : S ∉ its) (e : ∀ b, b ≠ S → h'.get? b = h.get? b) : ZSt h' z TI TO its ls i := by
  obtain ⟨f0, f1, hf, ho⟩ := Z.z
  obtain ⟨old, hl, hT⟩ := Z.to
  have k : ∀ b o, b ≠ S → h.get? b = some o → h'.get? b = some o := fun b o hb q => by rw [e b hb]; exact q
  exact ⟨⟨f0, f1, hf, k z _ hz.symm ho⟩, k TI _ h1.symm Z.ti, ⟨old, hl, k TO _ h2.symm hT⟩, fun j it l hj hl => (Z.its j it l hj hl).at fun o q => k it o (fun y => h3 (y ▸ List.mem_of_getElem? hj)) q⟩
theorem drainZ (hh : A.handled = none) (D : Apart z TI TO its ls) (h0 : 0 < its.length) (h8 : its.length ≤ 8) (cc : Carry C L M S z TI TO its ls n) (hn : n ≤ 100000) (hz : S ≠ z) (h1 : S ≠ TI) (h2 : S ≠ TO) (h3 : S ∉ its) (res : Value) : ∀ (k i : Nat) (s : Shared) (acc : Array Value) (c : Nat), n - i = k → i ≤ n →
    ZSt s.heap z TI TO its ls i → s.heap.get? S = some (lo acc c) → C i acc s.heap → (∀ h' acc' c', h'.get? S = some (lo acc' c') → L acc' h' → R (.ok (.ret res)) { s with heap := h' }) → codeAny (model prog w) A (.builtin "list.extend.loop" ⟨[.ref S, .ref z, res], []⟩) R s := by
  intro k
  induction k with
  | zero =>
    intro i s acc c hk hi Z hS hC hR
    obtain rfl : i = n := by omega
    obtain ⟨l, lr, xs, rfl, hl, hx⟩ := cc.over acc _ hC
    obtain ⟨it, rest, rfl⟩ : ∃ it rest, its = it :: rest := by
      cases its with
      | nil => simp at h0
      | cons a b => exact ⟨a, b, rfl⟩
    refine codeAny_builtin F.entry_extend_loop ?_
    rw [(Around.under_plainId F.plain_extend_loop _ : _ = A.in1)]
    refine wpAny_bind (m := pyNext (.ref z)) (pyNext_end (by exact hh) D Z hl hx fun h' el => ?_)
    exact wpAny_pure (hR h' acc c (el S _ hz h2 h3 hS) (cc.last acc _ h' hC el))
  | succ k ih =>
    intro i s acc c hk hi Z hS hC hR
    have hlt : i < n := by omega
    obtain ⟨vs, v1, v2, v3⟩ := cc.more i acc _ hlt hC
    refine codeAny_builtin F.entry_extend_loop ?_
    rw [(Around.under_plainId F.plain_extend_loop _ : _ = A.in1)]
    refine wpAny_bind (m := pyNext (.ref z)) (pyNext_item D Z v1 h0 (by omega) v2 fun h' Z' t' sz el => ?_)
    have hS' : h'.get? S = some (lo acc c) := el S _ hz h2 h3 hS
    have hC' := v3 h' Z' t' sz el
    have hm := cc.many _ _ _ hC
    refine wpAny_bind (m := updateSeq S (·.push (.ref s.heap.objs.size))) (wpAny_updateSeq (s := { s with heap := h' }) hS' rfl ?_ (by rw [hm, sizeLine_eq]; omega) (by rw [Array.size_push, hm, sizeLine_eq]; omega))
    have same : ∀ b, b ≠ S → (h'.update S (Obj.mapSeq (·.push (.ref s.heap.objs.size)))).get? b = h'.get? b := fun b hb => Heap.get?_update_other _ _ (Ne.symm hb)
    exact wpAny_pure ⟨plainId_quiet F.plain_extend_loop _, ih (i + 1) _ (acc.push (.ref s.heap.objs.size)) _ (by omega) hlt (keepS Z' hz h1 h2 h3 same) (Heap.get?_update_self _ hS' rfl) (cc.put _ _ _ _ _ _ hC' (Heap.size_update ..) same (Heap.get?_update_self _ hS' rfl)) fun h'' acc' c' a b => hR h'' acc' c' a b⟩
abbrev Fin' (prog : Program) (w : World) (A : Around) (R : Result → Shared → Prop) (m : Sem Fin) (s : Shared) : Prop :=
  wpAny (model prog w) A.in1 m (fun fin s' => match fin with | .done f => R (.ok f) s' | .again c' => c'.quiet = true ∧ codeAny (model prog w) A c' R s') (fun e s' => R (.error e) s') s
theorem extZ (hh : A.handled = none) (D : Apart z TI TO its ls) (h0 : 0 < its.length) (h8 : its.length ≤ 8) (cc : Carry C L M S z TI TO its ls n) (hn : n ≤ 100000) (hz : S ≠ z) (h1 : S ≠ TI) (h2 : S ≠ TO) (h3 : S ∉ its) (res : Value) {s : Shared} {c : Nat}
    (Z : ZSt s.heap z TI TO its ls 0) (hS : s.heap.get? S = some (lo #[] c)) (hC : C 0 #[] s.heap) (hR : ∀ h' acc' c', h'.get? S = some (lo acc' c') → L acc' h' → R (.ok (.ret res)) { s with heap := h' }) : Fin' prog w A R (Builtin.List.listExtendWith (.ref S) (.ref z) res) s := by
  have hT : s.TypeIs (.ref z) "zip" := by
    obtain ⟨f0, f1, hf, ho⟩ := Z.z
    exact ⟨_, ho, rfl⟩
  unfold Fin' Builtin.List.listExtendWith
  refine wpAny_bind (wpAny_typeOf hT ?_)
  have e1 : Builtin.List.listSameRef (.ref S) (.ref z) = false := by
    simp [Builtin.List.listSameRef, hz]
  have e2 : (Value.type "zip" == Value.type "list") = false ∧ (Value.type "zip" == Value.type "tuple") = false := ⟨by decide, by decide⟩
  simp only [e1, e2.1, e2.2, Bool.or_false, Bool.false_eq_true, if_false]
  obtain ⟨f0, f1, hf, ho⟩ := id Z.z
  refine wpAny_bind (m := pyIter (.ref z)) (pyIter_z ho ?_)
  refine wpAny_bind (wpAny_holding (by
    unfold Builtin.List.listLengthHint
    refine wpAny_bind (m := specialOf (.ref z) "__len__") (wpAny_specialOf hT zip_len ?_)
    refine wpAny_bind (m := specialOf (.ref z) "__length_hint__") (wpAny_specialOf hT zip_hint ?_)
    exact wpAny_pure (by
      refine wpAny_bind (m := rule "list.extend.makes-room") (wpAny_rule ?_)
      refine wpAny_bind (m := Builtin.List.listTouch (.ref S)) ?_
      have g1 := Heap.get?_update_self (Obj.mapSeq (·.push Value.none)) hS rfl
      have same : ∀ b, b ≠ S → ((s.heap.update S (Obj.mapSeq (·.push Value.none))).update S (Obj.mapSeq (·.pop))).get? b = s.heap.get? b := fun b hb => (Heap.get?_update_other _ _ (Ne.symm hb)).trans (Heap.get?_update_other _ _ (Ne.symm hb))
      refine wpAny_bind (m := updateSeq S (·.push .none)) (wpAny_updateSeq hS rfl (wpAny_updateSeq (hz := by seq_fits) g1 rfl (wpAny_pure ⟨plainId_quiet F.plain_extend_loop _, ?_⟩)))
      exact drainZ hh D h0 h8 cc hn hz h1 h2 h3 res n 0 _ _ _ rfl (Nat.zero_le _) (keepS Z hz h1 h2 h3 same) (Heap.get?_update_self _ g1 rfl) (cc.zero _ _ _ hC ((Heap.size_update ..).trans (Heap.size_update ..)) same (Heap.get?_update_self _ g1 rfl)) hR)))
theorem initZ (hh : A.handled = none) (D : Apart z TI TO its ls) (h0 : 0 < its.length) (h8 : its.length ≤ 8) (cc : Carry C L M S z TI TO its ls n) (hn : n ≤ 100000) (hz : S ≠ z) (h1 : S ≠ TI) (h2 : S ≠ TO) (h3 : S ∉ its) {s : Shared} {c : Nat}
    (Z : ZSt s.heap z TI TO its ls 0) (hS : s.heap.get? S = some (lo #[] c)) (hC : C 0 #[] s.heap) (hR : ∀ h' acc' c', h'.get? S = some (lo acc' c') → L acc' h' → R (.ok (.ret .none)) { s with heap := h' }) : Fin' prog w A R (Builtin.«list.__init__» ⟨[.ref S, .ref z], []⟩) s := by
  show wpAny _ A.in1 (do let old ← Builtin.List.listItems (.ref S); Builtin.List.listUpdate (.ref S) (fun _ => #[]); letGo old.toList.reverse; Builtin.List.listExtendWith (.ref S) (.ref z) .none) _ _ s
  have same : ∀ b, b ≠ S → (s.heap.update S (Obj.mapSeq (fun _ => (#[] : Array Value)))).get? b = s.heap.get? b := fun b hb => Heap.get?_update_other _ _ (Ne.symm hb)
  refine wpAny_bind (m := Builtin.List.listItems (.ref S)) (by
    unfold Builtin.List.listItems
    refine wpAny_bind (wpAny_seqItems hS rfl (wpAny_pure (wpAny_bind (m := updateSeq S (fun _ => #[])) (wpAny_updateSeq hS rfl (wpAny_bind (wpAny_letGo ?_))))))
    exact extZ hh D h0 h8 cc hn hz h1 h2 h3 .none (keepS Z hz h1 h2 h3 same) (Heap.get?_update_self _ hS rfl) (cc.zero _ _ _ hC (Heap.size_update ..) same (Heap.get?_update_self _ hS rfl)) hR)
theorem callZ {E : Value → Shared → Prop} {s : Shared} (hh : A.handled = none) (D : Apart z TI TO its ls) (h0 : 0 < its.length) (h8 : its.length ≤ 8) (hn : n ≤ 100000) (Z : ZSt s.heap z TI TO its ls 0) (cc : Carry C L M s.heap.objs.size z TI TO its ls n)
    (hC : C 0 #[] (s.heap.push (lo #[] 0))) {Q : Value → Shared → Prop} (hQ : ∀ h' acc' c', h'.get? s.heap.objs.size = some (lo acc' c') → L acc' h' → Q (.ref s.heap.objs.size) { s with heap := h' }) : wpAny (model prog w) A (call (.type "list") [.ref z]) Q E s := by
  obtain ⟨f0, f1, hf, ho⟩ := id Z.z
  obtain ⟨old, hl, hTO⟩ := id Z.to
  have hi : s.heap.objs.size ∉ its := fun hm => by
    obtain ⟨k, hk⟩ := List.mem_iff_getElem?.mp hm
    have hkl : k < ls.length := by
      rw [← D.len]
      exact (List.getElem?_eq_some_iff.mp hk).1
    obtain ⟨o, e, _⟩ := Z.its k _ ls[k] hk (List.getElem?_eq_getElem hkl)
    exact Nat.lt_irrefl _ (Heap.lt_size e)
  have hz : s.heap.objs.size ≠ z := fun e => Nat.lt_irrefl _ (e ▸ Heap.lt_size ho)
  have h1 : s.heap.objs.size ≠ TI := fun e => Nat.lt_irrefl _ (e ▸ Heap.lt_size Z.ti)
  have h2 : s.heap.objs.size ≠ TO := fun e => Nat.lt_irrefl _ (e ▸ Heap.lt_size hTO)
  refine callType_codes (Q₁ := fun obj s₁ => obj = .ref s.heap.objs.size ∧ s₁ = { s with heap := s.heap.push (lo #[] 0) }) F.called_list (F.typeCall_list_1 _) F.entry_list_init (code_list_new _ ⟨rfl, rfl⟩) fun obj s₁ e₁ => ?_
  obtain ⟨rfl, rfl⟩ := e₁
  have hS : (s.heap.push (lo #[] 0)).get? s.heap.objs.size = some (lo #[] 0) := Heap.get?_push_size _ rfl
  have keepZ : ZSt (s.heap.push (lo #[] 0)) z TI TO its ls 0 := ⟨⟨f0, f1, hf, Heap.get?_push_of_some _ ho⟩, Heap.get?_push_of_some _ Z.ti, ⟨old, hl, Heap.get?_push_of_some _ hTO⟩, fun j it l a b => (Z.its j it l a b).at fun o q => Heap.get?_push_of_some _ q⟩
  exact ⟨⟨_, hS, rfl⟩, F.args_list_init_2 _ _, initZ (A := A.in1) hh D h0 h8 cc hn hz h1 h2 hi keepZ hS hC fun h' acc' c' a b => ⟨rfl, hQ h' acc' c' a b⟩⟩
end
end LZ
set_option Elab.async false
set_option linter.all false
set_option maxRecDepth 100000
set_option maxHeartbeats 4000000
/-! list(zip(*e)) as a rule. -/
namespace LZ
open PySem PySem.Spec PyProof.Rows L2 ZS
set_option autoImplicit false
abbrev St := L2.St
def colV (xss : List (List V)) (i : Nat) : List V := xss.map fun r => r.getD i .non
def tListZ (K : PySem.W.Frag) (te : TE) : TE := fun σ H Q => te σ H fun x H1 => ∃ (a : Addr) (ls : List Addr) (n : Nat) (xss : List (List V)), x = .ref a ∧ (SqT K H1 a (ls.map V.ref) ∨ SqL K H1 a (ls.map V.ref)) ∧ 0 < ls.length ∧ ls.length ≤ 8 ∧ n ≤ 100000 ∧ xss.length = ls.length ∧
  (∀ (k : Nat) (l : Addr) (xs : List V), ls[k]? = some l → xss[k]? = some xs → SqL K H1 l xs ∧ xs.length = n) ∧
  ∀ (H2 : Hp) (ts : List Addr) (p : Addr), Evl.Ex H1 H2 → ts.length = n → (∀ (i : Nat) (T : Addr), ts[i]? = some T → H1 T = none ∧ H2 T = some (.tup (colV xss i))) → H1 p = none → H2 p = some (.lst (ts.map V.ref)) → Q (.ref p) H2
structure Mid (X : Cx) (pins : List (Addr × Obj)) (σ : St) (H1 : Hp) (s : Shared) (S : Addr) (fp : List Addr) (xss : List (List V)) (i : Nat) (ts : List Addr) (done : Bool) (acc : Array Value) (h : Heap) (H' : Hp) : Prop where
  inv : Inv X pins σ H' { s with heap := h }
  ex : Evl.Ex H1 H'
  len : ts.length = i
  at_ : ∀ (j : Nat) (T : Addr), ts[j]? = some T → H1 T = none ∧ T ≠ S ∧ H' T = some (.tup (colV xss j))
  acc : acc.toList = ts.map Value.ref
  fp : ∀ b ∈ fp, FpOk X pins H' b ∧ b < h.objs.size ∧ b ≠ S
  S : H1 S = none
theorem mid_fp {X : Cx} {pins : List (Addr × Obj)} {H H' : Hp} {b : Addr} (f : FpOk X pins H b) (e : H' b = none) : FpOk X pins H' b := ⟨e, f.2⟩
theorem getD_at {A : Type} {xs : List A} {i : Nat} {d : A} (h : i < xs.length) : xs[i]? = some (xs.getD i d) := by
  rw [List.getD_eq_getElem?_getD, List.getElem?_eq_getElem h]
  rfl
theorem ex_none' {H H' : Hp} (e : Evl.Ex H H') {a : Addr} (h : H' a = none) : H a = none := by
  cases q : H a with
  | none => rfl
  | some o =>
    rw [e a o q] at h
    cases h
/-- the call, once the iterator stands -/
theorem core {X : Cx} {pins : List (Addr × Obj)} {σ : St} {H1 : Hp} {s2 : Shared} {h' : Heap} {z TI TO : Addr} {its ls : List Addr} {n : Nat} {xss : List (List V)} {Q : VK} (hc : X.calm = true) (I3 : Inv X pins σ H1 { s2 with heap := h' }) (D : ZS.Apart z TI TO its ls) (hi0 : 0 < its.length) (hi8 : its.length ≤ 8) (hn : n ≤ 100000) (hxl : xss.length = ls.length)
    (Z : ZSt h' z TI TO its ls 0) (hfp : ∀ b ∈ fpZ z TI TO its, FpOk X pins H1 b ∧ b < h'.objs.size) (rowAt : ∀ (k : Nat) (l : Addr), ls[k]? = some l → ∃ xs, xss[k]? = some xs ∧ SqL X.K H1 l xs ∧ xs.length = n)
    (q : ∀ (H2 : Hp) (ts : List Addr) (p : Addr), Evl.Ex H1 H2 → ts.length = n → (∀ (i : Nat) (T : Addr), ts[i]? = some T → H1 T = none ∧ H2 T = some (.tup (colV xss i))) → H1 p = none → H2 p = some (.lst (ts.map V.ref)) → Q (.ref p) H2) :
    wpAny (model X.prog X.w) X.A (call (.type "list") [.ref z]) (EP X pins σ Q) X.xe { s2 with heap := h' } := by
  have S0 : H1 h'.objs.size = none := I3.hok.fresh (Nat.le_refl _)
  have few : ls.length ≤ 8 := by rw [← D.len]; exact hi8
  refine callZ (s := { s2 with heap := h' }) (n := n) (C := fun i acc h => ∃ ts H', Mid X pins σ H1 s2 h'.objs.size (fpZ z TI TO its) xss i ts true acc h H' ∧ h'.objs.size < h.objs.size ∧ H' h'.objs.size = some (.lst (ts.map V.ref)))
    (L := fun _ h => ∃ (ts : List Addr) (H' : Hp), Inv X pins σ H' { s2 with heap := h } ∧ Evl.Ex H1 H' ∧ ts.length = n ∧ (∀ (j : Nat) (T : Addr), ts[j]? = some T → H1 T = none ∧ H' T = some (.tup (colV xss j))) ∧ H' h'.objs.size = some (.lst (ts.map V.ref)))
    (M := fun i acc x h => ∃ ts T H', x = .ref T ∧ Mid X pins σ H1 s2 h'.objs.size (fpZ z TI TO its) xss (i + 1) (ts ++ [T]) false (acc.push x) h H' ∧ h'.objs.size < h.objs.size ∧ H' h'.objs.size = some (.lst (ts.map V.ref)) ∧ i < n)
    (I3.ok.hd hc) D hi0 hi8 hn Z ⟨fun i acc h hi c => ?_, fun acc h c => ?_, fun i acc x h h2 c m k0 k1 k2 => ?_, fun h h2 c m k0 k1 k2 => ?_, fun acc h h2 m el => ?_, fun i acc h m => ?_⟩ ?_ fun h2 acc c e m => ?_
  · obtain ⟨ts, H', m, hS, hSl⟩ := c
    have tv := turn_vals (i := i) m.inv (colV xss i) ls (by unfold colV; rw [List.length_map, hxl]) fun k l v hk hv => by
      obtain ⟨xs, e1, e2, e3⟩ := rowAt k l hk
      refine ⟨xs, Evl.ex_l m.ex e2, ?_⟩
      unfold colV at hv
      rw [List.getElem?_map, e1] at hv
      rw [getD_at (d := V.non) (by rw [e3]; exact hi)]
      exact hv
    obtain ⟨us, ru, hus⟩ := tv
    have hul : us.length = its.length := by
      rw [← ru.length, D.len]
      unfold colV
      rw [List.length_map, hxl]
    refine ⟨us, hul, hus, fun h3 Z3 t3 sz3 el3 => ?_⟩
    have new : ObjOk X.prog X.w (upd H' h.objs.size (.tup (colV xss i))) h3 h.objs.size (.tup (colV xss i)) := ⟨by
      unfold colV
      rw [List.length_map, hxl, sizeLine_eq]
      omega, us, ru, ⟨_, t3, rfl, _, rfl⟩⟩
    have hfr : H' h.objs.size = none := m.inv.hok.fresh (Nat.le_refl _)
    have I4 : Inv X pins σ (upd H' h.objs.size (.tup (colV xss i))) { s2 with heap := h3 } :=
      m.inv.turnedNew (t' := s2.toks) (ch := fpZ z TI TO its) (fun c o hb q => el3 c o (fun w => hb (by simp [fpZ, w])) (fun w => hb (by simp [fpZ, w])) (fun w => hb (by simp [fpZ, w])) q) (fun b hb => (m.fp b hb).1) (Nat.le_refl _) new
    refine ⟨ts, h.objs.size, upd H' h.objs.size (.tup (colV xss i)), rfl, ⟨I4, m.ex.trans (Evl.Ex.new hfr), ?_, fun j T hj => ?_, ?_, fun b hb => ?_, m.S⟩, by omega, ?_⟩
    · rw [List.length_append, m.len, List.length_singleton]
    · by_cases hjl : j < ts.length
      · rw [List.getElem?_append_left hjl] at hj
        obtain ⟨q1, q2, q3⟩ := m.at_ j T hj
        exact ⟨q1, q2, by rw [upd_ne (ne_of_none q3 hfr)]; exact q3⟩
      · rw [List.getElem?_append_right (by omega)] at hj
        have e0 : j - ts.length = 0 := by
          cases ek : j - ts.length with
          | zero => rfl
          | succ k =>
            rw [ek] at hj
            simp at hj
        rw [e0] at hj
        have eT : h.objs.size = T := by simpa using hj
        subst eT
        have ej : j = i := by
          have := m.len
          omega
        subst ej
        exact ⟨ex_none' m.ex hfr, fun w => Nat.lt_irrefl _ (w ▸ hS), upd_same⟩
    · rw [Array.toList_push, m.acc, List.map_append, List.map_singleton]
    · obtain ⟨f1, f2, f3⟩ := m.fp b hb
      exact ⟨mid_fp f1 (by rw [upd_ne (Nat.ne_of_lt f2)]; exact f1.1), by rw [sz3]; exact Nat.lt_succ_of_lt f2, f3⟩
    · exact ⟨by rw [upd_ne (Nat.ne_of_lt hS)]; exact hSl, hi⟩
  · obtain ⟨ts, H', m, hS, hSl⟩ := c
    cases ls with
    | nil =>
      have w := D.len
      rw [List.length_nil] at w
      omega
    | cons l lr =>
      obtain ⟨xs, e1, e2, e3⟩ := rowAt 0 l rfl
      obtain ⟨its', rv', pl, _⟩ := m.inv.list (Evl.ex_l m.ex e2)
      have := rv'.length
      exact ⟨l, lr, its'.toArray, rfl, pl.isList, by simp; omega⟩
  · obtain ⟨ts, T, H', rfl, mm, hS, hSl, hi⟩ := m
    have vv : ∀ ts : List Addr, Vals (ts.map V.ref) (ts.map Value.ref) := by
      intro ts
      induction ts with
      | nil => exact .nil
      | cons a b ih => exact .cons rfl ih
    have I4 : Inv X pins σ (upd H' h'.objs.size (.lst ((ts ++ [T]).map V.ref))) { s2 with heap := h2 } := mm.inv.write (t' := s2.toks) (x := h'.objs.size) (e := h'.objs.size) (by rw [hSl]; trivial) (.inl rfl) (fun b u hb w => by rw [k1 b hb]; exact w) ⟨_, k2⟩ ⟨by
      rw [List.length_map, mm.len, sizeLine_eq]
      omega, (ts ++ [T]).map Value.ref, c, vv _, by rw [k2, ← mm.acc, Array.toArray_toList]; rfl⟩
    refine ⟨ts ++ [T], _, ⟨I4, fun b o w => ?_, mm.len, fun j T' hj => ?_, mm.acc, fun b hb => ?_, mm.S⟩, by omega, upd_same⟩
    · rw [upd_ne (ne_of_none w mm.S)]
      exact mm.ex b o w
    · obtain ⟨q1, q2, q3⟩ := mm.at_ j T' hj
      exact ⟨q1, q2, by rw [upd_ne q2]; exact q3⟩
    · obtain ⟨f1, f2, f3⟩ := mm.fp b hb
      exact ⟨mid_fp f1 (by rw [upd_ne f3]; exact f1.1), by rw [k0]; exact f2, f3⟩
  · obtain ⟨ts, H', mm, hS, hSl⟩ := m
    have et : ts = [] := List.eq_nil_of_length_eq_zero mm.len
    subst et
    have I4 : Inv X pins σ (upd H' h'.objs.size (.lst [])) { s2 with heap := h2 } := mm.inv.write (t' := s2.toks) (x := h'.objs.size) (e := h'.objs.size) (by rw [hSl]; trivial) (.inl rfl) (fun b u hb w => by rw [k1 b hb]; exact w) ⟨_, k2⟩ ⟨Nat.zero_le _, [], c, .nil, k2⟩
    refine ⟨[], _, ⟨I4, fun b o w => ?_, rfl, fun j T' hj => ?_, rfl, fun b hb => ?_, mm.S⟩, by omega, upd_same⟩
    · rw [upd_ne (ne_of_none w mm.S)]
      exact mm.ex b o w
    · simp at hj
    · obtain ⟨f1, f2, f3⟩ := mm.fp b hb
      exact ⟨mid_fp f1 (by rw [upd_ne f3]; exact f1.1), by rw [k0]; exact f2, f3⟩
  · obtain ⟨ts, H', mm, hS, hSl⟩ := m
    have I4 : Inv X pins σ H' { s2 with heap := h2 } := mm.inv.turnedL (s := { s2 with heap := h }) (t' := s2.toks) (ch := fpZ z TI TO its) (fun c o hb q => el c o (fun w => hb (by simp [fpZ, w])) (fun w => hb (by simp [fpZ, w])) (fun w => hb (by simp [fpZ, w])) q) fun b hb => (mm.fp b hb).1
    exact ⟨ts, H', I4, mm.ex, mm.len, fun j T hT => ⟨(mm.at_ j T hT).1, (mm.at_ j T hT).2.2⟩, hSl⟩
  · obtain ⟨ts, H', mm, hS, hSl⟩ := m
    have := congrArg List.length mm.acc
    rw [Array.length_toList, List.length_map, mm.len] at this
    exact this
  · have I4 : Inv X pins σ (upd H1 h'.objs.size (.lst [])) { s2 with heap := h'.push (lo #[] 0) } := I3.lnew (its := []) (t' := s2.toks) .nil (Nat.zero_le _)
    refine ⟨[], _, ⟨I4, Evl.Ex.new S0, rfl, fun j T hj => ?_, rfl, fun b hb => ?_, S0⟩, by rw [Heap.size_push]; exact Nat.lt_succ_self _, upd_same⟩
    · simp at hj
    · obtain ⟨f1, f2⟩ := hfp b hb
      exact ⟨mid_fp f1 (by rw [upd_ne (Nat.ne_of_lt f2)]; exact f1.1), by rw [Heap.size_push]; exact Nat.lt_succ_of_lt f2, Nat.ne_of_lt f2⟩
  · obtain ⟨ts, H', mI, mE, mL, mA, hSl⟩ := m
    exact ⟨.ref h'.objs.size, H', mI, rfl, q H' ts _ mE mL mA S0 hSl⟩
theorem pe_listZ {X : Cx} {e : Expr} {te : TE} {p p2 p3 pos pos2 : Pos} (hc : X.calm = true) (hg : Gl X "list") (hm : X.mg "list" = none) (hg2 : Gl X "zip") (hm2 : X.mg "zip" = none) (he : PE X e te)
    (hst : starEach [.Starred e p3] X.env = [(true, eval e X.env)] := by rfl)
    (hs2 : starEach [.Call (.Name "zip" p2) [.Starred e p3] [] pos2] X.env = (false, eval (.Call (.Name "zip" p2) [.Starred e p3] [] pos2) X.env) :: starEach [] X.env := by rfl) :
    PE X (.Call (.Name "list" p) [.Call (.Name "zip" p2) [.Starred e p3] [] pos2] [] pos) (tListZ X.K te) := by
  refine ⟨fun pins s σ H Q I h => ?_⟩
  refine Call_ (ld_blt I hg hm PyProof.Rows.boot_list (PyProof.Rows.callWith_type1 (args_cons (Call_ (ld_blt I hg2 hm2 PyProof.Rows.boot_zip (callWith_typeStar (thn (he.run pins s σ H _ I h) fun v s1 ⟨y, H1, I1, ry, q1⟩ => ?_) hst))) hs2) hs2 rfl))
  obtain ⟨a, ls, n, xss, ey, hx, h0, h8, hn, hxl, hxs, q⟩ := q1
  subst ey
  obtain rfl : v = Value.ref a := ry
  refine StX.star_any I1 hx fun us s2 I2 rv => ?_
  have eu := refs_of rv
  subst eu
  have rowAt : ∀ (k : Nat) (l : Addr), ls[k]? = some l → ∃ xs, xss[k]? = some xs ∧ SqL X.K H1 l xs ∧ xs.length = n := fun k l hk => by
    have hk2 : k < xss.length := by
      rw [hxl]
      exact (List.getElem?_eq_some_iff.mp hk).1
    obtain ⟨a1, a2⟩ := hxs k l _ hk (List.getElem?_eq_getElem hk2)
    exact ⟨_, List.getElem?_eq_getElem hk2, a1, a2⟩
  have hls : ∀ l ∈ ls, (∃ xs, s2.heap.IsList l xs) ∧ l < s2.heap.objs.size := fun l hm => by
    obtain ⟨k, hk⟩ := List.mem_iff_getElem?.mp hm
    obtain ⟨xs, _, hq, _⟩ := rowAt k l hk
    obtain ⟨its, _, pl, _⟩ := I2.list hq
    exact ⟨⟨_, pl.isList⟩, pl.lt⟩
  refine call_zip h0 h8 (fun l hm => (hls l hm).1) fun h' Z hsz hk => args_nil ?_
  refine core hc (I2.kept (t' := s2.toks) hk) (apart_new s2.heap ls fun l hm => (hls l hm).2) (by simpa using h0) (by simpa using h8) hn hxl Z (fun b hb => ?_) rowAt q
  have key : ∀ x : Nat, x ∈ fpZ (s2.heap.objs.size + ls.length + 2) (s2.heap.objs.size + ls.length) (s2.heap.objs.size + ls.length + 1) (itsOf s2.heap ls) → s2.heap.objs.size ≤ x ∧ x < s2.heap.objs.size + ls.length + 3 := fun x hx => by
    rcases List.mem_cons.mp hx with w | hx
    · omega
    · rcases List.mem_cons.mp hx with w | hx
      · omega
      · rcases List.mem_cons.mp hx with w | hx
        · omega
        · have w := List.mem_range'_1.mp hx
          omega
  have hle := key b hb
  exact ⟨I2.fpOk hle.1 (I2.hok.fresh hle.1), by rw [hsz]; exact hle.2⟩
end LZ
set_option Elab.async false
set_option linter.all false
set_option maxRecDepth 100000
set_option maxHeartbeats 4000000
/-! list(zip(*e)) told by a function. -/
namespace FX
open PySem PySem.Spec PyProof.Rows L2 Evl DL
set_option autoImplicit false
variable [Kn]
section
variable {tl : TE} {f : De → Option PyData}
def lzS (f : De → Option PyData) : De → Option PyData := fun ds => match f ds with
  | some (.list xs) => match rowsOf xs with
    | some rs => if 0 < rs.length ∧ rs.length ≤ 8 ∧ (rs.headD []).length ≤ 100000 ∧ rs.all (fun r => r.length == (rs.headD []).length) = true then some (.list (colsD rs (rs.headD []).length)) else none
    | none => none
  | _ => none
theorem rpAll_tups {N : Hp} : ∀ (ts : List Addr) (cs : List PyData), ts.length = cs.length → (∀ (i : Nat) (T : Addr) (d : PyData), ts[i]? = some T → cs[i]? = some d → Rp N (.ref T) d) → RpAll N (ts.map V.ref) cs
  | [], [], _, _ => .nil
  | [], _ :: _, h, _ => by simp at h
  | _ :: _, [], h, _ => by simp at h
  | T :: ts, d :: cs, h, k => .cons (k 0 T d rfl rfl) (rpAll_tups ts cs (by simpa using h) fun i T' d' a b => k (i + 1) T' d' a b)
theorem fe_listZ (h : FE tl f) : FE (LZ.tListZ KK tl) (lzS f) := fun ds z e σ N hs H eN Q k => by
  unfold lzS at e
  split at e
  · rename_i xs _
    cases q : rowsOf xs with
    | none =>
      rw [q] at e
      cases e
    | some rs =>
      rw [q] at e
      simp only at e
      split at e
      · rename_i w
        obtain ⟨w0, w8, wn, wl⟩ := w
        cases e
        have ex := rowsOf_is q
        subst ex
        have hm : ∀ r ∈ rs, r.length = (rs.headD []).length := fun r hr => by simpa using List.all_eq_true.mp wl r hr
        generalize (rs.headD []).length = m at hm k wn
        refine h ds _ ‹_› σ N hs H eN _ fun v H1 N1 e1 n1 k1 g1 r1 => ?_
        cases r1 with
        | @lst a vs _ hr hall =>
          obtain ⟨ls, xss, ev, el1, el2, hrow⟩ := rp_lists hall
          subst ev
          have hrd : ∀ (k : Nat) (l : Addr) (xs : List V), ls[k]? = some l → xss[k]? = some xs → ∃ r, rs[k]? = some r ∧ SqL KK N1 l xs ∧ RpAll N1 xs r := fun k l xs hk hx => by
            have hk2 : k < rs.length := by
              rw [← el1]
              exact (List.getElem?_eq_some_iff.mp hk).1
            have hy : rs[k]? = some rs[k] := List.getElem?_eq_getElem hk2
            obtain ⟨p1, p2⟩ := hrow k l _ _ hk hx hy
            exact ⟨_, hy, p1, p2⟩
          refine ⟨a, ls, m, xss, rfl, .inr (ex_l k1 hr), by omega, by omega, wn, by omega, fun k l xs hk hx => ?_, fun H2 ts p hE hts hT hp0 hp => ?_⟩
          · obtain ⟨r, p0, p1, p2⟩ := hrd k l xs hk hx
            exact ⟨ex_l k1 p1, by rw [p2.length, hm r (List.mem_of_getElem? p0)]⟩
          · have hx : Ex (HU N1 (only H2 (p :: ts))) H2 := hu_in (k1.trans hE) (only_ex _ _)
            have hr' : Ex (only H2 (p :: ts)) (HU N1 (only H2 (p :: ts))) := hu_r (k1.trans hE) (only_ex _ _)
            have low : ∀ c ∈ p :: ts, H1 c = none := fun c hc => by
              rcases List.mem_cons.mp hc with y | y
              · rw [y]
                exact hp0
              · obtain ⟨i, hi⟩ := List.mem_iff_getElem?.mp y
                exact (hT i c hi).1
            refine k (.ref p) H2 (HU N1 (only H2 (p :: ts))) (e1.trans hE) (n1.trans (hu_l _ _)) hx (fun c hc => ?_) ?_
            · rcases hu_reg hc with y | y
              · exact g1 c y
              · by_cases u : c ∈ p :: ts
                · exact .inr (ex_none e1 (low c u))
                · rw [only_out u] at y
                  exact absurd rfl y
            · refine .lst (.inl (.inl (hr' p _ (by rw [only_in (List.mem_cons_self ..), hp])))) (rpAll_tups ts _ (by rw [hts]; simp [colsD]) fun i T d a b => ?_)
              have hi : i < m := by
                have := (List.getElem?_eq_some_iff.mp b).1
                simpa [colsD] using this
              have ed : d = .tuple (colD rs i) := by
                unfold colsD at b
                rw [List.getElem?_map, List.getElem?_range hi] at b
                exact (Option.some.inj b).symm
              subst ed
              have hTm : T ∈ p :: ts := List.mem_cons_of_mem _ (List.mem_of_getElem? a)
              refine .tup (.inl (hr' T (.tup (LZ.colV xss i)) (by rw [only_in hTm]; exact (hT i T a).2))) ?_
              refine RpAll.mono (N := N1) (hu_l _ _) ?_
              refine rp_col _ _ (by simp [colD, LZ.colV, el2]) fun k v d e2 e3 => ?_
              unfold LZ.colV at e2
              rw [List.getElem?_map] at e2
              have hk2 : k < xss.length := by
                cases u : xss[k]? with
                | none =>
                  rw [u] at e2
                  cases e2
                | some _ => exact (List.getElem?_eq_some_iff.mp u).1
              have hk1 : k < ls.length := by omega
              rw [List.getElem?_eq_getElem hk2] at e2
              obtain ⟨r, p0, p1, p2⟩ := hrd k ls[k] _ (List.getElem?_eq_getElem hk1) (List.getElem?_eq_getElem hk2)
              have hl : i < r.length := by rw [hm r (List.mem_of_getElem? p0)]; exact hi
              have hl2 : i < (xss[k]).length := by rw [p2.length]; exact hl
              have e4 : v = xss[k][i] := by
                have e7 := Option.some.inj e2
                rw [← e7]
                show (xss[k]).getD i V.non = _
                rw [List.getD_eq_getElem?_getD, List.getElem?_eq_getElem hl2]
                rfl
              have e6 : d = r[i] := by
                unfold colD at e3
                rw [List.getElem?_map, p0] at e3
                have e7 := Option.some.inj e3
                rw [← e7]
                show r.getD i PyData.none = r[i]
                rw [List.getD_eq_getElem?_getD, List.getElem?_eq_getElem hl]
                rfl
              obtain ⟨v', e5, rv⟩ := p2.get (List.getElem?_eq_getElem hl)
              rw [List.getElem?_eq_getElem hl2] at e5
              rw [e4, e6, Option.some.inj e5]
              exact rv
      · cases e
  · cases e
end
theorem k_listZ {X : Cx} {K : PySem.W.Frag} {e : Expr} {te : TE} {p p2 p3 pos pos2 : Pos} (hc : X.calm = true) (hg : Gl X "list") (hm : X.mg "list" = none) (hg2 : Gl X "zip") (hm2 : X.mg "zip" = none) (he : PE X e te) (hK : X.K = K := by rfl)
    (hst : starEach [.Starred e p3] X.env = [(true, eval e X.env)] := by rfl)
    (hs2 : starEach [.Call (.Name "zip" p2) [.Starred e p3] [] pos2] X.env = (false, eval (.Call (.Name "zip" p2) [.Starred e p3] [] pos2) X.env) :: starEach [] X.env := by rfl) :
    PE X (.Call (.Name "list" p) [.Call (.Name "zip" p2) [.Starred e p3] [] pos2] [] pos) (LZ.tListZ K te) := by
  subst hK
  exact LZ.pe_listZ hc hg hm hg2 hm2 he hst hs2
end FX
set_option Elab.async false
set_option linter.all false
set_option maxRecDepth 100000
set_option maxHeartbeats 4000000
/-! Defs that take a thing over; returns that share; the last item taken away; items moved. -/
namespace FX
open PySem PySem.Spec PyProof.Rows L2 Evl DL
set_option autoImplicit false
variable [Kn]
section
variable {pv : Nat → Option V} {os : List Nat} {rc : Nat} {cm : String → Addr} {W : WX} {E : XK} {te tc tk : TE} {ta tr : TA} {f : De → Option PyData} {fr : De → Option Ob} {fk : De → Option PyData} {fa : De → Option (List PyData)} {fp : De → Option (List Int)} {i : Nat}
theorem Hg.agree {N N' H H' : Hp} {σ : St} {ds : De} {F : Fp} (g : Hg pv N H σ ds os F) (hA : ∀ j, ∀ a ∈ F j, H' a = H a) (e : Ex N N') (o : ∀ j, ∀ a ∈ F j, N' a = none) : Hg pv N' H' σ ds os F := ⟨g.len, fun j d q => by
  obtain ⟨v, e1, r⟩ := g.at_ j d q
  exact ⟨v, e1, (r.agree fun a ha => hA j a ha).monoN e⟩, g.fr, g.nd, g.dj, o, fun j a ha => by
  rw [hA j a ha]
  exact g.th j a ha, g.pin, g.pno⟩
/-! whatever the slots own is shared with what is handed back -/
def kRetG (os : List Nat) : Ob → De → Option GO := fun r ds => match r with
  | .ok d => some (.rt d (hideD os ds))
  | .error e => some (.er e ds)
def sRetG (os : List Nat) (f : De → Option Ob) : De → Option GO := fun ds => match f ds with
  | some r => kRetG os r ds
  | none => none
theorem hg_shared {N H N1 H1 : Hp} {σ : St} {ds : De} {F : Fp} (g : Hg pv N H σ ds os F) (e : Ex (lump N H F) N1) : Hg pv N1 H1 σ (hideD os ds) os (fun _ => []) := ⟨by rw [hideD_len]; exact g.len, fun j d q => by
  obtain ⟨e1, e2⟩ := hideD_at os ds j d q
  obtain ⟨v, e3, r⟩ := g.at_ j d e1
  obtain ⟨r1, r2⟩ := r.leafOf (g.fr j e2)
  exact ⟨v, e3, .leaf r1 (r2.mono (lump_ex.trans e))⟩, fun _ _ => rfl, fun _ => List.nodup_nil, fun _ _ _ _ z => (nomatch z), fun _ _ z => (nomatch z), fun _ _ z => (nomatch z), g.pin, g.pno⟩
theorem stp_shared {N H N1 H1 : Hp} {F : Fp} (e1 : Ex H H1) (n1 : Ex (lump N H F) N1) (k1 : Ex N1 H1) (g1 : Reg (lump N H F) H N1) : Stp N H F N1 H1 (fun _ => []) := ⟨lump_ex.trans n1, k1, fun a h => by
  cases q : H a with
  | none => exact absurd (.inl q) h
  | some o => exact e1 a o q, fun a h => by
  rcases g1 a h with z | z
  · exact (lump_reg z).imp id fun y => .inr y
  · exact .inr (.inl z), fun _ _ z => nomatch z⟩
theorem fs_retG (hr : rc = 0) (h : FR cm W te fr) : FS os rc cm W (tRet te) (sRetG os fr) := fun ds o e pv σ N H F g eN D a => by
  subst hr
  unfold sRetG at e
  split at e
  · rename_i r hr
    cases r with
    | ok d =>
      cases e
      refine (h ds _ hr).1 d rfl σ _ g.holds H (lump_in eN) _ fun v H1 N1 e1 n1 k1 g1 r1 => ?_
      exact a v σ N1 H1 _ [] (stp_shared e1 n1 k1 g1) (hg_shared g n1) (.leaf rfl r1) Apt.nil
    | error x =>
      cases e
      exact use_er g eN ((h ds _ hr).2 x rfl) fun H' o S e1 p nd fr => a σ N H' F o S (Stp.grow eN e1) (g.mono e1) p (apt_new g eN nd fr)
  · cases e
/-! a promise of a def that takes the m-th thing over -/
def spC (m c : Nat) (f : List PyData → Option PyData) : Sp := fun vs H Q _ => ∃ (N : Hp) (S : List Addr) (ds : List PyData) (d : PyData) (vm : V) (dm : PyData), Ex N H ∧ AR N vm dm (some m) vs ds ∧ Ow N H c vm dm S ∧ S.Nodup ∧ (∀ a ∈ S, N a = none) ∧ f ds = some d ∧
  ∀ v N' H', Stp N H (ownF m S) N' H' (fun _ => []) → Rp N' v d → Q v H'
def outC : Option GO → Option PyData
  | some (.nx _) => some .none
  | some (.rt d _) => some d
  | _ => none
def runC (n : Nat) (g : De → Option GO) : List PyData → Option PyData := fun es => outC (g (startD n es))
def onlyC (n : Nat) (f : List PyData → Option PyData) : List PyData → Option PyData := fun es => if es.length = n then f es else none
theorem onlyC_is {n : Nat} {f : List PyData → Option PyData} {es : List PyData} {r : PyData} (h : onlyC n f es = some r) : es.length = n ∧ f es = some r := by
  unfold onlyC at h
  split at h
  · exact ⟨‹_›, h⟩
  · cases h
theorem spC_only {m c n : Nat} {f : List PyData → Option PyData} {vs : List V} {H : Hp} {Q : VK} (h : spC m c (onlyC n f) vs H Q E) : vs.length = n ∧ spC m c f vs H Q E := by
  obtain ⟨N, S, ds, d, vm, dm, a1, a2, a3, a4, a5, a6, a7⟩ := h
  obtain ⟨c1, c2⟩ := onlyC_is a6
  exact ⟨by rw [a2.length]; exact c1, N, S, ds, d, vm, dm, a1, a2, a3, a4, a5, c2, a7⟩
theorem lenC {m c n : Nat} {f : List PyData → Option PyData} : ∀ vs H Q E, spC m c (onlyC n f) vs H Q E → vs.length = n := fun vs H Q E h => (spC_only h).1
theorem body_C {t : TS} {g : De → Option GO} {names : List Str} {vs : List V} {H : Hp} {Q : VK} {n m c : Nat} (hs : FS os 0 cm W t g) (hn : names.length = n) (hm : os.getD m 0 = c) (hc : c ≠ 0) (ho : ∀ i, pinned (os.getD i 0) = false) (h0 : ∀ i, i < vs.length → i ≠ m → os.getD i 0 = 0) (h : spC m c (runC n g) vs H Q E) :
    t { nx := fun _ H' => Q .non H', rt := Q, bk := fun _ _ => False, ct := fun _ _ => False } (L2.start names vs) H := by
  subst hn
  obtain ⟨N, S, es, d, vm, dm, eN, ar, ow, nd, nS, hf, q⟩ := h
  have hl := ar.length
  have atm := ar.there rfl
  have sv : ∀ i v, vs[i]? = some v → (L2.start names vs)[i]? = some (some v) := fun i v hv => by
    unfold L2.start
    obtain ⟨lt, _⟩ := List.getElem?_eq_some_iff.mp hv
    rw [List.getElem?_append_left (by rw [List.length_map]; exact lt), List.getElem?_map, hv]
    rfl
  have g0 : Hg (fun _ => none) N H (L2.start names vs) (startD names.length es) os (ownF m S) := by
    refine ⟨by unfold L2.start startD; simp [hl], fun i d' q' => ?_, fun i hi => ?_, fun i => ?_, fun i j hij a ha hb => ?_, fun i a ha => ?_, fun i a ha => ?_, fun i v hv => (nomatch hv), fun i hi => rfl⟩
    · have hi : i < es.length := by
        refine Nat.lt_of_not_le fun z => ?_
        unfold startD at q'
        rw [List.getElem?_append_right (by rw [List.length_map]; omega), List.getElem?_replicate] at q'
        split at q'
        · cases Option.some.inj q'
        · cases q'
      have q2 : es[i]? = some d' := by
        unfold startD at q'
        rw [List.getElem?_append_left (by rw [List.length_map]; exact hi), List.getElem?_map] at q'
        cases z : es[i]? with
        | none =>
          rw [z] at q'
          cases q'
        | some x =>
          rw [z] at q'
          exact Option.some.inj q'
      obtain ⟨v, e1, e2⟩ := ar.at_ i d' q2
      refine ⟨v, sv i v e1, ?_⟩
      rcases e2 with ⟨e3, rfl, rfl⟩ | ⟨e3, r⟩
      · cases e3
        rw [ownF_same, hm]
        exact ow
      · have ne : i ≠ m := fun z => e3 (by rw [z])
        rw [ownF_ne ne, h0 i (by rw [hl]; exact hi) ne]
        exact .leaf rfl r
    · by_cases z : i = m
      · subst z
        rw [hm] at hi
        exact absurd hi hc
      · exact ownF_ne z
    · by_cases z : i = m
      · subst z
        rw [ownF_same]
        exact nd
      · rw [ownF_ne z]
        exact List.nodup_nil
    · by_cases z : i = m
      · subst z
        rw [ownF_ne (fun y => hij y.symm)] at hb
        cases hb
      · rw [ownF_ne z] at ha
        cases ha
    · by_cases z : i = m
      · subst z
        rw [ownF_same] at ha
        exact nS a ha
      · rw [ownF_ne z] at ha
        cases ha
    · by_cases z : i = m
      · subst z
        rw [ownF_same] at ha
        exact ow.there a ha
      · rw [ownF_ne z] at ha
        cases ha
  unfold runC at hf
  cases e : g (startD names.length es) with
  | none =>
    rw [e] at hf
    cases hf
  | some o =>
    rw [e] at hf
    refine hs _ o e _ _ N H _ g0 eN _ ?_
    cases o with
    | nx ds =>
      cases hf
      exact fun σ' N' H' F' s g' => q .non N' H' ⟨s.n, s.k, s.un, s.ng, fun _ _ z => nomatch z⟩ .non
    | rt d1 ds =>
      cases hf
      refine fun v σ' N' H' F' T s g' r p => ?_
      have hx : Ex (HU N' (only H' T)) H' := hu_in s.k (only_ex _ _)
      refine q v (HU N' (only H' T)) H' ⟨s.n.trans (hu_l _ _), hx, s.un, fun a ha => ?_, fun _ _ z => nomatch z⟩ (r.rp (hu_l _ _) fun a ha => ?_)
      · rcases hu_reg ha with z | z
        · exact s.ng a z
        · by_cases w : a ∈ T
          · exact .inr (p.wr a w)
          · rw [only_out w] at z
            exact absurd rfl z
      · have z := hu_r (A := N') s.k (only_ex H' T)
        cases w : H' a with
        | none => exact absurd w (r.there a ha)
        | some o => exact z a o (by rw [only_in ha, w])
    | er x ds => cases hf
    | bk ds => cases hf
    | ct ds => cases hf
theorem done_C {t : TS} {g : De → Option GO} {names : List Str} {vs : List V} {H : Hp} {Q : VK} {n np m c : Nat} (h : spC m c (onlyC np (runC n g)) vs H Q E) (hn : names.length = n) (hm : os.getD m 0 = c) (hc : c ≠ 0) (hl : os.all (fun c => !pinned c) = true) (h0 : ((os.set m 0).take np).all (fun c => c == 0) = true) (hs : FS os 0 cm W t g) :
    t { nx := fun _ H' => Q .non H', rt := Q, bk := fun _ _ => False, ct := fun _ _ => False } (L2.start names vs) H := by
  obtain ⟨h1, h2⟩ := spC_only h
  have ne : ∀ i, i ≠ m → (os.set m 0).getD i 0 = os.getD i 0 := fun i hi => by
    rw [List.getD_eq_getElem?_getD, List.getD_eq_getElem?_getD, List.getElem?_set_ne (fun z => hi z.symm)]
  exact body_C hs hn hm hc (no_pin hl) (fun i hi hm' => by rw [← ne i hm']; exact first0 h0 i (by omega)) h2
/-! such calls: the slot i is given away -/
def cC (i : Nat) (f : List PyData → Option PyData) (fa : De → Option (List PyData)) : De → Option (PyData × De) := fun ds => match fa ds with
  | some es => match f es with
    | some d => some (d, ds.set i none)
    | none => none
  | none => none
theorem fc_callC {m c : Nat} {f : List PyData → Option PyData} (hi : os.getD i 0 = c) (hl : ∀ ds, fa ds ≠ none → ∃ d, eV i ds = some d) (h : FAm os i (some m) ta fa) : FC os (tCall (spC m c f) [] E ta) (cC i f fa) := fun ds d ds' e pv σ N H F g eN Q q => by
  subst hi
  unfold cC at e
  split at e
  · rename_i es hes
    split at e
    · rename_i d1 hf
      cases e
      obtain ⟨d0, h0⟩ := hl ds (by rw [hes]; intro z; cases z)
      obtain ⟨v0, hv0, ow⟩ := g.at_ i d0 (eV_is h0)
      refine h ds es hes pv σ N H F g eN v0 d0 (fun _ _ => ⟨hv0, h0⟩) _ fun vs N1 H1 s1 g1 ar => ?_
      obtain ⟨v0', hv0', ow1⟩ := g1.at_ i d0 (eV_is h0)
      rw [hv0] at hv0'
      cases hv0'
      refine ⟨N1, F i, es, _, v0, d0, s1.k, by rw [List.append_nil]; exact ar, ow1, g1.nd i, g1.ou i, hf, fun v N2 H2 s2 rT => ?_⟩
      have up : ∀ {a}, Wr H1 (ownF m (F i)) a → Wr H1 F a := fun w => (wr_own w).imp id fun z => ⟨i, z⟩
      have off : ∀ j, ∀ b ∈ F.put i [] j, ¬ Wr H1 (ownF m (F i)) b := fun j b hb w => by
        by_cases z : j = i
        · subst z
          rw [Fp.put_same] at hb
          cases hb
        · rw [Fp.put_ne z] at hb
          exact (wr_own w).elim (g1.th j b hb) fun y => g1.dj j i z b hb y
      have g2 := g1.drop (i := i)
      refine q v N2 H2 (F.put i []) (s1.trans ⟨s2.n, s2.k, fun a ha => s2.un a fun w => ha (up w), fun a ha => (s2.ng a ha).imp id up, fun j b hb => ?_⟩) (g2.agree (fun j a ha => s2.un a (off j a ha)) s2.n fun j a ha => ?_) rT
      · by_cases z : j = i
        · subst z
          rw [Fp.put_same] at hb
          cases hb
        · rw [Fp.put_ne z] at hb
          exact .inr ⟨j, hb⟩
      · cases z : N2 a with
        | none => rfl
        | some o =>
          rcases s2.ng a (by rw [z]; intro y; cases y) with y | y
          · exact absurd (g2.ou j a ha) y
          · exact absurd y (off j a ha)
    · cases e
  · cases e
def sRetC (m : De → Option (PyData × De)) : De → Option GO := fun ds => match m ds with
  | some (d, ds') => some (.rt d ds')
  | none => none
theorem fs_retC {mf : De → Option (PyData × De)} (hr : rc = 0) (h : FC os te mf) : FS os rc cm W (tRet te) (sRetC mf) := fun ds o e pv σ N H F g eN D a => by
  subst hr
  unfold sRetC at e
  split at e
  · rename_i d ds1 e1
    cases e
    exact h ds d ds1 e1 pv σ N H F g eN _ fun v N1 H1 F1 s1 g1 r1 => a v σ N1 H1 F1 [] s1 g1 (.leaf rfl r1) Apt.nil
  · cases e
/-! .. or a wholly new thing is -/
def FAc (k : Option Nat) (ta : TA) (fa : De → Option (List PyData)) : Prop := ∀ ds es, fa ds = some es → ∀ σ N, Holds N σ ds → ∀ H, Ex N H → ∀ Q : List V → Hp → Prop,
  (∀ vs H' N' v0 d0 S, Ex H H' → Ex N N' → Ex N' H' → Reg N H N' → Ow nilH H' 3 v0 d0 S → S.Nodup → (∀ a ∈ S, H a = none ∧ N' a = none) → AR N' v0 d0 k vs es → Q vs H') → ta σ H Q
theorem fac_last {f : De → Option PyData} (h : FN te f) : FAc (some 0) (tCons te tNil) (aC f aN) := fun ds es e σ N hs H eN Q q => by
  obtain ⟨d, r, h1, h2, rfl⟩ := aC_is e
  cases h2
  exact h ds d h1 σ N hs H eN _ fun v H' S e1 r nd fr => q [v] H' N v d S e1 (Ex.refl N) (eN.trans e1) Reg.refl r nd (fun a ha => ⟨fr a ha, ex_none eN (fr a ha)⟩) (.own .nil)
theorem fac_bef {k : Nat} {f : De → Option PyData} (h : FE te f) (h' : FAc (some k) tr fa) : FAc (some (k + 1)) (tCons te tr) (aC f fa) := fun ds es e σ N hs H eN Q q => by
  obtain ⟨d, r, h1, h2, rfl⟩ := aC_is e
  exact h ds d h1 σ N hs H eN _ fun v H1 N1 e1 n1 k1 g1 r1 => h' ds r h2 σ N1 (hs.mono n1) H1 k1 _ fun vs H2 N2 v0 d0 S e2 n2 k2 g2 ow nd fr ar => q (v :: vs) H2 N2 v0 d0 S (e1.trans e2) (n1.trans n2) k2 (g1.trans e1 g2) ow nd (fun a ha => ⟨ex_none e1 (fr a ha).1, (fr a ha).2⟩) (.bef (r1.mono n2) ar)
theorem fe_callC {m c : Nat} {f : List PyData → Option PyData} (h : FAc (some m) ta fa) : FE (tCall (spC m c f) [] E ta) (eCB f fa) := fun ds d e => by
  obtain ⟨es, h1, h2⟩ := eCB_is e
  refine fun σ N hs H eN Q q => h ds es h1 σ N hs H eN _ fun vs H1 N1 v0 d0 S e1 n1 k1 g1 ow nd fr ar => ?_
  refine ⟨N1, S, es, _, v0, d0, k1, by rw [List.append_nil]; exact ar, ow.new, nd, fun a ha => (fr a ha).2, h2, fun v N2 H2 s2 r => ?_⟩
  have new : ∀ a, Wr H1 (ownF m S) a → H a = none := fun a w => (wr_own w).elim (ex_none e1) fun z => (fr a z).1
  refine q v H2 N2 (fun a o z => ?_) (n1.trans s2.n) s2.k (fun a ha => ?_) r
  · rw [s2.un a fun w => by rw [new a w] at z; cases z]
    exact e1 a o z
  · exact (s2.ng a ha).elim (g1 a) fun w => .inr (new a w)
/-! x[..].pop() -/
theorem Ows.cut1 {N H : Hp} {c : Nat} : ∀ {vs : List V} {ds : List PyData} {S : List Addr}, Ows N H c vs ds S → ∃ T, Ows N H c vs.dropLast ds.dropLast T ∧ T.Sublist S
  | _, _, _, .nil => ⟨[], .nil, List.Sublist.refl _⟩
  | _, _, _, @Ows.cons _ _ _ _ v [] d ds S S' r rr => by
    cases rr
    exact ⟨[], .nil, List.nil_sublist _⟩
  | _, _, _, @Ows.cons _ _ _ _ v (w :: vs) d [] S S' r rr => by cases rr
  | _, _, _, @Ows.cons _ _ _ _ v (w :: vs) d (e :: ds) S S' r rr => by
    obtain ⟨T, h1, h2⟩ := rr.cut1
    exact ⟨S ++ T, .cons r h1, List.Sublist.append (List.Sublist.refl S) h2⟩
def sPop (c : Nat) (i : Nat) (fp : De → Option (List Int)) : De → Option GO := fun ds => match eV i ds, fp ds with
  | some d0, some p => match getP c p d0 with
    | some (.list dsn) => if 0 < dsn.length then match putP (.list dsn.dropLast) p d0 with
        | some d' => some (.nx (ds.set i (some d')))
        | none => none
      else none
    | _ => none
  | _, _ => none
theorem fs_pop {c : Nat} (hc : os.getD i 0 = c) (h0 : c ≠ 0) (hp : FPth i os tc fp) : FS os rc cm W (tDrop (tBM0 KK "list" rPop tc)) (sPop c i fp) := fun ds o e pv σ N H F g eN D a => by
  subst hc
  unfold sPop at e
  split at e
  · rename_i d0 p h1 h2
    split at e
    · rename_i dsn hg
      split at e
      · rename_i lt
        split at e
        · rename_i d' hd'
          cases e
          obtain ⟨v0, ad, xs, Sn, n1, n2, n3, n4, n5, n6, n7, n8, n9⟩ := g.node h1 h0 hg
          refine hp ds p h2 pv σ N H F g eN v0 n1 _ n2 _ fun H1 e1 => ?_
          have hx := e1 _ _ n3
          have hl : 0 < xs.length := by rw [n4.length]; exact lt
          refine ⟨.inl ⟨rfl, xs, sq_of hx⟩, ad, xs, xs[xs.length - 1], rfl, rfl, hx, List.getElem?_eq_getElem (by omega), ?_⟩
          obtain ⟨T, t1, t2⟩ := n4.cut1
          obtain ⟨d2, F', u1, u2, u3⟩ := n9 H1 _ _ T e1 (t1.mono e1) (t2.nodup n5) (fun z => n6 (t2.subset z)) fun b hb => .inl (t2.subset hb)
          rw [hd'] at u1
          cases u1
          refine a σ N _ F' (Stp.put (i := i) (T := []) (Stp.refl eN) e1 n8 (g.ou i ad n8) (fun b hb => nomatch hb) fun j b hb => .inl ?_) u2
          exact (u3 j b hb).elim (fun z => ⟨j, z⟩) fun z => ⟨i, n7 b (t2.subset z)⟩
        · cases e
      · cases e
    · cases e
  · cases e
/-! an item of an owned list is moved out -/
def mItem (i : Nat) (fk : De → Option PyData) : De → Option (PyData × De) := fun ds => match eV i ds, fk ds with
  | some (.list dsn), some (.int k) => match atI dsn k with
    | some d => some (d, ds.set i none)
    | none => none
  | _, _ => none
theorem fm_item {c : Nat} (hc : os.getD i 0 = 3) (hk : FE tk fk) : FM os c (tOp (rOr (rIxL KK) (rIxT KK)) (tVar i) tk) (mItem i fk) := fun ds d ds' e pv σ N H F g eN Q q => by
  unfold mItem at e
  split at e
  · rename_i dsn k h1 h2
    split at e
    · rename_i d1 hd
      cases e
      obtain ⟨v, e1, r⟩ := g.at_ i _ (eV_is h1)
      rw [hc] at r
      refine ⟨v, e1, use_any g eN (hk ds _ h2) fun y H2 e2 ry => ?_⟩
      have ry' := ry rfl
      cases ry'
      generalize hF : F i = Fi at r
      cases r with
      | leaf z _ => cases z
      | @lst ad xs _ S0 hH rr =>
        obtain ⟨j, j1, j2⟩ := at_ix hd
        obtain ⟨u, S1, Sj, S2, q1, q2, q3, q4⟩ := rr.split j2
        have sub : ∀ b ∈ Sj, b ∈ F i := fun b hb => by
          rw [hF]
          exact List.mem_cons_of_mem _ (by rw [q2]; exact List.mem_append_right _ (List.mem_append_left _ hb))
        have nd : Sj.Nodup := by
          have n0 := g.nd i
          rw [hF, q2] at n0
          exact (List.nodup_append.mp (List.nodup_append.mp (List.nodup_cons.mp n0).2).2.1).1
        refine .inl ⟨ad, xs, k, u, rfl, rfl, sq_of (e2 _ _ hH), ix_at (by rw [rr.length]; exact j1) q1, ?_⟩
        refine q u N H2 (F.put i []) Sj ((Stp.grow eN e2).trans ⟨Ex.refl _, eN.trans e2, fun _ _ => rfl, fun _ h => .inl h, fun j b hb => ?_⟩) (g.mono e2).drop (q3.mono e2).new ⟨nd, fun a ha => g.ou i a (sub a ha), fun a ha => .inr ⟨i, sub a ha⟩, fun j b hb hb2 => ?_⟩
        · by_cases z : j = i
          · subst z
            rw [Fp.put_same] at hb
            cases hb
          · rw [Fp.put_ne z] at hb
            exact .inr ⟨j, hb⟩
        · by_cases z : j = i
          · subst z
            rw [Fp.put_same] at hb
            cases hb
          · rw [Fp.put_ne z] at hb
            exact g.dj j i z b hb (sub b hb2)
    · cases e
  · cases e
/-- x[..][k] = a thing that is moved there -/
def sSetPM (c : Nat) (i : Nat) (fp : De → Option (List Int)) (fk : De → Option PyData) (m : De → Option (PyData × De)) : De → Option GO := fun ds0 => match m ds0 with
  | none => none
  | some (d, ds) => match eV i ds, fp ds, fk ds with
    | some d0, some p, some (.int k) => match getP c p d0 with
      | some (.list dsn) => match ixN dsn.length k with
        | some j => match putP (.list (dsn.set j d)) p d0 with
          | some d' => if j < dsn.length then some (.nx (ds.set i (some d'))) else none
          | none => none
        | none => none
      | _ => none
    | _, _, _ => none
theorem Stp.put2 {N H N1 H1 H2 : Hp} {F F1 F' : Fp} {a : Addr} {o : HO} {T : List Addr} (s : Stp N H F N1 H1 F1) (e : Ex H1 H2) (ha : a ∈ F1 i) (hN : N1 a = none) (hT : ∀ b ∈ T, Wr H F b) (hF : ∀ j, ∀ b ∈ F' j, (∃ k, b ∈ F1 k) ∨ b ∈ T) : Stp N H F N1 (upd H2 a o) F' :=
  ⟨s.n, fun b u q => by
    by_cases z : b = a
    · subst z
      rw [hN] at q
      cases q
    · rw [upd_ne z]
      exact e _ _ (s.k b u q), fun b hb => by
    by_cases z : b = a
    · subst z
      exact absurd (s.fg i b ha) hb
    · rw [upd_ne z]
      cases q : H1 b with
      | none =>
        have := s.un b hb
        rw [q] at this
        exact absurd (.inl this.symm) hb
      | some u => rw [e b u q, ← s.un b hb, q], s.ng, fun j b hb => (hF j b hb).elim (fun ⟨k, z⟩ => s.fg k b z) (hT b)⟩
theorem fs_setPM {c : Nat} {m : De → Option (PyData × De)} (hc : os.getD i 0 = c) (h0 : c ≠ 0) (hp : FPth i os tc fp) (hk : FE tk fk) (h : FM os c te m) : FS os rc cm W (tAsg te (gSub tc tk rSetL)) (sSetPM c i fp fk m) := fun ds0 o e pv σ N H F g eN D a => by
  subst hc
  unfold sSetPM at e
  split at e
  · cases e
  · rename_i d ds hd
    split at e
    · rename_i d0 p k h1 h2 h3
      split at e
      · rename_i dsn hg
        split at e
        · rename_i j hj
          split at e
          · rename_i d' hd'
            split at e
            · rename_i lt
              cases e
              refine h ds0 _ _ hd pv σ N H F g eN _ fun v N1 H1 F1 S s1 g1 r pa => ?_
              obtain ⟨v0, ad, xs, Sn, n1, n2, n3, n4, n5, n6, n7, n8, n9⟩ := g1.node h1 h0 hg
              refine hp ds p h2 pv σ N1 H1 F1 g1 s1.k v0 n1 _ n2 _ fun H2 e2 => use_any (g1.mono e2) (s1.k.trans e2) (hk ds _ h3) fun y H3 e3 ry => ?_
              have ry' := ry rfl
              cases ry'
              refine ⟨ad, xs, k, j, rfl, rfl, e3 _ _ (e2 _ _ n3), by rw [n4.length]; exact hj, ?_⟩
              obtain ⟨u, S1, Sj, S2, q1, q2, q3, q4⟩ := n4.split (List.getElem?_eq_getElem lt)
              subst q2
              have e23 := e2.trans e3
              have sub : ∀ b, (b ∈ S1 ∨ b ∈ S2) → b ∈ S1 ++ (Sj ++ S2) := fun b hb => hb.elim (List.mem_append_left _) fun z => List.mem_append_right _ (List.mem_append_right _ z)
              have off : ∀ b ∈ S, ∀ j, b ∉ F1 j := fun b hb j hf => pa.dj j b hf hb
              have r' := q4 H3 d v S (fun b hb => by
                cases q : H1 b with
                | none => exact absurd q (n4.there b (sub b hb))
                | some o => exact e23 b o q) (r.mono e23)
              have hin : ∀ b ∈ S1 ++ (S ++ S2), b ∈ S1 ++ (Sj ++ S2) ∨ b ∈ S := fun b hb => by
                rcases List.mem_append.mp hb with z | z
                · exact .inl (List.mem_append_left _ z)
                · rcases List.mem_append.mp z with z | z
                  · exact .inr z
                  · exact .inl (List.mem_append_right _ (List.mem_append_right _ z))
              obtain ⟨m1, m2, m3⟩ := List.nodup_append.mp n5
              obtain ⟨m4, m5, m6⟩ := List.nodup_append.mp m2
              have ndT : (S1 ++ (S ++ S2)).Nodup := List.nodup_append.mpr ⟨m1, List.nodup_append.mpr ⟨pa.nd, m5, fun x hx y hy z => by
                subst z
                exact off x hx i (n7 x (sub x (.inr hy)))⟩, fun x hx y hy z => by
                subst z
                rcases List.mem_append.mp hy with w | w
                · exact off x w i (n7 x (sub x (.inl hx)))
                · exact m3 x hx x (List.mem_append_right _ w) rfl⟩
              obtain ⟨d2, F', t1, t2, t3⟩ := n9 H3 _ _ (S1 ++ (S ++ S2)) e23 r' ndT (fun z => (hin ad z).elim n6 fun w => off ad w i n8) fun b hb => (hin b hb).imp id fun w => ⟨pa.ou b w, off b w⟩
              rw [hd'] at t1
              cases t1
              refine a σ N1 _ F' (Stp.put2 (i := i) (T := S) s1 e23 n8 (g1.ou i ad n8) pa.wr fun j b hb => ?_) t2
              rcases t3 j b hb with z | z
              · exact .inl ⟨j, z⟩
              · exact (hin b z).imp (fun w => ⟨i, n7 b w⟩) id
            · cases e
          · cases e
        · cases e
      · cases e
    · cases e
/-! wholly new: {}, tuple(a flat list), a slice of a flat list -/
theorem fn_dict0 : FN tDNewK (eC (.dict [])) := fun ds d e σ N hs H eN Q q => by
  cases e
  exact fun p hp => q (.ref p) _ [p] (Ex.new hp) (.dct upd_same .nil) (one_new (Ex.refl H) hp).1 (one_new (Ex.refl H) hp).2
def tupN : List PyData → Option PyData
  | [.list ds] => if ds.all flatD = true then some (.tuple ds) else none
  | _ => none
theorem fn_tuple (ha : FA ta fa) : FN (tCB (fun xs H Q => ∃ p ys, xs = [.ref p] ∧ ((SqL KK H p ys ∧ ∀ l, H l = none → Q (.ref l) (upd H l (.tup ys))) ∨ (SqT KK H p ys ∧ Q (.ref p) H))) ta) (eCB tupN fa) := fun ds z e => by
  obtain ⟨es, h1, q⟩ := eCB_is e
  intro σ N hs H eN Q k
  refine ha ds es h1 σ N hs H eN _ fun vs H1 N1 e1 n1 k1 g1 rv => ?_
  unfold tupN at q
  split at q
  · split at q
    · cases q
      cases rv with
      | cons r rr =>
        cases rr
        cases r with
        | lst hr hall => exact ⟨_, _, rfl, .inl ⟨ex_l k1 hr, fun p hp => k (.ref p) _ [p] (e1.trans (Ex.new hp)) (.tup upd_same (ows_flat hall ‹_›)) (one_new e1 hp).1 (one_new e1 hp).2⟩⟩
    · cases q
  · cases q
def slN : PyData → Option Int → Option Int → Option PyData
  | .list ts, l, u => if ts.all flatD = true then some (.list (DL.cutD ts l u)) else none
  | _, _, _ => none
def eSlN (f : De → Option PyData) (lo hi : De → Option (Option Int)) : De → Option PyData := fun ds => match f ds, lo ds, hi ds with
  | some d, some l, some u => slN d l u
  | _, _, _ => none
theorem fn_slice {tl th : TO} {lo hi : De → Option (Option Int)} {f : De → Option PyData} (h : FE te f) (h1 : FO tl lo) (h2 : FO th hi) : FN (tSl (slOr KK) te tl th) (eSlN f lo hi) := fun ds z e => by
  unfold eSlN at e
  split at e
  · rename_i d l u a b c
    intro σ N hs H eN Q k
    refine h ds d a σ N hs H eN _ fun v H1 N1 e1 n1 k1 g1 r1 => h1 ds l b σ N hs H1 (eN.trans e1) _ fun H2 e2 => h2 ds u c σ N hs H2 ((eN.trans e1).trans e2) _ fun H3 e3 => ?_
    have k3 := (k1.trans e2).trans e3
    have e13 := (e1.trans e2).trans e3
    unfold slN at e
    split at e
    · split at e
      · rename_i ts _ _ fl
        cases e
        cases r1 with
        | lst hr hall => exact .inl ⟨_, _, rfl, ex_l k3 hr, fun p hp => k (.ref p) _ [p] (e13.trans (Ex.new hp)) (.lst upd_same (ows_flat (hall.cut l u) (List.all_eq_true.mpr fun x hx => List.all_eq_true.mp fl x (by
          unfold DL.cutD at hx
          first | exact List.mem_of_mem_take (List.mem_of_mem_drop hx) | exact List.mem_of_mem_drop (List.mem_of_mem_take hx))))) (one_new e13 hp).1 (one_new e13 hp).2⟩
      · cases e
    · cases e
  · cases e
/-! several targets, flat things of what is owned -/
theorem rpAll_flat {N N' : Hp} : ∀ {vs : List V} {es : List PyData}, RpAll N vs es → es.all flatD = true → RpAll N' vs es
  | _, _, .nil, _ => .nil
  | _, _, .cons h r, f => by
    have f' := (Bool.and_eq_true _ _).mp (show (flatD _ && List.all _ flatD) = true from f)
    exact .cons (rp_flat h f'.1) (rpAll_flat r f'.2)
def sAsgTF (os : List Nat) (b : PyData → Option Bd) (fr : De → Option PyData) : De → Option GO := fun ds => match fr ds with
  | some d => match b d with
    | some l => if zeros os l = true ∧ (l.map Prod.snd).all flatD = true then some (.nx (bindD ds l)) else none
    | none => none
  | none => none
theorem fs_asgTF {g : TG} {b : PyData → Option Bd} (hg : FT g b) (h : FE te f) : FS os rc cm W (tAsg te g) (sAsgTF os b f) := fun ds o e pv σ N H F gg eN D a => by
  unfold sAsgTF at e
  split at e
  · rename_i d hd
    split at e
    · rename_i l hl
      split at e
      · rename_i hz
        cases e
        exact h ds d hd σ _ gg.holds H (lump_in eN) _ fun v H1 N1 e1 n1 k1 g1 r1 => hg d l hl N1 v r1 σ H1 k1 _ fun us ru => a _ N H1 F (Stp.grow eN e1) ((gg.mono e1).bind hz.1 (rpAll_flat ru hz.2))
      · cases e
    · cases e
  · cases e
end
end FX
set_option Elab.async false
set_option linter.all false
set_option maxRecDepth 100000
set_option maxHeartbeats 4000000
/-! != of a thing and its like, tuples with dicts within too. -/
namespace PySem.SeqAt
open AutoSeq1 (wpAny_loadPart')
open MeetsSeq MeetsSeq2 MeetsSeq3 SeqRoads2
section
variable {pg : Program} {w : World}
theorem alike_tne (p q : Addr) (xs ys : Array Value) (m1 m2 : Nat) (d1 d2 : Option Addr) (s1 s2 : Array (Option Value)) (same : xs.size = ys.size) :
    MeetsIn pg w (Builtin.«tuple.__ne__» ⟨[.ref p, .ref q], []⟩)
      (fun B R t => t.heap.get? p = some { cls := .type "tuple", dict := d1, data := .seq xs m1, slots := s1 } ∧ t.heap.get? q = some { cls := .type "tuple", dict := d2, data := .seq ys m2, slots := s2 } ∧
        (∀ j (a : j < xs.size) (b : j < ys.size), EqIn pg w B.in1 t xs[j] ys[j] true) ∧ R (.ok (.ret (.bool false))) t) :=
  .of_wp fun B R t z => by
    obtain ⟨hp, g, d, tk, os⟩ := t
    obtain ⟨at1, at2, each, fin⟩ := z
    have both := AutoSeq1.sub_tuple_tuple
    have pairs : (xs.toList.zip ys.toList).length = xs.size := by
      rw [List.length_zip, Array.length_toList, Array.length_toList, ← same]
      omega
    wp_walk using wpAny_loadPart' at1, wpAny_loadPart' at2, wpAny_forIn_list _ (fun left st t' => st.1 = none ∧ t' = ⟨hp, g, d, tk, os⟩ ∧ ∃ k, left = (xs.toList.zip ys.toList).drop k) _
    case turn =>
      rintro ⟨u, v⟩ left st t' ⟨none1, rfl, k, cut⟩
      have lt : k < (xs.toList.zip ys.toList).length := Nat.lt_of_not_le fun y => by
        rw [List.drop_of_length_le y] at cut
        cases cut
      have l1 : k < xs.size := by rw [← pairs]; exact lt
      have l2 : k < ys.size := by rw [← same]; exact l1
      rw [List.drop_eq_getElem_cons lt] at cut
      injection cut with here there
      have eu : u = xs[k] := by
        have y := congrArg Prod.fst here
        simpa using y
      have ev : v = ys[k] := by
        have y := congrArg Prod.snd here
        simpa using y
      subst eu ev
      refine wpAny_bind (each k l1 l2 _ _ ?_)
      wp_walk
      exact ⟨rfl, rfl, k + 1, there⟩
    case fin =>
      rintro ⟨st1, st2⟩ t' ⟨none1, rfl, k, cut⟩
      simp only at none1
      subst none1
      wp_walk
      refine ⟨_, rfl, ?_⟩
      simpa [Builtin.Tuple.tupleCompareSizes, bne, same] using fin
    case h => exact ⟨rfl, rfl, 0, rfl⟩
theorem alike_tups {B : Around} {t : Shared} {E Q : Value → Shared → Prop} {p q : Addr} {xs ys : Array Value} (h1 : t.heap.IsTuple p xs) (h2 : t.heap.IsTuple q ys) (same : xs.size = ys.size) (room : B.units < cLine)
    (each : ∀ j (a : j < xs.size) (b : j < ys.size), EqIn pg w B.in1 t xs[j] ys[j] true) (h : Q (.bool false) t) : wpAny (model pg w) B (compareOp .NotEq (.ref p) (.ref q)) Q E t := by
  obtain ⟨⟨c1, d1, a1, s1⟩, o1, e1, n1, f1⟩ := id h1
  obtain ⟨⟨c2, d2, a2, s2⟩, o2, e2, n2, f2⟩ := id h2
  dsimp only at e1 f1 e2 f2
  subst e1 f1 e2 f2
  refine wpAny_richCompare_same_room (T := "tuple") (op := .NotEq) ⟨_, o1, rfl⟩ ⟨_, o2, rfl⟩ F.slot_tuple_ne ?_ room
  exact call_meetsIn F.slot_tuple_ne ⟨_, o1, rfl⟩ F.entry_tuple_ne (F.args_tuple_ne_2 _ _) (alike_tne p q xs ys n1 n2 d1 d2 s1 s2 same) ⟨o1, o2, each, (fun x => nomatch x), h⟩
end
end PySem.SeqAt
namespace FX
open PySem PySem.Spec PyProof.Rows L2 Evl DL
set_option autoImplicit false
variable [Kn]
def okM : PyData → Bool
  | .tuple ds => fineAll ds && decide (nestAll ds ≤ 50)
  | d => DL.okN d
def rNeM : R2 := fun x y H Q => ∃ (N : Hp) (d : PyData), Ex N H ∧ Rp N x d ∧ Rp N y d ∧ okM d = true ∧ Q (.bl false) H
theorem k_neM {X : Cx} (hu : X.A.units + 100 < cLine) (hK : X.K = DL.KK := by rfl) : OpR X (compareOp .NotEq) rNeM := by
  intro pins s σ H x y v u Q I rx ry h
  obtain ⟨N, d, eN, h1, h2, ok, q⟩ := h
  have plain : DL.okN d = true → wpAny (model X.prog X.w) X.A (compareOp .NotEq v u) (EP X pins σ Q) X.xe s := fun nd => k_neS hu hK pins s σ H x y v u Q I rx ry ⟨N, d, eN, h1, h2, nd, q⟩
  cases d with
  | none => exact plain ok
  | bool b => exact plain ok
  | int i => exact plain ok
  | str z => exact plain ok
  | list ds => exact plain ok
  | dict ds => exact plain ok
  | tuple ds =>
    obtain ⟨g1, g2⟩ := (Bool.and_eq_true _ _).mp (show (fineAll ds && decide (nestAll ds ≤ 50)) = true from ok)
    have g2 := of_decide_eq_true g2
    cases h1 with
    | @tup a xs _ s1 a1 =>
      cases h2 with
      | @tup b ys _ s2 a2 =>
        cases rx
        cases ry
        obtain ⟨us, v1, p1, _⟩ := I.tuple (by rw [hK]; exact set_of_rd (rd_ex eN s1))
        obtain ⟨ws, v2, p2, _⟩ := I.tuple (by rw [hK]; exact set_of_rd (rd_ex eN s2))
        have z1 : us.length = ds.length := by rw [← v1.length, a1.length]
        have z2 : ws.length = ds.length := by rw [← v2.length, a2.length]
        have kids := same_trees I hK eN ds 50 xs ys us ws g1 g2 a1 a2 v1 v2
        refine SeqAt.alike_tups p1 p2 (by rw [List.size_toArray, List.size_toArray, z1, z2]) (by omega) (fun j f1 f2 => ?_) ⟨.bl false, H, I, rfl, q⟩
        have k := (kids j (by simpa using f1) (by simpa using f2)).at X.A.in1 (by show X.A.units + 1 + 50 < cLine; omega)
        simpa using k
open Classical in
noncomputable def neS : PyData → PyData → Option PyData := fun d e => if d = e ∧ okM d = true then some (.bool false) else none
theorem ro_neS : RO rNeM neS := fun x y N H d e z q eN rx ry Q k => by
  unfold neS at q
  split at q
  · rename_i w
    obtain ⟨rfl, w2⟩ := w
    cases q
    exact ⟨N, d, eN, rx, ry, w2, k.val eN (.bl false)⟩
  · cases q
theorem neS_self {d : PyData} (h : okM d = true) : neS d d = some (.bool false) := by
  unfold neS
  rw [if_pos ⟨rfl, h⟩]
end FX
set_option Elab.async false
set_option linter.all false
set_option maxRecDepth 100000
set_option maxHeartbeats 4000000
/-! set(xs) and its length, xs a list of tuples of ints, up to 64 different ones. -/
namespace LS
open PySem PySem.Spec PyProof.Rows L2
set_option autoImplicit false
/-- a set of tuples as it stands, of any room that its table has -/
structure SetX (P : Program) (w : World) (g : Heap) (S : Addr) (M : List (Addr × List Int)) (rs : Array (Int × Value)) (e0 : Nat) (tb : SetTable) : Prop where
  ob : ∃ o, g.get? S = some o ∧ o.ExactSet ∧ o.data = .set rs e0 tb
  rows : rs.toList = rowsOf P w M
  tab : TabOk tb (M.map fun p => thash P w p.2)
  nd : (M.map (·.2)).Nodup
  tup : ∀ p ∈ M, IsT P w g p.2 p.1
  plain : tb.plain = true
  led : w.params.followText "set-order" = true ∨ tb.led = true
  room : M.length * 5 < tb.mask * 3
section
variable {P : Program} {w : World} {A : Around} {E : Value → Shared → Prop} {s : Shared} {S : Addr} {M : List (Addr × List Int)} {rs : Array (Int × Value)} {e0 : Nat} {tb : SetTable}
theorem SetX.few (Z : SetX P w s.heap S M rs e0 tb) (h : M.length < 64) : SetTR P w s.heap S M rs e0 tb := ⟨Z.ob, Z.rows, Z.tab, Z.nd, Z.tup, Z.plain, Z.led, Z.room, h⟩
theorem x_of {g : Heap} (Z : SetTR P w g S M rs e0 tb) : SetX P w g S M rs e0 tb := ⟨Z.ob, Z.rows, Z.tab, Z.nd, Z.tup, Z.plain, Z.led, Z.room⟩
theorem SetX.size {g : Heap} (Z : SetX P w g S M rs e0 tb) : rs.size = M.length := by
  have q := congrArg List.length Z.rows
  unfold rowsOf at q
  rwa [Array.length_toList, List.length_map] at q
theorem SetX.fits {g : Heap} (Z : SetX P w g S M rs e0 tb) : tb.fits rs.size = true := by
  have q1 := Z.tab.sz
  have q2 := Z.room
  have q3 := Z.size
  rw [List.length_map] at q1
  unfold SetTable.fits SetTable.fill
  rw [Z.tab.dm, Bool.and_eq_true, beq_iff_eq, decide_eq_true_eq]
  show tb.place.size = rs.size ∧ tb.place.size + 0 ≤ tb.mask
  omega
theorem SetX.keep {g g' : Heap} (Z : SetX P w g S M rs e0 tb) (hS : ∀ o, g.get? S = some o → g'.get? S = some o) (ht : ∀ p ∈ M, IsT P w g' p.2 p.1) : SetX P w g' S M rs e0 tb := by
  obtain ⟨o, ho, r⟩ := Z.ob
  exact ⟨⟨o, hS o ho, r⟩, Z.rows, Z.tab, Z.nd, ht, Z.plain, Z.led, Z.room⟩
/-- one more, up to the 64th -/
theorem add_x (Z : SetTR P w s.heap S M rs e0 tb) {x : Addr} {c : List Int} (hx : IsT P w s.heap c x) (hu : A.units < cLine) {Q : Bool → Shared → Prop}
    (hQ : ∀ b g M' rs' e1 tb', Heap.SameBut S s.heap g → SetX P w g S M' rs' e1 tb' → (c ∈ M.map (·.2) → M' = M) → (c ∉ M.map (·.2) → M'.Perm ((x, c) :: M)) → Q b { s with heap := g }) :
    wpAny (model P w) A (setAddHashed S (.ref x) (thash P w c)) Q E s := by
  by_cases small : M.length + 1 < 64
  · exact add_at Z hx hu small fun b g M' rs' e1 tb' a1 a2 a3 a4 => hQ b g M' rs' e1 tb' a1 (x_of a2) a3 a4
  have m63 : M.length = 63 := by
    have := Z.few
    omega
  obtain ⟨o, ho, hex, hd⟩ := Z.ob
  have zs := Z.size
  have zr := Z.room
  unfold setAddHashed
  refine wpAny_holding ?_
  rw [show (100000 : Nat) = 99999 + 1 from rfl, setAddHashedIn_succ]
  refine wpAny_bind (wpAny_setState_of ho hd Z.fits ?_)
  dsimp only
  refine wp_if_neg (by simp [byScan, Value.scannable]) ?_
  try refine wpAny_bind (wpAny_pure ?_)
  refine wpAny_bind (search_at Z hx hu (fun inn => ?_) fun K out hK hB => ?_)
  · dsimp only
    exact wpAny_pure (hQ false s.heap M rs e0 tb (Heap.SameBut.refl S s.heap) (x_of Z) (fun _ => rfl) fun z => absurd inn z)
  · dsimp only
    refine wpAny_bind (wpAny_setState_of ho hd Z.fits ?_)
    dsimp only
    obtain ⟨q1, q2, q3, q4, q5, q6, q7, q8, q9⟩ := Z.tab.put hK hB
    have pl1 : (tb.put (way tb.mask (thash P w c) K)).1.plain = true := by rw [q6]; exact Z.plain
    generalize tb.put (way tb.mask (thash P w c) K) = pt at q1 q3 q4 q5 q6 q7 q8 q9 pl1 ⊢
    obtain ⟨t1, p⟩ := pt
    dsimp only at q1 q3 q4 q5 q6 q7 q8 q9 pl1 ⊢
    subst q1
    first
      | (refine wpAny_bind ?_; refine wp_if_pos pl1 ?_; refine hashBy_tup hx ?_)
      | refine wp_if_pos pl1 (wpAny_bind (hashBy_tup hx ?_))
    simp only [if_true]
    have inl : (SetTable.insertAt rs (SetTable.below tb.place (way tb.mask (thash P w c) K)) (thash P w c, Value.ref x)).toList = rowsOf P w (M.take (SetTable.below tb.place (way tb.mask (thash P w c) K)) ++ (x, c) :: M.drop (SetTable.below tb.place (way tb.mask (thash P w c) K))) := by
      rw [SetTable.toList_insertAt, rows_put, Z.rows]
    generalize SetTable.below tb.place (way tb.mask (thash P w c) K) = p at q2 q3 inl ⊢
    have pm := put_perm M p (x, c)
    have len1 : (M.take p ++ (x, c) :: M.drop p).length = M.length + 1 := pm.length_eq
    have hs1 : (M.take p ++ (x, c) :: M.drop p).map (fun p => thash P w p.2) = (M.map fun p => thash P w p.2).take p ++ thash P w c :: (M.map fun p => thash P w p.2).drop p := by
      rw [List.map_append, List.map_cons, List.map_take, List.map_drop]
    rw [← hs1] at q3
    have nd1 : ((M.take p ++ (x, c) :: M.drop p).map (·.2)).Nodup := by
      refine (pm.map (·.2)).nodup_iff.mpr ?_
      rw [List.map_cons]
      exact List.nodup_cons.mpr ⟨out, Z.nd⟩
    have rs1 : (SetTable.insertAt rs p (thash P w c, Value.ref x)).size = M.length + 1 := by
      have q := congrArg List.length inl
      unfold rowsOf at q
      rwa [Array.length_toList, List.length_map, len1] at q
    generalize SetTable.insertAt rs p (thash P w c, Value.ref x) = rs2 at inl rs1 ⊢
    generalize M.take p ++ (x, c) :: M.drop p = M1 at pm len1 q3 nd1 inl
    refine wpAny_bind (wpAny_storeSet_of ho hd ?_ (by rw [rs1, sizeLine_eq]; omega))
    have sb : Heap.SameBut S s.heap (s.heap.update S (Obj.putSet rs2 t1)) := Heap.SameBut.update ..
    have ho1 := store_at (es' := rs2) (t' := t1) ho hd
    generalize s.heap.update S (Obj.putSet rs2 t1) = g1 at sb ho1 ⊢
    have tup1 : ∀ p ∈ M1, IsT P w g1 p.2 p.1 := fun p hp => by
      rcases List.mem_cons.mp (pm.mem_iff.mp hp) with y | y
      · rw [y]
        exact isT_same hx ho hd sb
      · exact isT_same (Z.tup p y) ho hd sb
    have ld1 : w.params.followText "set-order" = true ∨ t1.led = true := by rw [q5]; exact Z.led
    have wide : t1.mask = 127 := by
      rw [q4]
      rcases Z.tab.mok with y | y | y
      · rw [y] at zr
        omega
      · rw [y] at zr
        omega
      · exact y
    have spare : t1.tooFull = false := by
      unfold SetTable.tooFull
      rw [decide_eq_false_iff_not, q9, List.length_map, wide]
      omega
    first
      | refine wp_if_neg (by simp [spare]) ?_
      | (refine wpAny_bind ?_; refine wp_if_neg (by simp [spare]) ?_; refine wpAny_pure ?_)
    refine wpAny_pure (hQ true g1 M1 rs2 (e0 + 1) t1 sb ⟨⟨_, ho1, ⟨hex.1, hex.2.1, hex.2.2⟩, rfl⟩, inl, q3, nd1, tup1, pl1, ld1, ?_⟩ (fun z => absurd z out) fun _ => pm)
    rw [len1, wide]
    omega
/-- what is in a set is found there, however many it has -/
theorem find_x {s : Shared} (Z : SetX P w s.heap S M rs e0 tb) {x : Addr} {c : List Int} (hx : IsT P w s.heap c x) (hu : A.units < cLine) {n : Nat} {p0 : Addr × List Int} (at0 : M[n]? = some p0) (same : p0.2 = c) {Q : SetFound → Shared → Prop}
    (hQ : Q (.there none) s) : wpAny (model P w) A (setSearch S (.ref x) (thash P w c) true) Q E s := by
  obtain ⟨o, ho, hex, hd⟩ := Z.ob
  have few := Z.room
  have sizes := Z.tab.sz
  rw [List.length_map] at sizes
  have pls : tb.place.toList.length = M.length := by rw [Array.length_toList, sizes]
  obtain ⟨K, k1, k2, k3⟩ := Z.tab.first (by rw [List.length_map]; omega) (thash P w c)
  have k4 : K < 100000 := by
    have m3 := Z.tab.mok
    have : 10 * SetTable.turns tb.mask ≤ 1420 := by
      unfold SetTable.turns
      rcases m3 with y | y | y <;> omega
    omega
  have nM : n < M.length := (List.getElem?_eq_some_iff.mp at0).1
  have jn : tb.place.toList[n]? = some tb.place.toList[n] := List.getElem?_eq_getElem (by omega)
  obtain ⟨d0, d1, d2⟩ := Z.tab.before k2 (show (M.map fun p => thash P w p.2)[n]? = some (thash P w c) by rw [List.getElem?_map, at0, ← same]; rfl) jn
  rw [← d2] at jn
  clear d2
  generalize hT : thash P w c = hash at *
  obtain ⟨walk, wdef⟩ : ∃ f : Nat → SetTable.Probe, f = nth tb.mask (runAt tb.mask (SetTable.bits hash % (tb.mask + 1)) (SetTable.bits hash)) := ⟨_, rfl⟩
  have wj : ∀ d, (walk d).j = way tb.mask hash d := fun d => by rw [wdef]
  have wadd : ∀ d q, nth tb.mask (walk d) q = walk (d + q) := fun d q => by rw [wdef, nth_add]
  have w0 : tb.probeStart hash = walk 0 := by rw [wdef]; rfl
  have wdum : ∀ d, (walk d).dummy = none := fun d => by
    have calm : ∀ (r : Nat) (y : SetTable.Probe), y.dummy = none → (nth tb.mask y r).dummy = none := fun r => by
      induction r with
      | zero => exact fun y hy => hy
      | succ r ih => exact fun y hy => ih _ (by unfold adv; split <;> exact hy)
    rw [wdef]
    exact calm d _ rfl
  have row : ∀ {i : Nat} {p : Addr × List Int}, M[i]? = some p → rs[i]? = some (thash P w p.2, Value.ref p.1) := fun {i p} hp => by
    rw [← Array.getElem?_toList, Z.rows, rowsOf, List.getElem?_map, hp]
    rfl
  have hashes : ∀ {i : Nat} {p : Addr × List Int}, M[i]? = some p → (rs[i]?.map (·.1)).getD 0 = thash P w p.2 := fun hp => by
    rw [row hp]
    rfl
  have hn : (rs[n]?.map (·.1)).getD 0 = hash := (hashes at0).trans (by rw [same, hT])
  have loop : ∀ (fuel d : Nat) (from_ : Option SetTable.Probe), from_.getD (tb.probeStart hash) = walk d → d ≤ d0 → d0 < d + fuel → wpAny (model P w) A (setSearchFrom S (.ref x) hash true fuel from_) Q E s := by
    intro fuel
    induction fuel with
    | zero => intro d _ _ a b; omega
    | succ fuel ih =>
      intro d from_ st le lt
      rw [setSearchFrom_succ]
      refine wpAny_bind (wpAny_setState_of ho hd Z.fits ?_)
      dsimp only
      have whole : ¬ tb.gaveWay = true := by
        unfold SetTable.gaveWay
        rw [mask_odd Z.tab.mok]
        decide
      refine wp_if_neg whole ?_
      try refine wpAny_bind (wpAny_pure ?_)
      have met : ∃ q i, d + q ≤ d0 ∧ tb.place.toList[i]? = some (way tb.mask hash (d + q)) ∧ tb.probe (fun i => (rs[i]?.map (·.1)).getD 0) hash (walk d) = some (.candidate (way tb.mask hash (d + q)) i (walk (d + (q + 1)))) := by
        rcases go_spec tb Z.tab.ris Z.tab.dm (fun i => (rs[i]?.map (·.1)).getD 0) hash (10 * SetTable.turns tb.mask) (K - d) (walk d) (wdum d) (by omega) (fun q hq => by rw [wadd, wj]; exact k3 _ (by omega)) (by rw [wadd, wj, show d + (K - d) = K by omega]; exact k2) with ⟨q, i, a1, a2, a3, a4, a5⟩ | ⟨a4, _⟩
        · rw [wadd, wj] at a2
          rw [wadd, wj, wadd] at a5
          refine ⟨q, i, Nat.le_of_not_lt fun z => ?_, a2, a5⟩
          exact a4 (d0 - d) n (by omega) (by rw [wadd, wj, show d + (d0 - d) = d0 by omega]; exact jn) hn
        · exact absurd hn (a4 (d0 - d) n (by omega) (by rw [wadd, wj, show d + (d0 - d) = d0 by omega]; exact jn))
      obtain ⟨q, i, b1, b2, b3⟩ := met
      rw [st, b3]
      dsimp only
      have iM : i < M.length := by
        have := (List.getElem?_eq_some_iff.mp b2).1
        omega
      obtain ⟨p, hp⟩ : ∃ p, M[i]? = some p := ⟨_, List.getElem?_eq_getElem iM⟩
      have pM := List.mem_of_getElem? hp
      have look : wpAny (model P w) A (searchRest S (.ref x) hash true fuel rs tb (way tb.mask hash (d + q)) i (walk (d + (q + 1)))) Q E s := by
        unfold searchRest
        rw [row hp]
        dsimp only
        refine wpAny_bind (wpAny_holding (wpAny_eqBool_tuple hu (Z.tup p pM) hx ?_))
        refine wpAny_bind (wpAny_setState_of ho hd Z.fits ?_)
        dsimp only
        by_cases it : p.2 = c
        · exact wp_if_pos (by simp [it]) (wpAny_pure hQ)
        · refine wp_if_neg (by simp [it]) ?_
          try refine wpAny_bind (wpAny_pure ?_)
          rw [sameMem]
          dsimp only
          have live := slot_live Z.tab.ris b2
          simp only [if_true, live, row hp]
          refine wpAny_bind (wpAny_isSame_ref_self (wpAny_bind (wpAny_pure ?_)))
          simp only [if_true]
          refine wp_if_neg (by simp [it]) (ih (d + (q + 1)) _ rfl ?_ (by omega))
          rcases Nat.lt_or_ge (d + q) d0 with y | y
          · omega
          · refine absurd ?_ it
            have e0 : d + q = d0 := by omega
            rw [e0, slot_live Z.tab.ris jn] at live
            cases live
            rw [at0] at hp
            cases hp
            exact same
      by_cases led : tb.led = true
      · refine wp_if_neg (by simp [led]) ?_
        try refine wpAny_bind (wpAny_pure ?_)
        exact look
      · refine wp_if_pos (by simp [led]) (wpAny_bind (seen_tup hx (fun y hy => ?_) ?_))
        · obtain ⟨e, he, rfl⟩ := List.mem_map.mp hy
          have inr : e ∈ rs.toList := by
            have : e ∈ rs ∧ e.1 = hash := by simpa using he
            simpa using this.1
          rw [Z.rows] at inr
          obtain ⟨p2, hp2, rfl⟩ := List.mem_map.mp inr
          exact ⟨p2.2, p2.1, rfl, Z.tup p2 hp2⟩
        · refine wp_if_neg (by decide) ?_
          try refine wpAny_bind (wpAny_pure ?_)
          exact look
  unfold setSearch
  exact loop 100000 0 none w0 (Nat.zero_le _) (by omega)
/-- what is in the set already -/
theorem again_x {s : Shared} (Z : SetX P w s.heap S M rs e0 tb) {x : Addr} {c : List Int} (hx : IsT P w s.heap c x) (hu : A.units < cLine) (inn : c ∈ M.map (·.2)) {Q : Bool → Shared → Prop}
    (hQ : Q false s) : wpAny (model P w) A (setAddHashed S (.ref x) (thash P w c)) Q E s := by
  obtain ⟨o, ho, hex, hd⟩ := Z.ob
  obtain ⟨p0, h0, same⟩ := List.mem_map.mp inn
  obtain ⟨n, hn, e⟩ := List.getElem_of_mem h0
  unfold setAddHashed
  refine wpAny_holding ?_
  rw [show (100000 : Nat) = 99999 + 1 from rfl, setAddHashedIn_succ]
  refine wpAny_bind (wpAny_setState_of ho hd Z.fits ?_)
  dsimp only
  refine wp_if_neg (by simp [byScan, Value.scannable]) ?_
  try refine wpAny_bind (wpAny_pure ?_)
  refine wpAny_bind (find_x Z hx hu (n := n) (p0 := p0) (by rw [List.getElem?_eq_getElem hn, e]) same ?_)
  dsimp only
  exact wpAny_pure hQ
/-- one more, there or not -/
theorem add_any (Z : SetX P w s.heap S M rs e0 tb) {x : Addr} {c : List Int} (hx : IsT P w s.heap c x) (hu : A.units < cLine) (small : c ∉ M.map (·.2) → M.length < 64) {Q : Bool → Shared → Prop}
    (hQ : ∀ b g M' rs' e1 tb', Heap.SameBut S s.heap g → SetX P w g S M' rs' e1 tb' → (c ∈ M.map (·.2) → M' = M) → (c ∉ M.map (·.2) → M'.Perm ((x, c) :: M)) → Q b { s with heap := g }) :
    wpAny (model P w) A (setAddHashed S (.ref x) (thash P w c)) Q E s := by
  by_cases inn : c ∈ M.map (·.2)
  · exact again_x Z hx hu inn (hQ false s.heap M rs e0 tb (Heap.SameBut.refl S s.heap) Z (fun _ => rfl) fun z => absurd inn z)
  · exact add_x (Z.few (small inn)) hx hu hQ
/-- the loop that fills the set -/
theorem fill_x {I : Addr} {fp wr : List Addr} {G : Array GenState → Array GenState → Prop} {n : Nat} {Pv : Nat → Value → Prop} {St : Nat → Shared → Prop} {R : Result → Shared → Prop}
    (W : WalksS P w A.in1 I fp wr G n Pv St) (S : Addr) (offS : S ∉ fp) (ks : List (Addr × List Int)) (hn : n = ks.length) (most : ∀ L : List (List Int), L.Nodup → (∀ x ∈ L, x ∈ ks.map (·.2)) → L.length ≤ 64) (each : ∀ i v, Pv i v → ∃ p, ks[i]? = some p ∧ v = .ref p.1)
    (g0 : Heap) (hk : ∀ p ∈ ks, IsT P w g0 p.2 p.1) (noS : g0.get? S = none) (nowr : ∀ b ∈ wr, g0.get? b = none) (hu : A.in1.units < cLine) :
    ∀ (left i : Nat) (s : Shared), n - i = left → i ≤ n → St i s → (∀ b o, g0.get? b = some o → s.heap.get? b = some o) → (∃ M rs e0 tb, SetX P w s.heap S M rs e0 tb ∧ Got ks i M) →
      (∀ s' M rs e0 tb, Moved (S :: wr) G s s' → SetX P w s'.heap S M rs e0 tb → Got ks n M → (∀ b o, g0.get? b = some o → s'.heap.get? b = some o) → R (.ok (.ret .none)) s') →
      codeAny (model P w) A (.builtin "set.update.loop" ⟨[.ref S, .ref I], []⟩) R s := by
  have Swr : S ∉ wr := fun z => offS (W.sub _ z)
  have into : ∀ b ∈ wr, b ∈ S :: wr := fun b hb => List.mem_cons_of_mem _ hb
  have stays : ∀ {s s' : Shared}, Moved wr G s s' → (∀ b o, g0.get? b = some o → s.heap.get? b = some o) → ∀ b o, g0.get? b = some o → s'.heap.get? b = some o := fun mv kp b o e =>
    mv.heap b o (fun hb => by rw [nowr b hb] at e; cases e) (kp b o e)
  intro left
  induction left with
  | zero =>
    intro i s el hi hst kp ⟨M, rs, e0, tb, Z, g⟩ hR
    obtain rfl : i = n := by omega
    refine codeAny_builtin F.entry_set_update_loop ?_
    rw [Around.under_plainId F.plain_set_update_loop _]
    show wpAny _ A.in1 (pyNext (.ref I) >>= _) _ _ s
    refine wpAny_bind (W.done s _ _ hst fun s' mv => ?_)
    have kp' := stays mv kp
    have sub : ∀ p ∈ M, p ∈ ks := fun p hp => List.mem_of_mem_take (g.sub p hp)
    exact wpAny_pure (hR s' M rs e0 tb (mv.mono into) (Z.keep (fun o e => mv.heap S o Swr e) fun p hp => isT_keep (hk p (sub p hp)) kp') g kp')
  | succ left ih =>
    intro i s el hi hst kp ⟨M, rs, e0, tb, Z, g⟩ hR
    have hlt : i < n := by omega
    refine codeAny_builtin F.entry_set_update_loop ?_
    rw [Around.under_plainId F.plain_set_update_loop _]
    show wpAny _ A.in1 (pyNext (.ref I) >>= _) _ _ s
    refine wpAny_bind (W.item i s _ _ hlt hst fun v s' hP hst' mv => ?_)
    obtain ⟨p, hp, rfl⟩ := each i v hP
    have kp' := stays mv kp
    have sub : ∀ p ∈ M, p ∈ ks := fun p hp => List.mem_of_mem_take (g.sub p hp)
    have Z' : SetX P w s'.heap S M rs e0 tb := Z.keep (fun o e => mv.heap S o Swr e) fun q hq => isT_keep (hk q (sub q hq)) kp'
    have hx : IsT P w s'.heap p.2 p.1 := isT_keep (hk p (List.mem_of_getElem? hp)) kp'
    show wpAny _ A.in1 (holding [Value.ref p.1] (setAdd S (.ref p.1)) >>= _) _ _ s'
    refine wpAny_bind (wpAny_holding ?_)
    unfold setAdd
    refine wpAny_holding ?_
    refine wpAny_bind (wpAny_pyHash_tuple hu hx ?_)
    refine add_any (s := { s' with toks := s'.toks + (p.2.length + 1) }) Z' hx hu (fun out => ?_) fun b g1 M' rs' e1 tb' sb Z2 c1 c2 => ?_
    · have q := most (p.2 :: M.map (·.2)) (List.nodup_cons.mpr ⟨out, Z.nd⟩) fun y hy => by
        rcases List.mem_cons.mp hy with z | z
        · rw [z]
          exact List.mem_map.mpr ⟨p, List.mem_of_getElem? hp, rfl⟩
        · obtain ⟨r, hr, rfl⟩ := List.mem_map.mp z
          exact List.mem_map.mpr ⟨r, sub r hr, rfl⟩
      rw [List.length_cons, List.length_map] at q
      omega
    have g' : Got ks (i + 1) M' := by
      by_cases c : p.2 ∈ M.map (·.2)
      · rw [c1 c]
        exact g.same hp c
      · exact g.more hp (c2 c)
    have kp2 : ∀ b o, g0.get? b = some o → g1.get? b = some o := fun b o e => (sb.2 b (fun z => by rw [z, noS] at e; cases e)).trans (kp' b o e)
    refine wpAny_pure ⟨plainId_quiet F.plain_set_update_loop _, ih (i + 1) _ (by omega) hlt (W.frame _ s' _ _ hst' (Nat.le_add_right _ _) fun b hb o e => ?_) kp2 ⟨M', rs', e1, tb', Z2, g'⟩ fun s2 M2 rs2 e2 tb2 mv2 Z3 g3 kp3 => ?_⟩
    · rw [sb.2 b (fun z : b = S => offS (by rw [← z]; exact hb))]
      exact e
    · refine hR s2 M2 rs2 e2 tb2 (Moved.trans W.gtrans ((mv.mono into).then_heap (Nat.le_add_right _ _) fun b o hb e => ?_) mv2) Z3 g3 kp3
      rw [sb.2 b (fun z : b = S => hb (by rw [z]; exact List.mem_cons_self))]
      exact e
abbrev newSet (w : World) : Obj := { cls := .type "set", dict := none, data := .set #[] 0 (.fresh 0 0 (!w.params.followText "set-order")) }
/-- set(xs) -/
theorem call_setX {l : Addr} {items : Array Value} (ks : List (Addr × List Int)) {Q : Value → Shared → Prop} (hh : A.handled = none) (hl : s.heap.IsList l items) (hit : items.toList = ks.map fun p => Value.ref p.1)
    (hk : ∀ p ∈ ks, IsT P w s.heap p.2 p.1) (most : ∀ L : List (List Int), L.Nodup → (∀ x ∈ L, x ∈ ks.map (·.2)) → L.length ≤ 64) (hu : A.units + 3 < cLine)
    (h : ∀ (g : Heap) (tk : Nat) M rs e0 tb, SetX P w g s.heap.objs.size M rs e0 tb → Got ks ks.length M → (∀ b o, s.heap.get? b = some o → g.get? b = some o) → Q (.ref s.heap.objs.size) { s with heap := g, toks := tk }) :
    wpAny (model P w) A (call (.type "set") [.ref l]) Q E s := by
  have sz : items.size = ks.length := by
    have q := congrArg List.length hit
    rwa [Array.length_toList, List.length_map] at q
  obtain ⟨c, tl, mro1⟩ := F.called_set.mro
  have made1 := F.called_set.made
  have sub1 := F.called_set.sub
  refine wpAny_call (codeAny_of_tree ?_)
  show wpAny _ _ (callAny (.type "set") _) _ _ _
  refine wpAny_pure ⟨Code.quiet_builtin _ (by decide +kernel), codeAny_builtin F.entry_type_call ?_⟩
  rw [Around.under_plain (weight_type_call_type "set" [.ref l] []) rfl]
  have k1 := F.called_set.notType
  have k2 := F.called_set.canCreate
  have k3 := F.typeCall_set_1 (.ref l)
  repeat (any_goals (first | assumption | wp_step))
  refine codeAny_mono (code_set_led1 (.ref l) (E := E) (Q₁ := fun obj s₁ => obj = .ref s.heap.objs.size ∧ s₁ = { s with heap := s.heap.push (newSet w) }) ⟨rfl, rfl⟩) fun r s₁ hr => ?_
  cases r with
  | error e => exact hr
  | ok fl =>
    cases fl with
    | ret obj =>
      obtain ⟨rfl, rfl⟩ := hr
      have atS : (s.heap.push (newSet w)).get? s.heap.objs.size = some (newSet w) := Heap.get?_push_size _ rfl
      have tyS : Shared.TypeIs { s with heap := s.heap.push (newSet w) } (.ref s.heap.objs.size) "set" := ⟨_, atS, rfl⟩
      have li := F.called_set.init.lookup
      have bi := F.called_set.init.bind (.ref s.heap.objs.size)
      repeat (any_goals (first | assumption | wp_step))
      refine codeAny_mono (codeAny_call_builtin (R := wants (fun r s₂ => r = .none ∧ ∃ g tk M rs e0 tb, s₂ = { s with heap := g, toks := tk } ∧ SetX P w g s.heap.objs.size M rs e0 tb ∧ Got ks ks.length M ∧
          (∀ b o, s.heap.get? b = some o → g.get? b = some o)) E) F.called_set.init.plain F.entry_set_init (check_set_init_1 tyS ?_)) fun r₂ s₂ hr₂ => ?_
      · obtain ⟨ol, hol, hcl, nl, hdl⟩ := hl
        obtain ⟨ocls, odict, odata, oslots⟩ := ol
        simp only at hcl hdl
        subst hcl
        subst hdl
        have hol2 : (s.heap.push (newSet w)).get? l = some { cls := .type "list", dict := odict, data := .seq items nl, slots := oslots } := Heap.get?_push_of_some _ hol
        have f1 := F.sub_list_set
        have f2 := F.sub_list_frozenset
        have f3 : (Value.type "list" == Value.type "dict") = false := by decide
        have isl : (s.heap.push (newSet w)).IsList l items := ⟨_, hol2, rfl, nl, rfl⟩
        unfold Builtin.«set.__init__» noKeywords Builtin.Frozenset.updateFrom
        generalize hPI : pyIter = PI
        wp_walk
        subst hPI
        refine wpAny_pyIter_list isl ?_
        refine wpAny_bind (wpAny_runValue ?_)
        have lS : l < s.heap.objs.size := Heap.lt_size hol
        have hh3 : A.in1.in1.in1.handled = none := by simp [hh]
        have nI : l ≠ (s.heap.push (newSet w)).objs.size := by
          rw [Heap.size_push]
          exact Nat.ne_of_lt (Nat.lt_succ_of_lt lS)
        have offS : s.heap.objs.size ∉ [(s.heap.push (newSet w)).objs.size, l] := by
          rw [Heap.size_push]
          simp only [List.mem_cons, List.mem_singleton, List.not_mem_nil, or_false, not_or]
          exact ⟨Nat.ne_of_lt (Nat.lt_succ_self _), Nat.ne_of_gt lS⟩
        have each : ∀ (i : Nat) (v : Value), items[i]? = some v → ∃ p, ks[i]? = some p ∧ v = .ref p.1 := fun i v hv => by
          have q : items.toList[i]? = some v := by
            rw [Array.getElem?_toList]
            exact hv
          rw [hit, List.getElem?_map] at q
          cases z : ks[i]? with
          | none =>
            rw [z] at q
            cases q
          | some p =>
            rw [z] at q
            exact ⟨p, rfl, (Option.some.inj q).symm⟩
        have nothing : ∀ b, s.heap.objs.size ≤ b → s.heap.get? b = none := fun b hb => by
          cases q : s.heap.get? b with
          | none => rfl
          | some o => exact absurd (Nat.lt_of_lt_of_le (Heap.lt_size q) hb) (Nat.lt_irrefl _)
        refine fill_x ((Walks.list hh3 _ l nI items).toS) s.heap.objs.size offS ks sz most each s.heap hk (nothing _ (Nat.le_refl _)) (fun b hb => nothing b (by
            rw [List.mem_singleton.mp hb, Heap.size_push]
            exact Nat.le_succ _)) hu (items.size - 0) 0 _ (by omega) (Nat.zero_le _)
          ⟨⟨_, Heap.get?_push_size _ rfl, rfl, rfl⟩, (isl.push _)⟩ (fun b o e => Heap.get?_push_of_some _ (Heap.get?_push_of_some _ e)) ?first ?last
        case first =>
          have at2 : ((s.heap.push (newSet w)).push { cls := .type "list_iterator", data := .fields #[.ref l, .int 0 0] }).get? s.heap.objs.size = some (newSet w) := Heap.get?_push_of_some _ atS
          exact ⟨[], #[], 0, _, x_of (setTR_fresh at2), Got.zero ks⟩
        case last =>
          intro s' M rs e0 tb mv Z g kp
          obtain ⟨h', g2, d', tk', os'⟩ := s'
          have eg : g2 = s.gens := mv.gens
          have ed : d' = s.drawn := mv.drawn
          have eo : os' = s.os := mv.os
          subst eg
          subst ed
          subst eo
          show wpAny _ _ _ _ _ _
          refine wpAny_pure ?_
          show wpAny _ _ (ret Value.none) _ _ _
          rw [sz] at g
          exact wpAny_pure ⟨rfl, h', tk', M, rs, e0, tb, rfl, Z, g, kp⟩
      · cases r₂ with
        | error e => exact hr₂
        | ok fl₂ =>
          cases fl₂ with
          | ret r =>
            obtain ⟨rfl, g, tk, M, rs, e0, tb, rfl, Z, gt, kp⟩ := hr₂
            repeat (any_goals (first | assumption | wp_step))
            exact h _ _ _ _ _ _ Z gt kp
          | _ => exact hr₂.elim
    | _ => exact hr.elim
end
section
variable {X : Cx}
def tLenSetX (K : PySem.W.Frag) (ta : TE) : TE := fun σ H Q => ta σ H fun x H1 => ∃ (l : Addr) (ks : List (Addr × List Int)), x = V.ref l ∧ SqL K H1 l (ks.map fun p => V.ref p.1) ∧ (∀ p ∈ ks, SqT K H1 p.1 (p.2.map V.int)) ∧ (∀ L : List (List Int), L.Nodup → (∀ x ∈ L, x ∈ ks.map (·.2)) → L.length ≤ 64) ∧
  ∀ M : List (Addr × List Int), (M.map (·.2)).Nodup → (∀ p ∈ M, p ∈ ks) → (∀ p ∈ ks, p.2 ∈ M.map (·.2)) → Q (.int M.length) H1
theorem pe_lenSetX {a : Expr} {ta : TE} {p p2 q pos : Pos} (hc : X.calm = true) (hu : X.A.units + 64 < cLine) (hg : Gl X "len") (hm : X.mg "len" = none) (hg2 : Gl X "set") (hm2 : X.mg "set" = none) (ha : PE X a ta)
    (na : starEach [a] X.env = (false, eval a X.env) :: starEach [] X.env := by rfl) : PE X (.Call (.Name "len" p) [.Call (.Name "set" p2) [a] [] q] [] pos) (tLenSetX X.K ta) := by
  refine ⟨fun pins s σ H Q I h => ?_⟩
  refine Call_ (ld_blt I hg hm PySem.boot_len (PyProof.Rows.callWith_builtin1 (PyProof.Rows.args_cons (Call_ (ld_blt I hg2 hm2 PyProof.Rows.boot_set (PyProof.Rows.callWith_type1 (PyProof.Rows.args_cons (thn (ha.run pins s σ H _ I h) fun v s1 ⟨x, H1, I1, r1, q1⟩ => PyProof.Rows.args_nil ?_) na) na rfl))) rfl) rfl rfl))
  obtain ⟨l, ks, rfl, hl, hk, most, q1⟩ := q1
  cases r1
  obtain ⟨its, rv, pl, hz⟩ := I1.list hl
  refine call_setX (P := X.prog) (w := X.w) ks (I1.ok.hd hc) pl.isList (by simpa using refs_of_vals rv) (fun p hp => I1.isT (hk p hp)) most (by omega) fun g tk M rs e0 tb Z gt kp => ?_
  have I2 : Inv X pins σ H1 { s1 with heap := g, toks := tk } := I1.kept kp
  obtain ⟨o, ho, hex, hd⟩ := Z.ob
  have ml : M.length ≤ 64 := by
    have q := most (M.map (·.2)) Z.nd fun y hy => by
      obtain ⟨r, hr, rfl⟩ := List.mem_map.mp hy
      exact List.mem_map.mpr ⟨r, List.mem_of_mem_take (gt.sub r hr), rfl⟩
    rwa [List.length_map] at q
  refine PyProof.Rows.args_nil (call_len_set ho hex hd Z.fits (by rw [Z.size]; omega) ⟨.int M.length, H1, I2.tok _, ⟨_, by rw [Z.size]⟩, q1 M Z.nd (fun p hp => List.mem_of_mem_take (gt.sub p hp)) fun p hp => gt.all p (by rw [List.take_length]; exact hp)⟩)
end
end LS
set_option Elab.async false
set_option linter.all false
set_option maxRecDepth 100000
set_option maxHeartbeats 4000000
/-! len(set(xs)), xs tuples of ints, up to 64 different ones, told by a function. -/
namespace FX
open PySem PySem.Spec PyProof.Rows L2 Evl DL
set_option autoImplicit false
variable [Kn]
def tupsOf : List PyData → Option (List (List Int))
  | [] => some []
  | .tuple es :: r => match intsOf es, tupsOf r with
    | some ns, some ks => some (ns :: ks)
    | _, _ => none
  | _ => none
def dd : List (List Int) → List (List Int)
  | [] => []
  | x :: xs => if x ∈ xs then dd xs else x :: dd xs
theorem dd_mem : ∀ {xs : List (List Int)} {x : List Int}, x ∈ dd xs ↔ x ∈ xs
  | [], x => by simp [dd]
  | y :: xs, x => by
    unfold dd
    split
    · rw [dd_mem, List.mem_cons]
      exact ⟨.inr, fun z => z.elim (fun e => by rw [e]; assumption) id⟩
    · rw [List.mem_cons, List.mem_cons, dd_mem]
theorem dd_nodup : ∀ xs : List (List Int), (dd xs).Nodup
  | [] => List.nodup_nil
  | y :: xs => by
    unfold dd
    split
    · exact dd_nodup xs
    · rename_i h
      exact List.nodup_cons.mpr ⟨fun z => h (dd_mem.mp z), dd_nodup xs⟩
theorem dd_le : ∀ xs : List (List Int), (dd xs).length ≤ xs.length
  | [] => Nat.le_refl _
  | y :: xs => by
    have := dd_le xs
    unfold dd
    split
    · simp only [List.length_cons]
      omega
    · simp only [List.length_cons]
      omega
theorem dd_all : ∀ xs : List (List Int), (dd xs).length = xs.length ↔ xs.Nodup
  | [] => by simp [dd]
  | y :: xs => by
    have ih := dd_all xs
    have le := dd_le xs
    unfold dd
    split
    · rename_i h
      rw [List.nodup_cons]
      simp only [List.length_cons]
      exact ⟨fun z => by omega, fun z => absurd h z.1⟩
    · rename_i h
      rw [List.nodup_cons, List.length_cons, List.length_cons]
      exact ⟨fun z => ⟨h, ih.mp (by omega)⟩, fun z => by rw [ih.mpr z.2]⟩
theorem sub_len {A : Type} [DecidableEq A] : ∀ (L K : List A), L.Nodup → (∀ x ∈ L, x ∈ K) → L.length ≤ K.length
  | [], _, _, _ => Nat.zero_le _
  | x :: L, K, nd, h => by
    have nd := List.nodup_cons.mp nd
    have hx := h x List.mem_cons_self
    have ih := sub_len L (K.erase x) nd.2 fun y hy => (List.mem_erase_of_ne fun z => nd.1 (by rw [← z]; exact hy)).mpr (h y (List.mem_cons_of_mem _ hy))
    have pos := List.length_pos_of_mem hx
    rw [List.length_erase_of_mem hx] at ih
    rw [List.length_cons]
    omega
def lenSetD : PyData → Option PyData
  | .list ds => match tupsOf ds with
    | some ks => if (dd ks).length ≤ 64 then some (.int ((dd ks).length : Int)) else none
    | none => none
  | _ => none
theorem rp_tups {N : Hp} : ∀ {ds : List PyData} {xs : List V} {ks : List (List Int)}, RpAll N xs ds → tupsOf ds = some ks → ∃ ps : List (Addr × List Int), xs = ps.map (fun p => V.ref p.1) ∧ ps.map (·.2) = ks ∧ ∀ p ∈ ps, SqT KK N p.1 (p.2.map V.int)
  | [], _, ks, .nil, h => by
    cases h
    exact ⟨[], rfl, rfl, fun p hp => nomatch hp⟩
  | .tuple es :: r, _, ks, .cons q rr, h => by
    unfold tupsOf at h
    split at h
    · rename_i ns ks' h1 h2
      cases h
      obtain ⟨ps, rfl, e2, e3⟩ := rp_tups rr h2
      have e4 := intsOf_is h1
      subst e4
      cases q with
      | @tup a ys _ hr hall =>
        have e5 : ys = ns.map V.int := RpAll.ofInts hall
        subst e5
        exact ⟨(a, ns) :: ps, rfl, by simp [e2], fun p hp => (List.mem_cons.mp hp).elim (fun z => by rw [z]; exact set_of_rd hr) (e3 p)⟩
    · cases h
  | .none :: r, _, ks, _, h => by simp [tupsOf] at h
  | .bool _ :: r, _, ks, _, h => by simp [tupsOf] at h
  | .int _ :: r, _, ks, _, h => by simp [tupsOf] at h
  | .str _ :: r, _, ks, _, h => by simp [tupsOf] at h
  | .list _ :: r, _, ks, _, h => by simp [tupsOf] at h
  | .dict _ :: r, _, ks, _, h => by simp [tupsOf] at h
theorem fe_lenSet {te : TE} {f : De → Option PyData} (h : FE te f) : FE (LS.tLenSetX KK te) (e1 lenSetD f) := fun ds z e => by
  unfold e1 at e
  split at e
  · rename_i d hd
    unfold lenSetD at e
    split at e
    · rename_i es
      cases q : tupsOf es with
      | none =>
        rw [q] at e
        cases e
      | some ks =>
        rw [q] at e
        simp only at e
        split at e
        · rename_i most
          cases e
          intro σ N hs H eN Q k
          refine h ds _ hd σ N hs H eN _ fun v H1 N1 e1 n1 k1 g1 r1 => ?_
          cases r1 with
          | lst hr hall =>
            obtain ⟨ps, rfl, e2, e3⟩ := rp_tups hall q
            refine ⟨_, ps, rfl, ex_l k1 hr, fun p hp => ?_, fun L nd sub => ?_, fun M nd sub all => ?_⟩
            · exact ex_t k1 (e3 p hp)
            · rw [e2] at sub
              exact Nat.le_trans (sub_len L (dd ks) nd fun y hy => dd_mem.mpr (sub y hy)) most
            · have pm : (M.map (·.2)).Perm (dd ks) := (List.perm_ext_iff_of_nodup nd (dd_nodup ks)).mpr fun a => by
                rw [dd_mem, ← e2]
                exact ⟨fun z => by
                  obtain ⟨p, hp, rfl⟩ := List.mem_map.mp z
                  exact List.mem_map.mpr ⟨p, sub p hp, rfl⟩, fun z => by
                  obtain ⟨p, hp, rfl⟩ := List.mem_map.mp z
                  exact all p hp⟩
              have el := pm.length_eq
              rw [List.length_map] at el
              rw [el]
              exact k (.int _) H1 N1 e1 n1 k1 g1 (.int _)
        · cases e
    · cases e
  · cases e
theorem k_lenSet {X : Cx} {K : PySem.W.Frag} {a : Expr} {ta : TE} {p p2 q pos : Pos} (hc : X.calm = true) (hu : X.A.units + 100 < cLine) (hg : Gl X "len") (hm : X.mg "len" = none) (hg2 : Gl X "set") (hm2 : X.mg "set" = none) (ha : PE X a ta) (hK : X.K = K := by rfl)
    (na : starEach [a] X.env = (false, eval a X.env) :: starEach [] X.env := by rfl) : PE X (.Call (.Name "len" p) [.Call (.Name "set" p2) [a] [] q] [] pos) (LS.tLenSetX K ta) := by
  subst hK
  exact LS.pe_lenSetX hc (by omega) hg hm hg2 hm2 ha na
end FX
set_option Elab.async false
set_option linter.all false
set_option maxRecDepth 100000
set_option maxHeartbeats 4000000
/-! list(reversed(xs)), xs a list: a new list. -/
namespace LR
open PySem PySem.Spec PyProof.Rows L2
set_option autoImplicit false
theorem lri_len : typeLookup (.type "list_reverseiterator") "__len__" = pure none := by rw [typeLookup_type, builtinLookup_eq_fast]; kernel_rfl
theorem lri_hint : typeLookup (.type "list_reverseiterator") "__length_hint__" = pure (some (.builtin "list_reverseiterator.__length_hint__")) := by rw [typeLookup_type, builtinLookup_eq_fast]; kernel_rfl
section
variable {prog : Program} {w : World} {A : Around} {E : Value → Shared → Prop} {s : Shared}
abbrev newL : Obj := { cls := .type "list", dict := none, data := .seq #[] 0, slots := #[] }
theorem call_list_rev {it l : Addr} {items : Array Value} {Q : Value → Shared → Prop} (hh : A.handled = none) (hit : s.heap.IsRevIter it l ((items.size : Int) - 1)) (hl : s.heap.IsList l items) (hne : l ≠ it) (hn : items.size ≤ sizeLine)
    (hQ : ∀ (g : Heap) (tk : Nat) (acc : Array Value) (c : Nat), (∀ b o, b ≠ it → s.heap.get? b = some o → g.get? b = some o) → g.get? s.heap.objs.size = some { cls := .type "list", dict := none, data := .seq acc c, slots := #[] } → ItemsOf (fun i v => items[items.size - 1 - i]? = some v) acc items.size → Q (.ref s.heap.objs.size) { s with heap := g, toks := tk }) :
    wpAny (model prog w) A (call (.type "list") [.ref it]) Q E s := by
  have W := (Walks.listRev (prog := prog) (w := w) (A := A.in1.in1) hh it l hne items).toS
  obtain ⟨oi, hoi, _⟩ := id hit
  obtain ⟨ol, hol, _⟩ := id hl
  have off : s.heap.objs.size ∉ [it, l] := fun z => by
    rcases List.mem_cons.mp z with z | z
    · exact Nat.lt_irrefl _ (z ▸ Heap.lt_size hoi)
    · exact Nat.lt_irrefl _ (List.mem_singleton.mp z ▸ Heap.lt_size hol)
  have noI : s.heap.objs.size ≠ it := fun z => off (by rw [z]; exact List.mem_cons_self)
  have e0 : ((items.size : Nat) : Int) - 1 - ((0 : Nat) : Int) = (items.size : Int) - 1 := by omega
  refine callType_codes (Q₁ := fun obj s₁ => obj = .ref s.heap.objs.size ∧ s₁ = { s with heap := s.heap.push newL }) F.called_list (F.typeCall_list_1 _) F.entry_list_init (code_list_new _ ⟨rfl, rfl⟩) fun obj s₁ h₁ => ?_
  obtain ⟨rfl, rfl⟩ := h₁
  have atS : (s.heap.push newL).get? s.heap.objs.size = some newL := Heap.get?_push_size _ rfl
  refine ⟨⟨_, atS, rfl⟩, F.args_list_init_2 _ _, ?_⟩
  show wpAny _ _ (do let old ← Builtin.List.listItems (.ref s.heap.objs.size); Builtin.List.listUpdate (.ref s.heap.objs.size) (fun _ => #[]); letGo old.toList.reverse; Builtin.List.listExtendWith (.ref s.heap.objs.size) (.ref it) .none) _ _ _
  have same : ∀ b, b ≠ s.heap.objs.size → ((s.heap.push newL).update s.heap.objs.size (Obj.mapSeq (fun _ => (#[] : Array Value)))).get? b = (s.heap.push newL).get? b := fun b hb => Heap.get?_update_other _ _ (Ne.symm hb)
  have atS2 := Heap.get?_update_self (Obj.mapSeq (fun _ => (#[] : Array Value))) atS rfl
  have kp : ∀ b o, s.heap.get? b = some o → ((s.heap.push newL).update s.heap.objs.size (Obj.mapSeq (fun _ => (#[] : Array Value)))).get? b = some o := fun b o e => by
    rw [same b fun z => Nat.lt_irrefl _ (z ▸ Heap.lt_size e)]
    exact Heap.get?_push_of_some _ e
  have hit1 := hit.at (h' := (s.heap.push newL).update s.heap.objs.size (Obj.mapSeq (fun _ => (#[] : Array Value)))) fun o e => kp it o e
  have hl1 := hl.at (h' := (s.heap.push newL).update s.heap.objs.size (Obj.mapSeq (fun _ => (#[] : Array Value)))) fun o e => kp l o e
  refine wpAny_bind (m := Builtin.List.listItems (.ref s.heap.objs.size)) (by
    unfold Builtin.List.listItems
    refine wpAny_bind (wpAny_seqItems atS rfl (wpAny_pure (wpAny_bind (m := updateSeq s.heap.objs.size (fun _ => #[])) (wpAny_updateSeq atS rfl (wpAny_bind (wpAny_letGo ?_))))))
    generalize (s.heap.push newL).update s.heap.objs.size (Obj.mapSeq (fun _ => (#[] : Array Value))) = g1 at same atS2 kp hit1 hl1 ⊢
    have hT : Shared.TypeIs { s with heap := g1 } (.ref it) "list_reverseiterator" := hit1.typeIs
    unfold Builtin.List.listExtendWith
    refine wpAny_bind (wpAny_typeOf hT ?_)
    have n1 : Builtin.List.listSameRef (.ref s.heap.objs.size) (.ref it) = false := by simp [Builtin.List.listSameRef, noI]
    rw [if_neg (by rw [n1]; decide)]
    refine wpAny_bind (m := pyIter (.ref it)) (wpAny_pyIter_revIter hit1 ?_)
    refine wpAny_bind (wpAny_holding ?_)
    unfold Builtin.List.listLengthHint
    refine wpAny_bind (wpAny_specialOf hT lri_len ?_)
    show wpAny _ _ (specialOf (Value.ref it) (Str.ofString "__length_hint__") >>= _) _ _ _
    refine wpAny_bind (wpAny_specialOf hT lri_hint ?_)
    generalize hid : ("list_reverseiterator.__length_hint__" : String) = id0
    wp_delta
    rw [show splitId id0 = some ("list_reverseiterator", "__length_hint__") from by subst hid; decide +kernel]
    subst hid
    refine wpAny_bind (wpAny_isInstance (b := true) hT (by rw [isSubtype_type]; kernel_rfl) ?_)
    refine wpAny_pure ?_
    rw [if_neg (by decide)]
    refine wpAny_pure ⟨plainId_quiet F.plain_extend_loop _, codeAny_extend_loopS W hn _ off _ items.size 0 _ _ _ rfl (Nat.zero_le _) ⟨Nat.zero_le _, by rw [e0]; exact hit1, hl1⟩ atS2 (ItemsOf.nil _) fun s' acc c mv hS' ac => ?_⟩
    refine ⟨rfl, ?_⟩
    rw [Moved.eq_with mv]
    refine hQ s'.heap s'.toks acc c (fun b o hb e => mv.heap b o (fun z => ?_) (kp b o e)) hS' ac
    rcases List.mem_cons.mp z with z | z
    · exact Nat.lt_irrefl _ (z ▸ Heap.lt_size e)
    · exact hb (List.mem_singleton.mp z))
end
section
variable {X : Cx}
def tListRev (K : PySem.W.Frag) (te : TE) : TE := fun σ H Q => te σ H fun v H1 => ∃ (a : Addr) (xs : List V), v = .ref a ∧ SqL K H1 a xs ∧ ∀ q, H1 q = none → Q (.ref q) (upd H1 q (.lst xs.reverse))
theorem pe_listRev {e : Expr} {te : TE} {p p2 pos pos2 : Pos} (hc : X.calm = true) (hg : Gl X "list") (hm : X.mg "list" = none) (hg2 : Gl X "reversed") (hm2 : X.mg "reversed" = none) (he : PE X e te)
    (hs : starEach [e] X.env = (false, eval e X.env) :: starEach [] X.env := by rfl)
    (hs2 : starEach [.Call (.Name "reversed" p2) [e] [] pos2] X.env = (false, eval (.Call (.Name "reversed" p2) [e] [] pos2) X.env) :: starEach [] X.env := by rfl) :
    PE X (.Call (.Name "list" p) [.Call (.Name "reversed" p2) [e] [] pos2] [] pos) (tListRev X.K te) := by
  refine ⟨fun pins s σ H Q I h => ?_⟩
  refine Call_ (ld_blt I hg hm PyProof.Rows.boot_list (PyProof.Rows.callWith_type1 (args_cons (Call_ (ld_blt I hg2 hm2 PyProof.Rows.boot_reversed (PyProof.Rows.callWith_type1 (args_cons (thn (he.run pins s σ H _ I h) fun u s1 ⟨v, H1, I1, r1, q1⟩ => args_nil ?_) hs) hs rfl))) hs2) hs2 rfl))
  obtain ⟨a, xs, ev, hq, q⟩ := q1
  subst ev
  obtain rfl : u = Value.ref a := r1
  obtain ⟨its, rv, p', hz⟩ := I1.list hq
  refine call_reversed_list p'.isList (args_nil ?_)
  have I2 : Inv X pins σ H1 { s1 with heap := s1.heap.push (revObj a ((its.toArray.size : Int) - 1)) } := I1.kept (t' := s1.toks) fun b o e => Heap.get?_push_of_some _ e
  obtain ⟨f0, f1, f2, f3, f4, f5⟩ := I1.fpOk (H' := H1) (b := s1.heap.objs.size) (Nat.le_refl _) (I1.hok.fresh (Nat.le_refl _))
  have hl := p'.isList
  obtain ⟨ol, hol, _⟩ := id hl
  have hne : a ≠ s1.heap.objs.size := Nat.ne_of_lt (Heap.lt_size hol)
  have hn : its.toArray.size ≤ sizeLine := by
    rw [List.size_toArray, ← rv.length]
    exact hz
  have fr : H1 (s1.heap.push (revObj a ((its.toArray.size : Int) - 1))).objs.size = none := I2.hok.fresh (Nat.le_refl _)
  refine call_list_rev (s := { s1 with heap := s1.heap.push (revObj a ((its.toArray.size : Int) - 1)) }) (I1.ok.hd hc) ⟨_, Heap.get?_push_size _ rfl, rfl, rfl⟩ (hl.push _) hne hn fun g tk acc c hk hS hi => ?_
  have I3 : Inv X pins σ H1 { s1 with heap := g, toks := tk } := I2.turned (t' := tk) (fun b o hb e => hk b o hb e) f0 f1 f3 f4 f5
  refine ⟨.ref (s1.heap.push (revObj a ((its.toArray.size : Int) - 1))).objs.size, upd H1 (s1.heap.push (revObj a ((its.toArray.size : Int) - 1))).objs.size (.lst xs.reverse), ?_, rfl, q _ fr⟩
  exact I2.turnedNew (t' := tk) (ch := [s1.heap.objs.size]) (fun b o hb e => hk b o (fun z => hb (by rw [z]; exact List.mem_singleton.mpr rfl)) e) (fun b hb => by rw [List.mem_singleton.mp hb]; exact ⟨f0, f1, f2, f3, f4, f5⟩) (Nat.le_refl _) ⟨by rw [List.length_reverse]; exact hz, acc.toList, c, RT.vals_rev rv hi, by rw [hS, Array.toArray_toList]⟩
end
end LR
set_option Elab.async false
set_option linter.all false
set_option maxRecDepth 100000
set_option maxHeartbeats 4000000
/-! list(reversed(xs)) told by a function. -/
namespace FX
open PySem PySem.Spec PyProof.Rows L2 Evl DL
set_option autoImplicit false
variable [Kn]
theorem RpAll.snoc1 {N : Hp} : ∀ {vs : List V} {ds : List PyData} {v : V} {d : PyData}, RpAll N vs ds → Rp N v d → RpAll N (vs ++ [v]) (ds ++ [d])
  | _, _, _, _, .nil, r => .cons r .nil
  | _, _, _, _, .cons h t, r => .cons h (RpAll.snoc1 t r)
theorem RpAll.rev1 {N : Hp} : ∀ {vs : List V} {ds : List PyData}, RpAll N vs ds → RpAll N vs.reverse ds.reverse
  | _, _, .nil => .nil
  | _, _, .cons h t => by
    rw [List.reverse_cons, List.reverse_cons]
    exact RpAll.snoc1 (RpAll.rev1 t) h
def revD : PyData → Option PyData
  | .list ds => some (.list ds.reverse)
  | _ => none
theorem fe_listRev {te : TE} {f : De → Option PyData} (h : FE te f) : FE (LR.tListRev KK te) (e1 revD f) := fun ds z e => by
  unfold e1 at e
  split at e
  · rename_i d hd
    unfold revD at e
    split at e
    · cases e
      intro σ N hs H eN Q k
      refine h ds _ hd σ N hs H eN _ fun v H1 N1 e1 n1 k1 g1 r1 => ?_
      cases r1 with
      | lst hr hall =>
        refine ⟨_, _, rfl, ex_l k1 hr, fun p hp => ?_⟩
        obtain ⟨a1, a2, a3, a4, a5⟩ := laid (o := .lst _) e1 n1 k1 g1 hp
        exact k (.ref p) _ _ a1 a2 a3 a4 (.lst (sq_of upd_same) ((RpAll.rev1 hall).mono a5))
    · cases e
  · cases e
theorem k_listRev {X : Cx} {K : PySem.W.Frag} {e : Expr} {te : TE} {p p2 pos pos2 : Pos} (hc : X.calm = true) (hg : Gl X "list") (hm : X.mg "list" = none) (hg2 : Gl X "reversed") (hm2 : X.mg "reversed" = none) (he : PE X e te) (hK : X.K = K := by rfl)
    (hs : starEach [e] X.env = (false, eval e X.env) :: starEach [] X.env := by rfl)
    (hs2 : starEach [.Call (.Name "reversed" p2) [e] [] pos2] X.env = (false, eval (.Call (.Name "reversed" p2) [e] [] pos2) X.env) :: starEach [] X.env := by rfl) :
    PE X (.Call (.Name "list" p) [.Call (.Name "reversed" p2) [e] [] pos2] [] pos) (LR.tListRev K te) := by
  subst hK
  exact LR.pe_listRev hc hg hm hg2 hm2 he hs hs2
theorem pb_B {i : Nat} {a : Addr} {te : TE} {ds : De} {b : Bool} (h : EvP i a te ds (.bool b)) : EvPB i a (tB te) ds b := fun σ N hi hs H eN Q q => h σ N hi hs H eN _ fun v H' N' e _ _ _ r => by
  cases r
  exact ⟨b, rfl, q H' e⟩
end FX
set_option Elab.async false
set_option linter.all false
set_option maxRecDepth 100000
set_option maxHeartbeats 4000000
/-! min of three ints told by a function. -/
namespace FX
open PySem PySem.Spec PyProof.Rows L2 Evl DL
set_option autoImplicit false
variable [Kn]
def least2 (i j : Int) : Int := if j < i then j else i
def min3L : List PyData → Option PyData
  | [.int i, .int j, .int k] => some (.int (least2 (least2 i j) k))
  | _ => none
theorem nu2 (i j : Int) : nuMin2 (.int i) (.int j) = some (.int (least2 i j)) := by
  show (some (decide (j < i))).map (fun c => if c = true then V.int j else V.int i) = _
  unfold least2
  by_cases h : j < i
  · simp [h]
  · simp [h]
theorem rc_min3 : RC (rNuC3 nuMin3) min3L := fun vs N H ds z q eN rv Q k => by
  unfold min3L at q
  split at q
  · cases q
    cases rv with
    | cons r rr =>
      cases rr with
      | cons r2 rr =>
        cases rr with
        | cons r3 rr =>
          cases rr
          cases r
          cases r2
          cases r3
          refine ⟨_, _, _, _, rfl, ?_, k.val eN (.int _)⟩
          unfold nuMin3
          rw [nu2]
          exact nu2 _ _
  · cases q
end FX
set_option Elab.async false
set_option linter.all false
set_option maxRecDepth 100000
set_option maxHeartbeats 4000000
/-! try with several clauses 'except X as e'. -/
namespace L2
open PySem PySem.Spec PyProof.Rows
set_option autoImplicit false
/-- what the clauses wish of an exception of the body, one behind the other -/
def wAsN (K : PySem.W.Frag) (Wo : WX) (D : Ends) : List (Value × Nat × (Addr → Value → Option Addr → TS)) → WX
  | [] => Wo
  | (cv, i, ts) :: l => wAs K cv i ts (wAsN K Wo D l) D
inductive AsOk (X : Cx) : List ExceptHandler → List (Value × Nat × (Addr → Value → Option Addr → TS)) → Prop
  | nil : AsOk X [] []
  | cons {x n : Str} {cv : Value} {i : Nat} {ts : Addr → Value → Option Addr → TS} {one : Stmt} {more : List Stmt} {p1 p2 : Pos} {hds : List ExceptHandler} {l : List (Value × Nat × (Addr → Value → Option Addr → TS))} (at_ : X.N[i]? = some n) (lo : X.env.kindOf n = some .local) (nm : Names X x cv)
      (caught : ∀ (a : Addr) (oe : Obj) (cls : Value) (dc : Option Addr) (pn : List (Addr × Obj)), Zc cls dc oe → (∃ vs, oe.data = .fields vs) → PSs (X.suite a ((a, oe) :: pn)) (one :: more) (ts a cls dc)) (r : AsOk X hds l) :
      AsOk X (.ExceptHandler (some (.Name x p1)) (some n) (one :: more) p2 :: hds) ((cv, i, ts) :: l)
section
variable {X : Cx} {body : List Stmt} {h0 : ExceptHandler} {hds : List ExceptHandler} {l : List (Value × Nat × (Addr → Value → Option Addr → TS))} {pos : Pos} {tb : WX → TS} {Wo : WX}
theorem ps_try_asN (st : X.stack = X.env :: X.outer) (fr : X.env.frame = some X.env.locals) (hN : X.N.Nodup) (tk : Takes X Wo)
    (inner : ∀ (W : WX) (pn : List (Addr × Obj)) (xe : Value → Shared → Prop), Takes (X.tr pn xe) W → PassesOwn (model X.prog X.w) X.A X.env xe → PSs (X.tr pn xe) body (tb W))
    (hh : AsOk X (h0 :: hds) l) : PS X (.Try body (h0 :: hds) [] [] pos) (fun D σ H => tb (wAsN X.K Wo D l) D σ H) := by
  refine ⟨fun pins s σ H D I h => ?_⟩
  have ok := I.ok
  have frs1 : X.A.frames = some (X.env :: X.outer) := by rw [ok.frames, st]
  refine wpAny_Try_except ?_
  refine wpAny_mono ((inner (wAsN X.K Wo D l) (X.pn ++ pins) (fun e s₁ => wpAny (model X.prog X.w) X.A (noteFrame e X.env) (fun _ s₂ => wpAny (model X.prog X.w) X.A (setFlight e none) (fun _ s₃ =>
    wpAny (model X.prog X.w) X.A (handleBy e X.env (h0 :: hds)) (SP X pins D) X.xe s₃) X.xe s₂) X.xe s₁) (fun u s' xx => ?_) PassesOwn.looking).run [] s σ H D (I.toTry _) h) (fun f s1 after => ?_) (fun e s1 he => he)
  · obtain ⟨a, B, sI, pins', σ', H', cls, d, rfl, J', nb, up, sky, na, os, ag, w⟩ := xx
    have J : Inv X pins σ' H' sI := J'.ofTry ok
    have sky' : Sky B (X.env :: X.outer) a (Zc cls d) X.env.locals s'.heap := by rw [← st]; exact sky
    show wpAny _ X.A (noteFrame (.ref a) X.env) _ _ _
    refine Sky.land Zc.steady frs1 fr sky' fun h3 fl3 up3 => ?_
    have J3 : Inv X pins σ' H' { s' with heap := h3 } := J.landed nb fl3.1 (up.trans up3) os ag
    obtain ⟨oe3, vs3, he3, hz3, hd3⟩ := fl3.there
    have apart : ∀ {g : Heap} {o : Obj} {vs : Array Value}, g.FunFrames B (X.env :: X.outer) → g.get? a = some o → o.data = .fields vs → a ∉ frs (X.env :: X.outer) := fun {g o vs} ff e dd hm => by
      obtain ⟨_, o', e', hnf⟩ := ff.mem hm
      rw [e] at e'
      cases e'
      exact hnf _ dd
    have nfr := apart fl3.2.2.1 he3 hd3
    have nL : a ≠ X.env.locals := fun z => nfr (List.mem_filterMap.mpr ⟨X.env, List.mem_cons_self, by rw [fr, z]⟩)
    have nF : a ∉ X.fs := fun hm => by
      obtain ⟨e, he, q⟩ := List.mem_filterMap.mp hm
      exact nfr (List.mem_filterMap.mpr ⟨e, List.mem_cons_of_mem _ he, q⟩)
    have S3 := J3.suite he3 hd3 na nL nF
    have go : ∀ {hs2 : List ExceptHandler} {l2 : List (Value × Nat × (Addr → Value → Option Addr → TS))}, AsOk X hs2 l2 → wAsN X.K Wo D l2 cls d σ' H' →
        wpAny (model X.prog X.w) X.A (handleBy (.ref a) X.env hs2) (SP X pins D) X.xe { s' with heap := h3 } := by
      intro hs2 l2 hk
      induction hk with
      | nil =>
        intro w
        refine wpAny_handleBy_nil ?_
        obtain ⟨k1, k2, k3, oe, vs, T, oT, ts', he, hz, hd, h1, hr⟩ := id fl3
        unfold PySem.passOn
        refine wpAny_bind (wpAny_field he hd h1 ?_)
        rw [if_neg (show ¬ ((Value.ref T == Value.none) = true) from by simp)]
        have fin : wpAny (model X.prog X.w) X.A (setFlight (.ref a) X.env.frame) (fun _ s4 => wpAny (model X.prog X.w) X.A (throw (.ref a) : Sem Flow) (SP X pins D) X.xe s4) X.xe { s' with heap := h3 } := by
          rw [fr]
          refine HandSPX.setFlight_upZ fl3 fun h4 hh4 up4 => wpAny_throw (tk _ _ ?_)
          exact ⟨a, B, sI, pins, σ', H', cls, d, rfl, J, nb, (up.trans up3).trans up4, .inr (.inr (by rw [st]; exact hh4)), na, os, ag, w⟩
        first
          | exact wpAny_bind (wpAny_pure (wpAny_bind fin))
          | exact wpAny_bind fin
      | @cons x n cv i ts one more p1 p2 hds2 l2 at_ lo nm caught r ih =>
        intro w
        obtain ⟨b, hb1, hyes, hno⟩ := w
        have loc : Loc X.env.scope n := .inl lo
        refine wpAny_handleBy_cons (codeAny_handlers_test ?_) (by intro q; cases q)
        have LT : PySem.W.Looks (model X.prog X.w) h3 (typeOf (.ref a)) cls := fun A Q E s k q => wpAny_typeOf_ref (k _ _ he3) (by rw [hz3.1]; exact q)
        have LM := PySem.W.exm_one (M := model X.prog X.w) (J3.kIn) LT hb1
        have test : ∀ {Q : Value → Shared → Prop} {E : Value → Shared → Prop}, Q cv { s' with heap := h3 } → wpAny (model X.prog X.w) (X.A.mark (some (.ref a))) (eval (.Name x p1) X.env) Q E { s' with heap := h3 } := fun {Q E} q => by
          obtain ⟨hg, hdbg, hm | ⟨hm, hv, hnn⟩⟩ := nm
          · exact ld_glob (X := X.suite a ((a, oe3) :: (X.pn ++ pins))) S3 hg hm q hdbg
          · exact ld_blt (X := X.suite a ((a, oe3) :: (X.pn ++ pins))) S3 hg hm hv q hnn hdbg
        refine test (LM.here ?_)
        cases b with
        | true =>
          refine codeAny_handlers_suite_as ?_
          refine HandSPX.lands_againZ fl3 fun h4 fl4 up4 => ?_
          have J4 : Inv X pins σ' H' { s' with heap := h4 } := J.landed nb fl4.1 ((up.trans up3).trans up4) os ag
          obtain ⟨oe4, vs4, he4, hz4, hd4⟩ := fl4.there
          have S4 := J4.suite he4 hd4 na nL nF
          refine store_ok (X := X.suite a ((a, oe4) :: (X.pn ++ pins))) (v := .ref a) S4 hN at_ loc rfl (fun s5 S5 => ?_) (.inr lo)
          refine wpAny_mono ((caught a oe4 cls d (X.pn ++ pins) hz4 ⟨_, hd4⟩).run [] s5 _ H' _ S5 (hyes rfl a na)) (fun f s6 after => ?_) (fun _ _ z => False.elim z)
          have done : ∀ {σ6 : St} {H6 : Hp} {Q : Shared → Prop}, Inv (X.suite a ((a, oe4) :: (X.pn ++ pins))) [] σ6 H6 s6 → (∀ s7, Inv X pins (σ6.set i none) H6 s7 → Q s7) →
              wpAny (model X.prog X.w) X.A (do bindName X.env n .none; unbindBehindTheSuite X.env n p2) (fun _ s7 => Q s7) X.xe s6 := fun {σ6 H6 Q} S6 hq => gone_ok (S6.unsuite ok) hN at_ lo hq
          cases f with
          | next =>
            obtain ⟨σ6, H6, S6, q6⟩ := after
            exact done S6 fun s7 J7 => ⟨_, _, J7, q6⟩
          | brk =>
            obtain ⟨σ6, H6, S6, q6⟩ := after
            exact done S6 fun s7 J7 => ⟨_, _, J7, q6⟩
          | cont =>
            obtain ⟨σ6, H6, S6, q6⟩ := after
            exact done S6 fun s7 J7 => ⟨_, _, J7, q6⟩
          | ret u =>
            obtain ⟨v6, σ6, H6, S6, r6, q6⟩ := after
            exact done S6 fun s7 J7 => ⟨_, _, _, J7, r6, q6⟩
        | false => exact ih (hno rfl)
    exact go hh w
  · cases f with
    | next =>
      obtain ⟨σ', H', J', q⟩ := after
      exact wpAny_execs_nil ⟨σ', H', J'.ofTry ok, q⟩
    | brk =>
      obtain ⟨σ', H', J', q⟩ := after
      exact ⟨σ', H', J'.ofTry ok, q⟩
    | cont =>
      obtain ⟨σ', H', J', q⟩ := after
      exact ⟨σ', H', J'.ofTry ok, q⟩
    | ret u =>
      obtain ⟨v, σ', H', J', r, q⟩ := after
      exact ⟨v, σ', H', J'.ofTry ok, r, q⟩
end
end L2
set_option Elab.async false
set_option linter.all false
set_option maxRecDepth 100000
set_option maxHeartbeats 4000000
/-! try with several clauses told by functions; suites that look at the error themselves. -/
namespace FX
open PySem PySem.Spec PyProof.Rows L2 Evl DL
set_option autoImplicit false
variable [Kn]
abbrev Cl : Type := Value × Nat × (Addr → Value → Option Addr → TS)
/-- which clause takes an error, and what its suite comes to -/
inductive Gets (i : Nat) (C : Value) (d : PyData) : List Cl → Prop
  | here {cv : Value} {ts : Addr → Value → Option Addr → TS} {l : List Cl} : PySem.W.exmOne KK C cv = some true → (∀ a ds, EvSu i (ts a C none) a ds d) → Gets i C d ((cv, i, ts) :: l)
  | next {cv : Value} {j : Nat} {ts : Addr → Value → Option Addr → TS} {l : List Cl} : PySem.W.exmOne KK C cv = some false → Gets i C d l → Gets i C d ((cv, j, ts) :: l)
theorem gets_w {i : Nat} {C : Value} {d : PyData} {l : List Cl} (g : Gets i C d l) {Wo : WX} {D : Ends} {σ : St} {H : Hp} (go : ∀ ts : Addr → Value → Option Addr → TS, (∀ a ds, EvSu i (ts a C none) a ds d) → ∀ p, H p = none → ts p C none { nx := fun σ' H' => D.nx (σ'.set i none) H', rt := D.rt, bk := fun σ' H' => D.bk (σ'.set i none) H', ct := fun σ' H' => D.ct (σ'.set i none) H' } (σ.set i (some (.ref p))) H) : wAsN KK Wo D l C none σ H := by
  induction g with
  | here h hs => exact ⟨true, h, fun _ p hp => go _ hs p hp, fun z => nomatch z⟩
  | next h _ ih => exact ⟨false, h, (fun z => nomatch z), fun _ => ih⟩
def tTryN (l : List Cl) (tb : WX → TS) (Wo : WX) : TS := fun D σ H => tb (wAsN KK Wo D l) D σ H
section
variable {os : List Nat} {rc : Nat} {cm : String → Addr} {W : WX} {i : Nat}
theorem fs_tryN {l : List Cl} {tb : WX → TS} {Wo : WX} {body : De → Option GO} {hd : String → Option PyData} (hr : rc = 0) (hi : os.getD i 0 = 0) (hb : ∀ W', FS os rc cm W' (tb W') body)
    (hs : ∀ c d, hd c = some d → Gets i (.ref (cm c)) d l) : FS os rc cm W (tTryN l tb Wo) (sTry os i hd body) := fun ds o e pv σ N H F g eN D a => by
  unfold sTry at e
  have run := hb (wAsN KK Wo D l) ds
  split at e
  · rename_i c ds1 h1
    split at e
    · rename_i d hd1
      split at e
      · rename_i lt
        cases e
        have gs := hs c d hd1
        refine run _ h1 pv σ N H F g eN D fun σ' N' H' F' o S s1 g1 p ap => ?_
        cases o with
        | none =>
          refine gets_w gs fun ts hsu p hp => ?_
          have hid : Holds N' (σ'.set i (some (.ref p))) ((hideD os ds1).set i none) := g1.hide.setIn i _
          refine hsu p _ (σ'.set i (some (.ref p))) N' (by rw [List.getElem?_set_self (by rw [g1.len]; exact lt)]) hid _ H' s1.k fun v H2 N2 e2 n2 k2 r2 q2 => ?_
          have g2 : Hg pv N2 H2 σ' ds1 os F' := (g1.mono e2).monoN n2 fun j x hx => by
            cases z : N2 x with
            | none => rfl
            | some o =>
              rcases r2 x (by rw [z]; intro w; cases w) with w | w
              · exact absurd (g1.ou j x hx) w
              · exact absurd w (g1.th j x hx)
          refine a v σ' N2 H2 (F'.put i []) [] ((s1.trans (Stp.growN n2 k2 e2 r2)).trans ⟨Ex.refl _, k2, fun _ _ => rfl, fun _ h => .inl h, fun j b hb => ?_⟩) g2.drop (by rw [hr]; exact .leaf rfl q2) Apt.nil
          by_cases z : j = i
          · subst z
            rw [Fp.put_same] at hb
            cases hb
          · rw [Fp.put_ne z] at hb
            exact .inr ⟨j, hb⟩
        | some D' =>
          obtain ⟨fs, S', z, _⟩ := p
          exact absurd rfl z
      · cases e
    · cases e
  · cases e
  · rename_i hn1 hn2
    refine run o e pv σ N H F g eN D ?_
    cases o with
    | er x ds' => exact absurd e (by intro z; exact hn2 x ds' z)
    | nx _ => exact a
    | bk _ => exact a
    | ct _ => exact a
    | rt _ _ => exact a
end
theorem k_tryN {X : Cx} {l : List Cl} {body : List Stmt} {h0 : ExceptHandler} {hds : List ExceptHandler} {pos : Pos} {tb : WX → TS} (st : X.stack = X.env :: X.outer) (fr : X.env.frame = some X.env.locals) (hN : X.N.Nodup)
    (inner : ∀ (W : WX) (pn : List (Addr × Obj)) (xe : Value → Shared → Prop), Takes (X.tr pn xe) W → PSs (X.tr pn xe) body (tb W)) (hh : AsOk X (h0 :: hds) l) (hK : X.K = DL.KK := by rfl) : PS X (.Try body (h0 :: hds) [] [] pos) (tTryN l tb fun _ _ _ _ => False) := by
  have q := ps_try_asN (X := X) (pos := pos) st fr hN takes0 (fun W pn xe tk _ => inner W pn xe tk) hh
  rw [hK] at q
  exact q
/-! a suite that asks isinstance of the error -/
abbrev rInt1 : List V → Hp → VK → Prop := fun xs H Q => (∃ i, xs = [.int i] ∧ Q (.int i) H) ∨ ∃ k, xs = [.bl k] ∧ Q (.int (if k then 1 else 0)) H
def tsIs (u : Addr → Addr → TS) : Addr → Value → Option Addr → TS := fun a cls dc D σ H => ∃ C, cls = .ref C ∧ dc = none ∧ ExcC KK C ∧ u C a D σ H
theorem pss_tsIs {X : Cx} {st : List Stmt} (u : Addr → Addr → TS) {a : Addr} {cls : Value} {dc : Option Addr} {oe : Obj} (hz : Zc cls dc oe) (h : ∀ C, ExcC DL.KK C → Zc (.ref C) none oe → PSs X st (u C a)) : PSs X st (tsIs u a cls dc) := ⟨fun pins s σ H D I q => by
  obtain ⟨C, h1, h2, h3, h4⟩ := q
  subst h1
  subst h2
  exact (h C h3 hz).run pins s σ H D I h4⟩
theorem k_isE {X : Cx} {K : PySem.W.Frag} {a D : Addr} {oe : Obj} (C : ExcC K D) (hz : Zc (.ref D) none oe) (hf : ∃ vs, oe.data = .fields vs) (hp : (a, oe) ∈ X.pn) (h : X.K = K := by rfl) : CallR X (.builtin "isinstance") (rIsE K D a) := by
  subst h
  exact call_isP (p := (a, oe)) C hp hz.1 hz.2 hf
theorem su_is {i : Nat} {u : Addr → Addr → TS} {a C : Addr} {ds : De} {d : PyData} (hC : ExcC KK C) (h : EvSu i (u C a) a ds d) : EvSu i (tsIs u a (.ref C) none) a ds d := fun σ N hi hs D H eN q => ⟨C, rfl, rfl, hC, h σ N hi hs D H eN q⟩
section
variable {i : Nat} {a : Addr} {ds : De} {te ta tb : TE} {tr : TA} {d e z : PyData} {es : List PyData}
theorem p_op {r : R2} {op : PyData → PyData → Option PyData} (ho : RO r op) (ha : EvP i a ta ds d) (hb : EvP i a tb ds e) (hz : op d e = some z) : EvP i a (tOp r ta tb) ds z := fun σ N hi hs H eN Q q =>
  ha σ N hi hs H eN _ fun x H1 N1 e1 n1 k1 g1 r1 => hb σ N1 hi (hs.mono n1) H1 k1 _ fun y H2 N2 e2 n2 k2 g2 r2 =>
    ho x y N2 H2 d e z hz k2 (r1.mono n2) r2 _ fun v H3 N3 e3 n3 k3 g3 r3 => q v H3 N3 ((e1.trans e2).trans e3) ((n1.trans n2).trans n3) k3 ((g1.trans e1 g2).trans (e1.trans e2) g3) r3
theorem p_cb {r : List V → Hp → VK → Prop} {op : List PyData → Option PyData} (ho : RC r op) (h : EvPA i a tr ds es) (hz : op es = some z) : EvP i a (tCB r tr) ds z := fun σ N hi hs H eN Q q =>
  h σ N hi hs H eN _ fun vs H1 N1 e1 n1 k1 g1 r1 => ho vs N1 H1 es z hz k1 r1 _ fun v H2 N2 e2 n2 k2 g2 r2 => q v H2 N2 (e1.trans e2) (n1.trans n2) k2 (g1.trans e1 g2) r2
end
end FX
set_option Elab.async false
set_option linter.all false
set_option maxRecDepth 100000
set_option maxHeartbeats 4000000
/-! What the functions come to: comprehensions, loops, small things. -/
namespace FX
open PySem PySem.Spec PyProof.Rows L2 Evl DL
set_option autoImplicit false
variable [Kn]
section
variable {st : PyData → Option De} {p : De → Option Bool} {f : De → Option PyData} {inn : De → List PyData → Option (List PyData)}
theorem lcGo_map {g : PyData → PyData} : ∀ (its zs : List PyData), (∀ x ∈ its, ∃ e, st x = some e ∧ p e = some true ∧ f e = some (g x)) → lcGo st p f its zs = some (zs ++ its.map g)
  | [], zs, _ => by simp [lcGo]
  | x :: its, zs, h => by
    obtain ⟨e, h1, h2, h3⟩ := h x List.mem_cons_self
    simp only [lcGo, h1, h2, h3]
    rw [lcGo_map its _ fun y hy => h y (List.mem_cons_of_mem _ hy)]
    simp
theorem lcGo_filter {c : PyData → Bool} {g : PyData → PyData} : ∀ (its zs : List PyData), (∀ x ∈ its, ∃ e, st x = some e ∧ p e = some (c x) ∧ (c x = true → f e = some (g x))) → lcGo st p f its zs = some (zs ++ (its.filter c).map g)
  | [], zs, _ => by simp [lcGo]
  | x :: its, zs, h => by
    obtain ⟨e, h1, h2, h3⟩ := h x List.mem_cons_self
    have ih := fun zs => lcGo_filter its zs fun y hy => h y (List.mem_cons_of_mem _ hy)
    cases hc : c x with
    | false => simp only [lcGo, h1, h2, hc, ih, List.filter_cons, Bool.false_eq_true, if_false]
    | true =>
      simp only [lcGo, h1, h2, hc, h3 hc, ih, List.filter_cons, if_true]
      simp
theorem lcGo2_flat {G : PyData → List PyData} : ∀ (its zs : List PyData), (∀ x ∈ its, ∃ e, st x = some e ∧ p e = some true ∧ ∀ ys, inn e ys = some (ys ++ G x)) → lcGo2 st p inn its zs = some (zs ++ its.flatMap G)
  | [], zs, _ => by simp [lcGo2]
  | x :: its, zs, h => by
    obtain ⟨e, h1, h2, h3⟩ := h x List.mem_cons_self
    simp only [lcGo2, h1, h2, h3]
    rw [lcGo2_flat its _ fun y hy => h y (List.mem_cons_of_mem _ hy)]
    simp
end
section
variable {vs vs1 : List Nat} {b b1 : PyData → Option Bd} {fi fi1 : De → Option (List PyData)} {fp fp1 : De → Option Bool} {f : De → Option PyData} {ds : De} {its : List PyData} {g : PyData → PyData} {c : PyData → Bool} {G : PyData → List PyData}
theorem eLc_map (hi : fi ds = some its) (hl : its.length ≤ 100000) (h : ∀ x ∈ its, ∃ e, stepD vs b ds x = some e ∧ fp e = some true ∧ f e = some (g x)) : eLc vs b fi fp f ds = some (.list (its.map g)) := by
  unfold eLc
  rw [hi]
  simp only [lcGo_map its [] h, List.nil_append, List.length_map, hl, if_true]
theorem eLc_filter (hi : fi ds = some its) (hl : its.length ≤ 100000) (h : ∀ x ∈ its, ∃ e, stepD vs b ds x = some e ∧ fp e = some (c x) ∧ (c x = true → f e = some (g x))) : eLc vs b fi fp f ds = some (.list ((its.filter c).map g)) := by
  unfold eLc
  rw [hi]
  have q := List.length_filter_le c its
  simp only [lcGo_filter its [] h, List.nil_append, List.length_map]
  rw [if_pos (by omega)]
theorem eLc2_flat (hi : fi ds = some its) (hl : (its.flatMap G).length ≤ 100000) (h : ∀ x ∈ its, ∃ e, stepD vs b ds x = some e ∧ fp e = some true ∧ ∀ ys, innD vs1 b1 fi1 fp1 f e ys = some (ys ++ G x)) : eLc2 vs b fi fp vs1 b1 fi1 fp1 f ds = some (.list (its.flatMap G)) := by
  unfold eLc2
  rw [hi]
  simp only [lcGo2_flat its [] h, List.nil_append, hl, if_true]
theorem innD_map {e : De} {ys : List PyData} (hi : fi1 e = some its) (h : ∀ x ∈ its, ∃ e', stepD vs1 b1 e x = some e' ∧ fp1 e' = some true ∧ f e' = some (g x)) : innD vs1 b1 fi1 fp1 f e ys = some (ys ++ its.map g) := by
  unfold innD
  rw [hi]
  exact lcGo_map its ys h
theorem innD_filter {e : De} {ys : List PyData} (hi : fi1 e = some its) (h : ∀ x ∈ its, ∃ e', stepD vs1 b1 e x = some e' ∧ fp1 e' = some (c x) ∧ (c x = true → f e' = some (g x))) : innD vs1 b1 fi1 fp1 f e ys = some (ys ++ (its.filter c).map g) := by
  unfold innD
  rw [hi]
  exact lcGo_filter its ys h
end
section
variable {A : Type} {st : PyData → Option De} {p : De → Option Bool} {f : De → Option PyData} {vs : List Nat} {b : PyData → Option Bd} {fi : De → Option (List PyData)} {ds : De}
theorem lcGo_mapA {φ g : A → PyData} : ∀ (xs : List A) (zs : List PyData), (∀ a ∈ xs, ∃ e, st (φ a) = some e ∧ p e = some true ∧ f e = some (g a)) → lcGo st p f (xs.map φ) zs = some (zs ++ xs.map g)
  | [], zs, _ => by simp [lcGo]
  | x :: xs, zs, h => by
    obtain ⟨e, h1, h2, h3⟩ := h x List.mem_cons_self
    simp only [List.map_cons, lcGo, h1, h2, h3]
    rw [lcGo_mapA xs _ fun y hy => h y (List.mem_cons_of_mem _ hy)]
    simp
theorem lcGo_filterA {c : A → Bool} {φ g : A → PyData} : ∀ (xs : List A) (zs : List PyData), (∀ a ∈ xs, ∃ e, st (φ a) = some e ∧ p e = some (c a) ∧ (c a = true → f e = some (g a))) → lcGo st p f (xs.map φ) zs = some (zs ++ (xs.filter c).map g)
  | [], zs, _ => by simp [lcGo]
  | x :: xs, zs, h => by
    obtain ⟨e, h1, h2, h3⟩ := h x List.mem_cons_self
    have ih := fun zs => lcGo_filterA xs zs fun y hy => h y (List.mem_cons_of_mem _ hy)
    cases hc : c x with
    | false => simp only [List.map_cons, lcGo, h1, h2, hc, ih, List.filter_cons, Bool.false_eq_true, if_false]
    | true =>
      simp only [List.map_cons, lcGo, h1, h2, hc, h3 hc, ih, List.filter_cons, if_true]
      simp
theorem eLc_mapA {fp : De → Option Bool} {φ g : A → PyData} (xs : List A) (hi : fi ds = some (xs.map φ)) (hl : xs.length ≤ 100000) (h : ∀ a ∈ xs, ∃ e, stepD vs b ds (φ a) = some e ∧ fp e = some true ∧ f e = some (g a)) : eLc vs b fi fp f ds = some (.list (xs.map g)) := by
  unfold eLc
  rw [hi]
  simp only [lcGo_mapA xs [] h, List.nil_append, List.length_map, hl, if_true]
theorem eLc_filterA {fp : De → Option Bool} {c : A → Bool} {φ g : A → PyData} (xs : List A) (hi : fi ds = some (xs.map φ)) (hl : xs.length ≤ 100000) (h : ∀ a ∈ xs, ∃ e, stepD vs b ds (φ a) = some e ∧ fp e = some (c a) ∧ (c a = true → f e = some (g a))) : eLc vs b fi fp f ds = some (.list ((xs.filter c).map g)) := by
  unfold eLc
  rw [hi]
  have q := List.length_filter_le c xs
  simp only [lcGo_filterA xs [] h, List.nil_append, List.length_map]
  rw [if_pos (by omega)]
end
theorem boolsOf_mapc {A : Type} (c : A → Bool) : ∀ xs : List A, boolsOf (xs.map fun x => PyData.bool (c x)) = some (xs.map c)
  | [] => rfl
  | x :: xs => by
    show (match boolsOf (xs.map fun x => PyData.bool (c x)) with | some bs => some (c x :: bs) | none => none) = _
    rw [boolsOf_mapc c xs]
    rfl
theorem allL_map {A : Type} (c : A → Bool) (xs : List A) : allL [.list (xs.map fun x => PyData.bool (c x))] = some (.bool (xs.all c)) := by
  show (boolsOf (xs.map fun x => PyData.bool (c x))).map _ = _
  rw [boolsOf_mapc]
  simp [List.all_map]
theorem anyL_map {A : Type} (c : A → Bool) (xs : List A) : anyL [.list (xs.map fun x => PyData.bool (c x))] = some (.bool (xs.any c)) := by
  show (boolsOf (xs.map fun x => PyData.bool (c x))).map _ = _
  rw [boolsOf_mapc]
  simp [List.any_map]
theorem sumL_map {A : Type} (c : A → Int) (xs : List A) : sumL [.list (xs.map fun x => PyData.int (c x))] = some (.int (xs.map c).sum) := by
  show (intsOf (xs.map fun x => PyData.int (c x))).map _ = _
  rw [show (xs.map fun x => PyData.int (c x)) = (xs.map c).map PyData.int by rw [List.map_map]; rfl, intsOf_map]
  rfl
theorem sumL_ints (xs : List Int) : sumL [.list (xs.map PyData.int)] = some (.int xs.sum) := by
  show (intsOf (xs.map PyData.int)).map _ = _
  rw [intsOf_map]
  rfl
theorem minL_ints (xs : List Int) : minL [.list (xs.map PyData.int)] = (least xs).map .int := by
  show (match intsOf (xs.map PyData.int) with | some ns => (least ns).map PyData.int | none => none) = _
  rw [intsOf_map]
theorem least_ge {xs : List Int} {m : Int} (h : least xs = some m) (k : Int) : (k ≤ m) ↔ ∀ x ∈ xs, k ≤ x := by
  obtain ⟨h1, h2⟩ := least_is h
  exact ⟨fun q x hx => Int.le_trans q (h2 x hx), fun q => q m h1⟩
theorem least_some : ∀ {xs : List Int}, xs ≠ [] → ∃ m, least xs = some m
  | [], h => absurd rfl h
  | i :: r, _ => by
    unfold least
    cases least r with
    | none => exact ⟨_, rfl⟩
    | some j => exact ⟨_, rfl⟩
theorem atI_n {A : Type} {xs : List A} {n : Nat} : atI xs (n : Int) = xs[n]? := by
  unfold atI ixN
  rw [if_pos (Int.natCast_nonneg n)]
  by_cases h : n < xs.length
  · rw [if_pos (by omega)]
    rfl
  · rw [if_neg (by omega), List.getElem?_eq_none (by omega)]
    rfl
theorem atI_0 {A : Type} {x : A} {xs : List A} : atI (x :: xs) 0 = some x := atI_n (n := 0)
theorem atI_1 {A : Type} {x y : A} {xs : List A} : atI (x :: y :: xs) 1 = some y := atI_n (n := 1)
theorem atI_2 {A : Type} {x y z : A} {xs : List A} : atI (x :: y :: z :: xs) 2 = some z := atI_n (n := 2)
theorem atI_i {A : Type} {xs : List A} {i : Int} (h0 : 0 ≤ i) : atI xs i = xs[i.toNat]? := by
  have q := atI_n (xs := xs) (n := i.toNat)
  rwa [show ((i.toNat : Nat) : Int) = i by omega] at q
theorem eqv_int (a b : Int) : PyData.eqv (.int a) (.int b) = (a == b) := by simp [PyData.eqv]
theorem eqv_bool (a b : Bool) : PyData.eqv (.bool a) (.bool b) = (a == b) := by simp [PyData.eqv]
theorem eqE_int (a b : Int) : eqE (.int a) (.int b) = some (.bool (decide (a = b))) := by
  unfold eqE
  rw [if_pos ⟨rfl, rfl⟩, eqv_int]
  rfl
theorem neE_int (a b : Int) : neE (.int a) (.int b) = some (.bool (!decide (a = b))) := by
  unfold neE
  rw [if_pos ⟨rfl, rfl⟩, eqv_int]
  rfl
theorem neE_bool (a b : Bool) : neE (.bool a) (.bool b) = some (.bool (!decide (a = b))) := by
  unfold neE
  rw [if_pos ⟨rfl, rfl⟩, eqv_bool]
  rfl
/-! loops -/
theorem forGo_map {os : List Nat} {b : PyData → Option Bd} {body : De → Option GO} {S : List PyData → De} : ∀ (its done : List PyData), (∀ d1 x d2, x ∈ its → done ++ its = d1 ++ x :: d2 → ∃ l, b x = some l ∧ zeros os l = true ∧ body (bindD (S d1) l) = some (.nx (S (d1 ++ [x])))) → forGo os b body its (S done) = some (.nx (S (done ++ its)))
  | [], done, _ => by simp [forGo]
  | x :: its, done, h => by
    obtain ⟨l, h1, h2, h3⟩ := h done x its List.mem_cons_self rfl
    simp only [forGo, h1, h2, h3, if_true]
    rw [forGo_map its (done ++ [x]) fun d1 y d2 hy e => h d1 y d2 (List.mem_cons_of_mem _ hy) (by rw [← e]; simp)]
    simp
theorem rng_mem {n : Nat} {x : PyData} (h : x ∈ rngD 0 n) : ∃ i : Nat, i < n ∧ x = .int (i : Int) := by
  obtain ⟨i, hi, rfl⟩ := List.mem_map.mp h
  exact ⟨i, List.mem_range.mp hi, by simp⟩
theorem rng_len (n : Nat) : (rngD 0 n).length = n := by simp [rngD]
theorem rng_map {A : Type} (n : Nat) (f : PyData → A) : (rngD 0 n).map f = (List.range n).map fun (i : Nat) => f (.int (i : Int)) := by
  unfold rngD
  rw [List.map_map]
  refine List.map_congr_left fun i _ => ?_
  simp [Function.comp]
theorem rng_flat {A : Type} (n : Nat) (f : PyData → List A) : (rngD 0 n).flatMap f = (List.range n).flatMap fun (i : Nat) => f (.int (i : Int)) := by
  unfold rngD
  rw [List.flatMap_map]
  simp
theorem itR1_n {fa : De → Option (List PyData)} {ds : De} {n : Nat} (h : fa ds = some [.int (n : Int)]) (hn : n < 1000000) : itR1 fa ds = some (rngD 0 n) := by
  unfold itR1
  rw [h]
  simp only
  rw [if_pos (by omega)]
  simp
theorem itR1_i {fa : De → Option (List PyData)} {ds : De} {n : Int} (h : fa ds = some [.int n]) (h0 : 0 ≤ n) (hn : n < 1000000) : itR1 fa ds = some (rngD 0 n.toNat) := by
  unfold itR1
  rw [h]
  simp only
  rw [if_pos (by omega)]
/-- a loop that ends at the first item that is not good -/
theorem forGo_until {os : List Nat} {b : PyData → Option Bd} {body : De → Option GO} {I : De → Prop} {good : PyData → Bool} : ∀ (its : List PyData) (ds : De), I ds → (∀ ds x, I ds → x ∈ its → ∃ l, b x = some l ∧ zeros os l = true ∧
      ((good x = true ∧ ∃ ds', body (bindD ds l) = some (.nx ds') ∧ I ds') ∨ (good x = false ∧ ∃ ds', body (bindD ds l) = some (.rt (.bool false) ds')))) →
    (its.all good = true ∧ ∃ ds', forGo os b body its ds = some (.nx ds') ∧ I ds') ∨ (its.all good = false ∧ ∃ ds', forGo os b body its ds = some (.rt (.bool false) ds'))
  | [], ds, hI, _ => .inl ⟨rfl, ds, rfl, hI⟩
  | x :: its, ds, hI, h => by
    obtain ⟨l, h1, h2, h3⟩ := h ds x hI List.mem_cons_self
    rcases h3 with ⟨g, ds', e, hI'⟩ | ⟨g, ds', e⟩
    · simp only [forGo, h1, h2, e, if_true, List.all_cons, g, Bool.true_and]
      exact forGo_until its ds' hI' fun ds y hi hy => h ds y hi (List.mem_cons_of_mem _ hy)
    · refine .inr ⟨by simp [g], ds', ?_⟩
      simp only [forGo, h1, h2, e, if_true]
section
variable {f g : De → Option GO} {ds ds1 ds2 : De} {o : Option GO} {d : PyData} {x : Er} {n np : Nat} {B : De → Option GO} {es : List PyData}
theorem sSeq_nx (h : f ds = some (.nx ds1)) (k : g ds1 = o) : sSeq f g ds = o := by
  unfold sSeq
  rw [h]
  exact k
theorem sSeq_rt (h : f ds = some (.rt d ds1)) : sSeq f g ds = some (.rt d ds1) := by
  unfold sSeq
  rw [h]
theorem sSeq_er (h : f ds = some (.er x ds1)) : sSeq f g ds = some (.er x ds1) := by
  unfold sSeq
  rw [h]
theorem sFor_map {os : List Nat} {b : PyData → Option Bd} {body : De → Option GO} {fi : De → Option (List PyData)} {its : List PyData} (S : List PyData → De) (hi : fi (hideD os (S [])) = some its)
    (h : ∀ d1 x d2, x ∈ its → its = d1 ++ x :: d2 → ∃ l, b x = some l ∧ zeros os l = true ∧ body (bindD (S d1) l) = some (.nx (S (d1 ++ [x])))) : sFor os b fi body (S []) = some (.nx (S its)) := by
  unfold sFor
  rw [hi]
  exact forGo_map its [] h
theorem sFor_until {os : List Nat} {b : PyData → Option Bd} {body : De → Option GO} {fi : De → Option (List PyData)} {its : List PyData} {good : PyData → Bool} (I : De → Prop) (hi : fi (hideD os ds) = some its) (h0 : I ds)
    (h : ∀ ds x, I ds → x ∈ its → ∃ l, b x = some l ∧ zeros os l = true ∧ ((good x = true ∧ ∃ ds', body (bindD ds l) = some (.nx ds') ∧ I ds') ∨ (good x = false ∧ ∃ ds', body (bindD ds l) = some (.rt (.bool false) ds')))) :
    (its.all good = true ∧ ∃ ds', sFor os b fi body ds = some (.nx ds') ∧ I ds') ∨ (its.all good = false ∧ ∃ ds', sFor os b fi body ds = some (.rt (.bool false) ds')) := by
  unfold sFor
  rw [hi]
  exact forGo_until its ds h0 h
def Rt (o : Option GO) (d : PyData) : Prop := ∃ ds, o = some (.rt d ds)
def Rr (o : Option GO) (x : Er) : Prop := ∃ ds, o = some (.er x ds)
theorem rt_seq (h : f ds = some (.nx ds1)) (k : Rt (g ds1) d) : Rt (sSeq f g ds) d := by
  unfold sSeq
  rw [h]
  exact k
theorem rt_seqR (h : Rt (f ds) d) : Rt (sSeq f g ds) d := by
  obtain ⟨ds', e⟩ := h
  exact ⟨ds', sSeq_rt e⟩
theorem rr_seq (h : f ds = some (.nx ds1)) (k : Rr (g ds1) x) : Rr (sSeq f g ds) x := by
  unfold sSeq
  rw [h]
  exact k
theorem rr_seqR (h : Rr (f ds) x) : Rr (sSeq f g ds) x := by
  obtain ⟨ds', e⟩ := h
  exact ⟨ds', sSeq_er e⟩
theorem rt_retZ {os : List Nat} {fr : De → Option Ob} (h : fr (hideD os ds) = some (.ok d)) : Rt (sRetZ os fr ds) d := ⟨ds, by
  unfold sRetZ
  rw [h]⟩
theorem rt_retF {os : List Nat} {fe : De → Option PyData} (h : fe (hideD os ds) = some d) : Rt (sRetZ os (okF fe) ds) d := rt_retZ (by
  unfold okF
  rw [h]
  rfl)
theorem rt_retG {os : List Nat} {fe : De → Option PyData} (h : fe ds = some d) : Rt (sRetG os (okF fe) ds) d := ⟨hideD os ds, by
  unfold sRetG okF
  rw [h]
  rfl⟩
theorem rt_retM {m : De → Option (PyData × De)} (h : m ds = some (d, ds1)) : Rt (sRetM m ds) d := ⟨ds1, by
  unfold sRetM
  rw [h]⟩
theorem rt_retN {fe : De → Option PyData} (h : fe ds = some d) : Rt (thenR (okF fe) kRetN ds) d := ⟨ds, by
  unfold thenR okF
  rw [h]
  rfl⟩
theorem m_rt (hl : es.length = np) (h : Rt (B (startD n es)) d) : only_ np (runF n B) es = some (.ok d) := by
  obtain ⟨ds', h⟩ := h
  unfold only_ runF
  rw [if_pos hl, h]
  rfl
theorem m_nx (hl : es.length = np) (h : B (startD n es) = some (.nx ds1)) : only_ np (runF n B) es = some (.ok .none) := by
  unfold only_ runF
  rw [if_pos hl, h]
  rfl
theorem m_er (hl : es.length = np) (h : Rr (B (startD n es)) x) : only_ np (runF n B) es = some (.error x) := by
  obtain ⟨ds', h⟩ := h
  unfold only_ runF
  rw [if_pos hl, h]
  rfl
theorem m_rtC (hl : es.length = np) (h : Rt (B (startD n es)) d) : onlyC np (runC n B) es = some d := by
  obtain ⟨ds', h⟩ := h
  unfold onlyC runC
  rw [if_pos hl, h]
  rfl
section
variable {os : List Nat} {i : Nat} {fe fe2 fe3 : De → Option PyData} {a b c : PyData} {M : List PyData → Option Ob} {MC : List PyData → Option PyData} {op : PyData → PyData → Option PyData} {opl : List PyData → Option PyData} {cb : De → Option Bool}
theorem asgZ_ok (h : fe (hideD os ds) = some d) : sAsgZ os i (okF fe) ds = some (.nx (ds.set i (some d))) := by
  unfold sAsgZ okF
  rw [h]
  rfl
theorem asgN_ok (h : fe ds = some d) : thenR (okF fe) (kNew i) ds = some (.nx (ds.set i (some d))) := by
  unfold thenR okF
  rw [h]
  rfl
theorem asgF_ok (h : fe ds = some d) (hf : flatD d = true) : thenR (okF fe) (kFlat i) ds = some (.nx (ds.set i (some d))) := by
  unfold thenR okF
  rw [h]
  show (if flatD d = true then _ else _) = _
  rw [if_pos hf]
theorem call1_ok (h : fe ds = some a) (hm : M [a] = some (.ok d)) : eCB (okOf M) (aC fe aN) ds = some d := by
  unfold eCB aC aN okOf
  rw [h]
  simp only [hm]
theorem call2_ok (h : fe ds = some a) (h2 : fe2 ds = some b) (hm : M [a, b] = some (.ok d)) : eCB (okOf M) (aC fe (aC fe2 aN)) ds = some d := by
  unfold eCB aC aN okOf
  rw [h, h2]
  simp only [hm]
theorem call3_ok (h : fe ds = some a) (h2 : fe2 ds = some b) (h3 : fe3 ds = some c) (hm : M [a, b, c] = some (.ok d)) : eCB (okOf M) (aC fe (aC fe2 (aC fe3 aN))) ds = some d := by
  unfold eCB aC aN okOf
  rw [h, h2, h3]
  simp only [hm]
theorem call2C_ok (h : fe ds = some a) (h2 : fe2 ds = some b) (hm : MC [a, b] = some d) : eCB MC (aC fe (aC fe2 aN)) ds = some d := by
  unfold eCB aC aN
  rw [h, h2]
  exact hm
theorem cb1_ok (h : fe ds = some a) (hm : opl [a] = some d) : eCB opl (aC fe aN) ds = some d := by
  unfold eCB aC aN
  rw [h]
  exact hm
theorem cR1 {r : Ob} (h : fe ds = some a) (hm : M [a] = some r) : cR M (aC fe aN) ds = some r := by
  unfold cR aC aN
  rw [h]
  exact hm
theorem cR2 {r : Ob} (h : fe ds = some a) (h2 : fe2 ds = some b) (hm : M [a, b] = some r) : cR M (aC fe (aC fe2 aN)) ds = some r := by
  unfold cR aC aN
  rw [h, h2]
  exact hm
theorem e2_ok (h : fe ds = some a) (h2 : fe2 ds = some b) (hz : op a b = some d) : FX.e2 op fe fe2 ds = some d := by
  unfold FX.e2
  rw [h, h2]
  exact hz
theorem and_t (h : fe ds = some (.bool true)) (k : fe2 ds = some d) : FX.eAnd fe fe2 ds = some d := by
  unfold FX.eAnd
  rw [h]
  exact k
theorem and_f (h : fe ds = some (.bool false)) : FX.eAnd fe fe2 ds = some (.bool false) := by
  unfold FX.eAnd
  rw [h]
theorem or_f (h : fe ds = some (.bool false)) (k : fe2 ds = some d) : FX.eOr fe fe2 ds = some d := by
  unfold FX.eOr
  rw [h]
  exact k
theorem or_t (h : fe ds = some (.bool true)) : FX.eOr fe fe2 ds = some (.bool true) := by
  unfold FX.eOr
  rw [h]
theorem bOf_ok {x : Bool} (h : fe ds = some (.bool x)) : bOf fe ds = some x := by
  unfold bOf
  rw [h]
theorem bNot_ok {x : Bool} (h : cb ds = some x) : bNot cb ds = some (!x) := by
  unfold bNot
  rw [h]
  rfl
theorem bOr_t {cb2 : De → Option Bool} (h : cb ds = some true) : bOr cb cb2 ds = some true := by
  unfold bOr
  rw [h]
theorem bOr_f {cb2 : De → Option Bool} {x : Bool} (h : cb ds = some false) (k : cb2 ds = some x) : bOr cb cb2 ds = some x := by
  unfold bOr
  rw [h]
  exact k
theorem if_t {f g : De → Option GO} (h : cb ds = some true) : sIf cb f g ds = f ds := by
  unfold sIf
  rw [h]
theorem if_f {f g : De → Option GO} (h : cb ds = some false) : sIf cb f g ds = g ds := by
  unfold sIf
  rw [h]
theorem rt_if {f g : De → Option GO} {x : Bool} (h : cb ds = some x) (h1 : x = true → Rt (f ds) d) (h2 : x = false → Rt (g ds) d) : Rt (sIf cb f g ds) d := by
  cases x with
  | true =>
    rw [if_t h]
    exact h1 rfl
  | false =>
    rw [if_f h]
    exact h2 rfl
/-- if c: return f -/
theorem rt_ifR {f g : De → Option GO} {x : Bool} (h : cb ds = some x) (h1 : x = true → Rt (f ds) d) (h2 : x = false → Rt (g ds) d) : Rt (sSeq (sIf cb f sNx) g ds) d := by
  cases x with
  | true => exact rt_seqR (by rw [if_t h]; exact h1 rfl)
  | false => exact rt_seq (ds1 := ds) (by rw [if_f h]; rfl) (h2 rfl)
theorem lst_ok {fa : De → Option (List PyData)} {es : List PyData} (h : fa ds = some es) (hl : es.length ≤ 100000) : eLst fa ds = some (.list es) := by
  unfold eLst
  rw [h]
  simp only
  rw [if_pos hl]
theorem tup_ok {fa : De → Option (List PyData)} {es : List PyData} (h : fa ds = some es) (hl : es.length ≤ 100000) : eTup fa ds = some (.tuple es) := by
  unfold eTup
  rw [h]
  simp only
  rw [if_pos hl]
theorem aC_ok {fa : De → Option (List PyData)} {es : List PyData} (h : fe ds = some a) (k : fa ds = some es) : aC fe fa ds = some (a :: es) := by
  unfold aC
  rw [h, k]
theorem flat_ok (h : fe ds = some d) (hf : flatD d = true) : flatF fe ds = some d := by
  unfold flatF
  rw [h]
  simp only
  rw [if_pos hf]
end
theorem d1_len {n : Nat} {d1 d2 : List PyData} {x : PyData} (e : rngD 0 n = d1 ++ x :: d2) : d1.length < n := by
  have q := congrArg List.length e
  rw [rng_len, List.length_append, List.length_cons] at q
  omega
end
end FX
set_option Elab.async false
set_option linter.all false
set_option maxRecDepth 100000
set_option maxHeartbeats 4000000
namespace FX
open PySem PySem.Spec PyProof.Rows L2 Evl DL
set_option autoImplicit false
variable [Kn]

/-! ### the mathematics -/
def wholeB (t : PyData) (l : Int) : Bool := match t with
  | .int i => decide (l ≤ i)
  | _ => false
def lenD : PyData → Nat
  | .list ds => ds.length
  | _ => 0
def isL (d : PyData) : Bool := decide (tyName d = "list")
def gridB : PyData → Bool
  | .list rows => (decide (1 ≤ rows.length) && decide (rows.length ≤ 8)) && rows.all isL && ((decide (1 ≤ lenD (rows.headD .none)) && decide (lenD (rows.headD .none) ≤ 8)) && rows.all fun r => decide (lenD r = lenD (rows.headD .none)))
  | _ => false
def cellsD : PyData → List PyData
  | .list ds => ds
  | _ => []
def tabB (d : PyData) : Bool := gridB d && ((cellsD d).flatMap cellsD).all fun c => wholeB c 0
def mix (ns : List Int) (k : Int) : Int :=
  let cell := if 0 < ns.length then ns.getD (k % (ns.length : Int)).toNat 0 + k / (ns.length : Int) else 0
  let n := (cell + 7919 * (k + 1)) * 48271 % 2147483647
  n * n % 2147483629
theorem mix_lo (ns : List Int) (k : Int) : 0 ≤ mix ns k := Int.emod_nonneg _ (by decide)
theorem mix_hi (ns : List Int) (k : Int) : mix ns k < 2147483629 := Int.emod_lt_of_pos _ (by decide)
def count (ns : List Int) (k : Int) : Int :=
  let m := mix ns k / 8
  if mix ns k % 8 = 0 then 0 else [m % 3, m % 5, m % 12, ([0, 1, 2, 40] : List Int).getD (m % 4).toNat 0, m % 1000, m * 10 ^ 11 + m % 7].getD (mix ns 2 % 6).toNat 0
def tabl (ns : List Int) (h w : Int) : List (List Int) := (List.range h.toNat).map fun (r : Nat) => (List.range w.toNat).map fun (c : Nat) => count ns (8 + w * (r : Int) + (c : Int))
def colN (M : List (List Int)) (c : Nat) : List Int := M.map fun r => r.getD c 0
def rowS (M : List (List Int)) : List Int := M.map List.sum
def colS (M : List (List Int)) (w : Nat) : List Int := (List.range w).map fun c => (colN M c).sum
/-- a table of ints -/
structure Tab (M : List (List Int)) (w : Nat) : Prop where
  h1 : 1 ≤ M.length
  h8 : M.length ≤ 8
  w1 : 1 ≤ w
  w8 : w ≤ 8
  len : ∀ r ∈ M, r.length = w
  pos : ∀ r ∈ M, ∀ x ∈ r, 0 ≤ x
theorem head_len {M : List (List Int)} {w : Nat} (t : Tab M w) : lenD ((M.map eI).headD .none) = w := by
  cases M with
  | nil => have := t.h1; simp at this
  | cons r M =>
    show (r.map PyData.int).length = w
    rw [List.length_map]
    exact t.len r List.mem_cons_self
theorem grid_of {M : List (List Int)} {w : Nat} (t : Tab M w) : gridB (eM M) = true := by
  show ((decide (1 ≤ (M.map eI).length) && decide ((M.map eI).length ≤ 8)) && (M.map eI).all isL && ((decide (1 ≤ lenD ((M.map eI).headD .none)) && decide (lenD ((M.map eI).headD .none) ≤ 8)) && (M.map eI).all fun r => decide (lenD r = lenD ((M.map eI).headD .none)))) = true
  rw [head_len t, List.length_map, decide_eq_true t.h1, decide_eq_true t.h8, decide_eq_true t.w1, decide_eq_true t.w8, List.all_map, List.all_map]
  have a1 : M.all (isL ∘ eI) = true := List.all_eq_true.mpr fun r _ => rfl
  have a2 : (M.all ((fun r => decide (lenD r = w)) ∘ eI)) = true := List.all_eq_true.mpr fun r hr => by
    show decide ((r.map PyData.int).length = w) = true
    rw [List.length_map, t.len r hr]
    exact decide_eq_true rfl
  rw [a1, a2]
  rfl
theorem tab_of {M : List (List Int)} {w : Nat} (t : Tab M w) : tabB (eM M) = true := by
  unfold tabB
  rw [grid_of t, Bool.true_and]
  refine List.all_eq_true.mpr fun c hc => ?_
  obtain ⟨r, hr, hc⟩ := List.mem_flatMap.mp hc
  obtain ⟨row, hrow, rfl⟩ := List.mem_map.mp (show r ∈ M.map eI from hr)
  obtain ⟨x, hx, rfl⟩ := List.mem_map.mp (show c ∈ row.map PyData.int from hc)
  exact decide_eq_true (t.pos row hrow x hx)
theorem tab_len {M : List (List Int)} : (cellsD (eM M)).length = M.length := List.length_map ..
theorem count_nn (ns : List Int) (k : Int) : 0 ≤ count ns k := by
  unfold count
  have h0 := mix_lo ns k
  have hm : 0 ≤ mix ns k / 8 := Int.ediv_nonneg h0 (by decide)
  generalize mix ns k / 8 = m at hm
  by_cases h : mix ns k % 8 = 0
  · simp only [h, if_true]
    exact Int.le_refl _
  · simp only [h, if_false]
    have a1 : 0 ≤ m % 3 := Int.emod_nonneg _ (by decide)
    have a2 : 0 ≤ m % 5 := Int.emod_nonneg _ (by decide)
    have a3 : 0 ≤ m % 12 := Int.emod_nonneg _ (by decide)
    have a5 : 0 ≤ m % 1000 := Int.emod_nonneg _ (by decide)
    have a6 : 0 ≤ m * 10 ^ 11 + m % 7 := by
      have := Int.emod_nonneg m (show (7 : Int) ≠ 0 by decide)
      have : 0 ≤ m * 10 ^ 11 := Int.mul_nonneg hm (by decide)
      omega
    have a4 : ∀ i : Nat, 0 ≤ ([0, 1, 2, 40] : List Int).getD i 0 := fun i => by
      match i with
      | 0 => decide
      | 1 => decide
      | 2 => decide
      | 3 => decide
      | n + 4 => simp
    match (mix ns 2 % 6).toNat with
    | 0 => exact a1
    | 1 => exact a2
    | 2 => exact a3
    | 3 => exact a4 _
    | 4 => exact a5
    | 5 => exact a6
    | n + 6 => simp
theorem tabl_tab (ns : List Int) {h w : Int} (h1 : 1 ≤ h) (h8 : h ≤ 8) (w1 : 1 ≤ w) (w8 : w ≤ 8) : Tab (tabl ns h w) w.toNat where
  h1 := by simp [tabl]; omega
  h8 := by simp [tabl]; omega
  w1 := by omega
  w8 := by omega
  len := fun r hr => by
    obtain ⟨i, _, rfl⟩ := List.mem_map.mp hr
    simp
  pos := fun r hr x hx => by
    obtain ⟨i, _, rfl⟩ := List.mem_map.mp hr
    obtain ⟨j, _, rfl⟩ := List.mem_map.mp hx
    exact count_nn _ _
theorem grid_parts {rows : List PyData} (h : gridB (.list rows) = true) : 1 ≤ rows.length ∧ rows.length ≤ 8 ∧ rows.all isL = true ∧ ∀ r ∈ rows, (cellsD r).length ≤ 8 := by
  unfold gridB at h
  simp only [Bool.and_eq_true, decide_eq_true_eq] at h
  obtain ⟨⟨⟨h1, h2⟩, h3⟩, ⟨h4, h5⟩, h6⟩ := h
  refine ⟨h1, h2, h3, fun r hr => ?_⟩
  have e := of_decide_eq_true (List.all_eq_true.mp h6 r hr)
  have e2 : (cellsD r).length = lenD r := by cases r <;> rfl
  omega
theorem flat_le {A B : Type} {f : A → List B} {k : Nat} : ∀ l : List A, (∀ x ∈ l, (f x).length ≤ k) → (l.flatMap f).length ≤ l.length * k
  | [], _ => by simp
  | x :: l, h => by
    have ih := flat_le (f := f) (k := k) l fun y hy => h y (List.mem_cons_of_mem _ hy)
    have h1 := h x List.mem_cons_self
    rw [List.flatMap_cons, List.length_append, List.length_cons, Nat.succ_mul]
    omega
theorem grid_few {rows : List PyData} (h : gridB (.list rows) = true) : (rows.flatMap cellsD).length < 100000 := by
  obtain ⟨h1, h2, h3, h4⟩ := grid_parts h
  have := flat_le rows h4
  omega
theorem cut_take (xs : List PyData) (c : Int) (h : 0 ≤ c) : DL.cutD xs none (some c) = xs.take c.toNat := by
  unfold DL.cutD
  have e : c = ((c.toNat : Nat) : Int) := by omega
  rw [HT.sIx_none]
  rw [e, HT.sIx_nat, Int.toNat_natCast]
  simp [List.take_eq_take_iff]
theorem cut_drop (xs : List PyData) (c : Int) (h : 0 ≤ c) : DL.cutD xs (some c) none = xs.drop c.toNat := by
  unfold DL.cutD
  have e : c = ((c.toNat : Nat) : Int) := by omega
  rw [HT.sIx_none]
  rw [e, HT.sIx_nat, Int.toNat_natCast]
  by_cases z : c.toNat ≤ xs.length
  · rw [Nat.min_eq_left z]
    exact List.take_of_length_le (by simp)
  · rw [Nat.min_eq_right (by omega), List.drop_length, List.drop_of_length_le (by omega)]
    simp
theorem spliced_set (xs : List Int) (c x : Int) (h0 : 0 ≤ c) (h1 : c < xs.length) : DL.cutD (xs.map PyData.int) none (some c) ++ [PyData.int x] ++ DL.cutD (xs.map PyData.int) (some (c + 1)) none = (xs.set c.toNat x).map PyData.int := by
  rw [cut_take _ _ h0, cut_drop _ _ (by omega), List.set_eq_take_append_cons_drop, if_pos (by omega), List.map_append, List.map_cons, List.map_take, List.map_drop, show (c + 1).toNat = c.toNat + 1 by omega]
  simp
theorem sum_set1 : ∀ (l : List Int) (j : Nat) (y : Int), j < l.length → (l.set j y).sum = l.sum - l.getD j 0 + y
  | [], _, _, h => by simp at h
  | a :: l, 0, y, _ => by
    simp only [List.set_cons_zero, List.sum_cons, List.getD_cons_zero]
    omega
  | a :: l, j + 1, y, h => by
    have ih := sum_set1 l j y (by simpa using h)
    simp only [List.set_cons_succ, List.sum_cons, List.getD_cons_succ]
    omega
section
variable {M : List (List Int)} {w : Nat} {r c z : Int}
theorem setM_tab (t : Tab M w) (h1 : 0 ≤ r) (h2 : r < M.length) (z0 : 0 ≤ z) : Tab (setM M r c z) w where
  h1 := by rw [setM, List.length_set]; exact t.h1
  h8 := by rw [setM, List.length_set]; exact t.h8
  w1 := t.w1
  w8 := t.w8
  len := fun row hr => by
    rcases List.mem_or_eq_of_mem_set hr with h | h
    · exact t.len row h
    · rw [h, List.length_set]
      refine t.len _ ?_
      rw [List.getD_eq_getElem?_getD, List.getElem?_eq_getElem (by omega : r.toNat < M.length)]
      exact List.getElem_mem _
  pos := fun row hr x hx => by
    rcases List.mem_or_eq_of_mem_set hr with h | h
    · exact t.pos row h x hx
    · rw [h] at hx
      rcases List.mem_or_eq_of_mem_set hx with g | g
      · refine t.pos _ ?_ x g
        rw [List.getD_eq_getElem?_getD, List.getElem?_eq_getElem (by omega : r.toNat < M.length)]
        exact List.getElem_mem _
      · rw [g]
        exact z0
theorem row_at (h2 : r.toNat < M.length) : M[r.toNat]? = some (M.getD r.toNat []) := by
  rw [List.getD_eq_getElem?_getD, List.getElem?_eq_getElem h2]
  rfl
theorem rowS_set (h2 : r.toNat < M.length) (hc : c.toNat < (M.getD r.toNat []).length) : rowS (setM M r c z) = (rowS M).set r.toNat ((rowS M).getD r.toNat 0 - (M.getD r.toNat []).getD c.toNat 0 + z) := by
  unfold rowS setM
  rw [List.map_set, sum_set1 _ _ _ hc]
  congr 1
  rw [show (M.map List.sum).getD r.toNat 0 = (M.getD r.toNat []).sum by
    rw [List.getD_eq_getElem?_getD, List.getElem?_map, row_at h2]
    rfl]
theorem colN_set (h2 : r.toNat < M.length) (hc : c.toNat < (M.getD r.toNat []).length) (j : Nat) : colN (setM M r c z) j = if j = c.toNat then (colN M j).set r.toNat z else colN M j := by
  unfold colN setM
  rw [List.map_set]
  by_cases e : j = c.toNat
  · subst e
    rw [if_pos rfl]
    congr 1
    rw [List.getD_eq_getElem?_getD, List.getElem?_set_self hc]
    rfl
  · rw [if_neg e]
    refine List.ext_getElem? fun k => ?_
    by_cases g : r.toNat = k
    · subst g
      rw [List.getElem?_set_self (by rw [List.length_map]; exact h2), List.getElem?_map, row_at h2]
      show some _ = some _
      rw [List.getD_eq_getElem?_getD, List.getElem?_set_ne (fun q => e q.symm)]
      rfl
    · rw [List.getElem?_set_ne g]
theorem colS_set (t : Tab M w) (h2 : r.toNat < M.length) (hc : c.toNat < w) : colS (setM M r c z) w = (colS M w).set c.toNat ((colS M w).getD c.toNat 0 - (M.getD r.toNat []).getD c.toNat 0 + z) := by
  have hlen : (M.getD r.toNat []).length = w := t.len _ (by
    rw [List.getD_eq_getElem?_getD, List.getElem?_eq_getElem h2]
    exact List.getElem_mem _)
  have hat : (colS M w).getD c.toNat 0 = (colN M c.toNat).sum := by
    unfold colS
    rw [List.getD_eq_getElem?_getD, List.getElem?_map, List.getElem?_range hc]
    rfl
  have hcol : (colN M c.toNat).getD r.toNat 0 = (M.getD r.toNat []).getD c.toNat 0 := by
    unfold colN
    rw [List.getD_eq_getElem?_getD, List.getElem?_map, row_at h2]
    rfl
  rw [hat]
  refine List.ext_getElem? fun k => ?_
  by_cases hk : k < w
  · unfold colS
    rw [List.getElem?_map, List.getElem?_range hk]
    show some ((colN (setM M r c z) k).sum) = _
    rw [colN_set h2 (by omega)]
    by_cases e : k = c.toNat
    · subst e
      rw [if_pos rfl, List.getElem?_set_self (by simpa using hk), sum_set1 _ _ _ (by simp [colN]; exact h2), hcol]
    · rw [if_neg e, List.getElem?_set_ne (fun q => e q.symm), List.getElem?_map, List.getElem?_range hk]
      rfl
  · rw [List.getElem?_eq_none (by simp [colS]; omega), List.getElem?_eq_none (by simp [colS]; omega)]
end

end FX
set_option Elab.async false
set_option linter.all false
set_option maxRecDepth 100000
set_option maxHeartbeats 4000000
namespace Vl
open PySem PySem.Spec PyProof.Rows L2 Evl DL FX
set_option autoImplicit false
variable [Kn]
abbrev spLaw : Sp := FX.spLaw
abbrev St := L2.St
def topS (i : Nat) : Stmt := PySem.Challenge.pw_veiled_k06_views_had.main.body.getD i (.Pass ⟨0, 0, 0, 0⟩)
abbrev s_is_whole : Stmt := topS 7
abbrev n_is_whole : List Str := ["thing", "least"]
theorem sc_is_whole : FnScope n_is_whole ["thing", "least"] (defScope s_is_whole) := ⟨rfl, rfl, rfl, by decide +kernel, rfl, by decide +kernel, by decide +kernel⟩
abbrev s_is_grid : Stmt := topS 8
abbrev n_is_grid : List Str := ["thing", "many", "row"]
theorem sc_is_grid : FnScope n_is_grid ["thing"] (defScope s_is_grid) := ⟨rfl, rfl, rfl, by decide +kernel, rfl, by decide +kernel, by decide +kernel⟩
abbrev s_is_table : Stmt := topS 9
abbrev n_is_table : List Str := ["thing", "row", "count"]
theorem sc_is_table : FnScope n_is_table ["thing"] (defScope s_is_table) := ⟨rfl, rfl, rfl, by decide +kernel, rfl, by decide +kernel, by decide +kernel⟩
abbrev s_is_place : Stmt := topS 10
abbrev n_is_place : List Str := ["thing", "grid", "row", "column"]
theorem sc_is_place : FnScope n_is_place ["thing", "grid"] (defScope s_is_place) := ⟨rfl, rfl, rfl, by decide +kernel, rfl, by decide +kernel, by decide +kernel⟩
abbrev s_need_table : Stmt := topS 11
abbrev n_need_table : List Str := ["thing"]
theorem sc_need_table : FnScope n_need_table ["thing"] (defScope s_need_table) := ⟨rfl, rfl, rfl, by decide +kernel, rfl, by decide +kernel, by decide +kernel⟩
abbrev s_row_sums : Stmt := topS 12
abbrev n_row_sums : List Str := ["table", "row"]
theorem sc_row_sums : FnScope n_row_sums ["table"] (defScope s_row_sums) := ⟨rfl, rfl, rfl, by decide +kernel, rfl, by decide +kernel, by decide +kernel⟩
abbrev s_column_sums : Stmt := topS 13
abbrev n_column_sums : List Str := ["table", "column"]
theorem sc_column_sums : FnScope n_column_sums ["table"] (defScope s_column_sums) := ⟨rfl, rfl, rfl, by decide +kernel, rfl, by decide +kernel, by decide +kernel⟩
abbrev s__are_cells : Stmt := topS 15
abbrev n__are_cells : List Str := ["thing", "row", "count"]
theorem sc__are_cells : FnScope n__are_cells ["thing"] (defScope s__are_cells) := ⟨rfl, rfl, rfl, by decide +kernel, rfl, by decide +kernel, by decide +kernel⟩
abbrev s__are_sums : Stmt := topS 16
abbrev n__are_sums : List Str := ["thing", "many", "total"]
theorem sc__are_sums : FnScope n__are_sums ["thing", "many"] (defScope s__are_sums) := ⟨rfl, rfl, rfl, by decide +kernel, rfl, by decide +kernel, by decide +kernel⟩
abbrev s__has_parts : Stmt := topS 17
abbrev n__has_parts : List Str := ["thing", "cells", "of_rows", "of_columns"]
theorem sc__has_parts : FnScope n__has_parts ["thing"] (defScope s__has_parts) := ⟨rfl, rfl, rfl, by decide +kernel, rfl, by decide +kernel, by decide +kernel⟩
abbrev s__left : Stmt := topS 18
abbrev n__left : List Str := ["lines", "sums", "line", "total", "count"]
theorem sc__left : FnScope n__left ["lines", "sums"] (defScope s__left) := ⟨rfl, rfl, rfl, by decide +kernel, rfl, by decide +kernel, by decide +kernel⟩
abbrev s__rests : Stmt := topS 19
abbrev n__rests : List Str := ["parts", "cells", "of_rows", "of_columns"]
theorem sc__rests : FnScope n__rests ["parts"] (defScope s__rests) := ⟨rfl, rfl, rfl, by decide +kernel, rfl, by decide +kernel, by decide +kernel⟩
abbrev s_is_view : Stmt := topS 20
abbrev n_is_view : List Str := ["thing", "of_rows", "of_columns"]
theorem sc_is_view : FnScope n_is_view ["thing"] (defScope s_is_view) := ⟨rfl, rfl, rfl, by decide +kernel, rfl, by decide +kernel, by decide +kernel⟩
abbrev s_need_view : Stmt := topS 21
abbrev n_need_view : List Str := ["thing"]
theorem sc_need_view : FnScope n_need_view ["thing"] (defScope s_need_view) := ⟨rfl, rfl, rfl, by decide +kernel, rfl, by decide +kernel, by decide +kernel⟩
abbrev s__are_places : Stmt := topS 22
abbrev n__are_places : List Str := ["thing", "table", "place"]
theorem sc__are_places : FnScope n__are_places ["thing", "table"] (defScope s__are_places) := ⟨rfl, rfl, rfl, by decide +kernel, rfl, by decide +kernel, by decide +kernel⟩
abbrev s_view_of : Stmt := topS 23
abbrev n_view_of : List Str := ["table", "places", "cells", "at", "row", "across", "count"]
theorem sc_view_of : FnScope n_view_of ["table", "places"] (defScope s_view_of) := ⟨rfl, rfl, rfl, by decide +kernel, rfl, by decide +kernel, by decide +kernel⟩
abbrev s_hidden_places : Stmt := topS 24
abbrev n_hidden_places : List Str := ["view", "at", "row", "across", "count"]
theorem sc_hidden_places : FnScope n_hidden_places ["view"] (defScope s_hidden_places) := ⟨rfl, rfl, rfl, by decide +kernel, rfl, by decide +kernel, by decide +kernel⟩
abbrev s_has_view : Stmt := topS 25
abbrev n_has_view : List Str := ["table", "view", "cells"]
theorem sc_has_view : FnScope n_has_view ["table", "view"] (defScope s_has_view) := ⟨rfl, rfl, rfl, by decide +kernel, rfl, by decide +kernel, by decide +kernel⟩
abbrev s__law_mix : Stmt := topS 27
abbrev n__law_mix : List Str := ["_law_script", "_law_k", "_law_cell", "_law_number"]
theorem sc__law_mix : FnScope n__law_mix ["_law_script", "_law_k"] (defScope s__law_mix) := ⟨rfl, rfl, rfl, by decide +kernel, rfl, by decide +kernel, by decide +kernel⟩
abbrev s__law_count : Stmt := topS 28
abbrev n__law_count : List Str := ["_law_script", "_law_k", "_law_number", "_law_more", "_law_some"]
theorem sc__law_count : FnScope n__law_count ["_law_script", "_law_k"] (defScope s__law_count) := ⟨rfl, rfl, rfl, by decide +kernel, rfl, by decide +kernel, by decide +kernel⟩
abbrev s__law_table : Stmt := topS 29
abbrev n__law_table : List Str := ["_law_script", "_law_high", "_law_wide", "_law_table_here", "_law_row", "_law_column"]
theorem sc__law_table : FnScope n__law_table ["_law_script", "_law_high", "_law_wide"] (defScope s__law_table) := ⟨rfl, rfl, rfl, by decide +kernel, rfl, by decide +kernel, by decide +kernel⟩
abbrev s__law_all : Stmt := topS 30
abbrev n__law_all : List Str := ["_law_table_here", "_law_found", "_law_row", "_law_column"]
theorem sc__law_all : FnScope n__law_all ["_law_table_here"] (defScope s__law_all) := ⟨rfl, rfl, rfl, by decide +kernel, rfl, by decide +kernel, by decide +kernel⟩
abbrev s__law_places : Stmt := topS 31
abbrev n__law_places : List Str := ["_law_script", "_law_table_here", "_law_share", "_law_some", "_law_k"]
theorem sc__law_places : FnScope n__law_places ["_law_script", "_law_table_here"] (defScope s__law_places) := ⟨rfl, rfl, rfl, by decide +kernel, rfl, by decide +kernel, by decide +kernel⟩
abbrev s__law_column_sums : Stmt := topS 32
abbrev n__law_column_sums : List Str := ["_law_table_here", "_law_column", "_law_row"]
theorem sc__law_column_sums : FnScope n__law_column_sums ["_law_table_here"] (defScope s__law_column_sums) := ⟨rfl, rfl, rfl, by decide +kernel, rfl, by decide +kernel, by decide +kernel⟩
abbrev s__law_view : Stmt := topS 33
abbrev n__law_view : List Str := ["_law_table_here", "_law_places_here", "_law_cells", "_law_row", "_law_at"]
theorem sc__law_view : FnScope n__law_view ["_law_table_here", "_law_places_here"] (defScope s__law_view) := ⟨rfl, rfl, rfl, by decide +kernel, rfl, by decide +kernel, by decide +kernel⟩
abbrev s__law_whole : Stmt := topS 35
abbrev n__law_whole : List Str := ["_law_thing"]
theorem sc__law_whole : FnScope n__law_whole ["_law_thing"] (defScope s__law_whole) := ⟨rfl, rfl, rfl, by decide +kernel, rfl, by decide +kernel, by decide +kernel⟩
abbrev s__law_has : Stmt := topS 36
abbrev n__law_has : List Str := ["_law_table_here", "_law_view_here", "_law_row", "_law_cells", "_law_count_here", "_law_cell"]
theorem sc__law_has : FnScope n__law_has ["_law_table_here", "_law_view_here"] (defScope s__law_has) := ⟨rfl, rfl, rfl, by decide +kernel, rfl, by decide +kernel, by decide +kernel⟩
abbrev s__law_rectangle : Stmt := topS 37
abbrev n__law_rectangle : List Str := ["_law_script", "_law_table_here", "_law_k", "_law_row", "_law_other_here", "_law_column", "_law_last", "_law_by"]
theorem sc__law_rectangle : FnScope n__law_rectangle ["_law_script", "_law_table_here", "_law_k"] (defScope s__law_rectangle) := ⟨rfl, rfl, rfl, by decide +kernel, rfl, by decide +kernel, by decide +kernel⟩
abbrev s__law_other : Stmt := topS 38
abbrev n__law_other : List Str := ["_law_script", "_law_table_here", "_law_way", "_law_made", "_law_row", "_law_column", "_law_turn", "_law_beside"]
theorem sc__law_other : FnScope n__law_other ["_law_script", "_law_table_here"] (defScope s__law_other) := ⟨rfl, rfl, rfl, by decide +kernel, rfl, by decide +kernel, by decide +kernel⟩
abbrev s__law_refused : Stmt := topS 39
abbrev n__law_refused : List Str := ["_law_table_here", "_law_view_here", "e"]
theorem sc__law_refused : FnScope n__law_refused ["_law_table_here", "_law_view_here"] (defScope s__law_refused) := ⟨rfl, rfl, rfl, by decide +kernel, rfl, by decide +kernel, by decide +kernel⟩
abbrev s_law : Stmt := topS 40
abbrev n_law : List Str := ["_law_script", "_law_table_here", "_law_places_here", "_law_view_here", "_law_other_here", "_law_handed", "_law_due", "_law_turn", "_law_bad", "_law_found", "_law_row"]
theorem sc_law : FnScope n_law ["_law_script"] (defScope s_law) := ⟨rfl, rfl, rfl, by decide +kernel, rfl, by decide +kernel, by decide +kernel⟩
/-- a def of the text -/
structure Dfn (K : PySem.W.Frag) (mg : Str → Option Value) (x : Str) (st : Stmt) (ps : List Str) (f : Addr) (fd : FuncData) : Prop where
  F : Fun K x x st f fd
  b : L2.Binds K fd ps []
  g : mg x = some (.ref f)
/-- the names that are read beside the defs -/
structure Txt (mg : Str → Option Value) (t_MOST : Tok) (c_BadPlace : Addr) (c_BadTable : Addr) (c_BadView : Addr) (c_VeilError : Addr) : Prop where
  no_all : mg "all" = none
  no_any : mg "any" = none
  no_bool : mg "bool" = none
  no_enumerate : mg "enumerate" = none
  no_int : mg "int" = none
  no_isinstance : mg "isinstance" = none
  no_len : mg "len" = none
  no_list : mg "list" = none
  no_min : mg "min" = none
  no_range : mg "range" = none
  no_set : mg "set" = none
  no_sum : mg "sum" = none
  no_tuple : mg "tuple" = none
  no_type : mg "type" = none
  no_zip : mg "zip" = none
  mg_MOST : mg "MOST" = some (.int 8 t_MOST)
  mg_BadPlace : mg "BadPlace" = some (.ref c_BadPlace)
  mg_BadTable : mg "BadTable" = some (.ref c_BadTable)
  mg_BadView : mg "BadView" = some (.ref c_BadView)
  mg_VeilError : mg "VeilError" = some (.ref c_VeilError)
  e_BadTable : ErrC c_BadTable
  e_BadView : ErrC c_BadView
  e_BadPlace : ErrC c_BadPlace
  i_BadTable : ExcC KK c_BadTable
  i_BadView : ExcC KK c_BadView
  m_BadTable_BadTable : PySem.W.exmOne KK (.ref c_BadTable) (.ref c_BadTable) = some true
  k_BadTable_BadView : PySem.W.kitOne KK (.ref c_BadTable) (.ref c_BadView) = some false
  m_BadView_BadTable : PySem.W.exmOne KK (.ref c_BadView) (.ref c_BadTable) = some false
  m_BadView_VeilError : PySem.W.exmOne KK (.ref c_BadView) (.ref c_VeilError) = some true
  k_BadView_BadView : PySem.W.kitOne KK (.ref c_BadView) (.ref c_BadView) = some true
def cmL (c_BadTable c_BadView c_BadPlace : Addr) : String → Addr
  | "BadTable" => c_BadTable
  | "BadView" => c_BadView
  | "BadPlace" => c_BadPlace
  | _ => 0

def H__law_refused : String → Option PyData := fun c => if c = "BadTable" then some (.str "table") else if c = "BadView" then some (.str "view") else none
noncomputable def B_is_whole : De → Option GO := (sRetZ [0, 0] (okF (eAnd (tyEqF "int" (eV 0)) (e2 geI (eV 0) (eV 1)))))
noncomputable def M_is_whole : List PyData → Option Ob := only_ 2 (runF 2 B_is_whole)
noncomputable def B_is_grid : De → Option GO := (sSeq (sIf (bOr (bOf (tyNeF "list" (eV 0))) (bNot (bOf (eChain leI leI (eC (.int 1)) (eCB lenL (aC (eV 0) aN)) (eC (.int 8)))))) (sRetZ [0, 0, 0] (okF (eC (.bool false)))) sNx)
    (sSeq (sIf (bOf (eCB anyL (aC (eLc [2] (bName 2) (itA (eV 0)) (fun _ => some true) (tyNeF "list" (eV 2))) aN))) (sRetZ [0, 0, 0] (okF (eC (.bool false)))) sNx)
    (sSeq (sAsgZ [0, 0, 0] 1 (okF (eCB lenL (aC (e2 ixD (eV 0) (eC (.int 0))) aN))))
    (sRetZ [0, 0, 0] (okF (eAnd (eChain leI leI (eC (.int 1)) (eV 1) (eC (.int 8))) (eCB allL (aC (eLc [2] (bName 2) (itA (eV 0)) (fun _ => some true) (e2 eqE (eCB lenL (aC (eV 2) aN)) (eV 1))) aN))))))))
noncomputable def M_is_grid : List PyData → Option Ob := only_ 1 (runF 3 B_is_grid)
noncomputable def B_is_table : De → Option GO := (sRetZ [0, 0, 0] (okF (eAnd (eCB (okOf M_is_grid) (aC (eV 0) aN)) (eCB allL (aC (eLc2 [1, 2] (bName 1) (itA (eV 0)) (fun _ => some true) [2] (bName 2) (itA (eV 1)) (fun _ => some true) (eCB (okOf M_is_whole) (aC (eV 2) (aC (eC (.int 0)) aN)))) aN)))))
noncomputable def M_is_table : List PyData → Option Ob := only_ 1 (runF 3 B_is_table)
noncomputable def B_is_place : De → Option GO := (sSeq (sIf (bOr (bOf (tyNeF "tuple" (eV 0))) (bOf (e2 neE (eCB lenL (aC (eV 0) aN)) (eC (.int 2))))) (sRetZ [0, 0, 0, 0] (okF (eC (.bool false)))) sNx)
    (sSeq (sAsgT [0, 0, 0, 0] (bTup 2 (bCons (bName 2) (bCons (bName 3) bNil))) (okF (eV 0)))
    (sSeq (sIf (bOr (bNot (bOf (eCB (okOf M_is_whole) (aC (eV 2) (aC (eC (.int 0)) aN))))) (bNot (bOf (eCB (okOf M_is_whole) (aC (eV 3) (aC (eC (.int 0)) aN)))))) (sRetZ [0, 0, 0, 0] (okF (eC (.bool false)))) sNx)
    (sRetZ [0, 0, 0, 0] (okF (eAnd (e2 ltI (eV 2) (eCB lenL (aC (eV 1) aN))) (e2 ltI (eV 3) (eCB lenL (aC (e2 ixD (eV 1) (eC (.int 0))) aN)))))))))
noncomputable def M_is_place : List PyData → Option Ob := only_ 2 (runF 4 B_is_place)
noncomputable def B_need_table : De → Option GO := (sIf (bNot (bOf (eCB (okOf M_is_table) (aC (eV 0) aN)))) (sRaise "BadTable") sNx)
noncomputable def M_need_table : List PyData → Option Ob := only_ 1 (runF 1 B_need_table)
noncomputable def B_row_sums : De → Option GO := (sSeq (thenR (cR M_need_table (aC (eV 0) aN)) kDrop)
    (thenR (okF (eLc [1] (bName 1) (itA (eV 0)) (fun _ => some true) (flatF (eCB sumL (aC (eV 1) aN))))) kRetN))
noncomputable def M_row_sums : List PyData → Option Ob := only_ 1 (runF 2 B_row_sums)
noncomputable def B_column_sums : De → Option GO := (sSeq (thenR (cR M_need_table (aC (eV 0) aN)) kDrop)
    (thenR (okF (eLc [1] (bName 1) (itS (eV 0)) (fun _ => some true) (flatF (eCB sumL (aC (eV 1) aN))))) kRetN))
noncomputable def M_column_sums : List PyData → Option Ob := only_ 1 (runF 2 B_column_sums)
noncomputable def B__are_cells : De → Option GO := (sRetZ [0, 0, 0] (okF (eAnd (eCB (okOf M_is_grid) (aC (eV 0) aN)) (eCB allL (aC (eLc2 [1, 2] (bName 1) (itA (eV 0)) (fun _ => some true) [2] (bName 2) (itA (eV 1)) (fun _ => some true) (eOr (e2 isND (eV 2) (eC .none)) (eCB (okOf M_is_whole) (aC (eV 2) (aC (eC (.int 0)) aN))))) aN)))))
noncomputable def M__are_cells : List PyData → Option Ob := only_ 1 (runF 3 B__are_cells)
noncomputable def B__are_sums : De → Option GO := (sSeq (sIf (bOr (bOf (tyNeF "list" (eV 0))) (bOf (e2 neE (eCB lenL (aC (eV 0) aN)) (eV 1)))) (sRetZ [0, 0, 0] (okF (eC (.bool false)))) sNx)
    (sRetZ [0, 0, 0] (okF (eCB allL (aC (eLc [2] (bName 2) (itA (eV 0)) (fun _ => some true) (eCB (okOf M_is_whole) (aC (eV 2) (aC (eC (.int 0)) aN)))) aN)))))
noncomputable def M__are_sums : List PyData → Option Ob := only_ 2 (runF 3 B__are_sums)
noncomputable def B__has_parts : De → Option GO := (sSeq (sIf (bOr (bOf (tyNeF "tuple" (eV 0))) (bOf (e2 neE (eCB lenL (aC (eV 0) aN)) (eC (.int 3))))) (sRetZ [0, 0, 0, 0] (okF (eC (.bool false)))) sNx)
    (sSeq (sAsgT [0, 0, 0, 0] (bTup 3 (bCons (bName 1) (bCons (bName 2) (bCons (bName 3) bNil)))) (okF (eV 0)))
    (sSeq (sIf (bNot (bOf (eCB (okOf M__are_cells) (aC (eV 1) aN)))) (sRetZ [0, 0, 0, 0] (okF (eC (.bool false)))) sNx)
    (sRetZ [0, 0, 0, 0] (okF (eAnd (eCB (okOf M__are_sums) (aC (eV 2) (aC (eCB lenL (aC (eV 1) aN)) aN))) (eCB (okOf M__are_sums) (aC (eV 3) (aC (eCB lenL (aC (e2 ixD (eV 1) (eC (.int 0))) aN)) aN)))))))))
noncomputable def M__has_parts : List PyData → Option Ob := only_ 1 (runF 4 B__has_parts)
noncomputable def B__left : De → Option GO := (thenR (okF (eLc [2, 3] (bTup 2 (bCons (bName 2) (bCons (bName 3) bNil))) (itZ (aC (eV 0) (aC (eV 1) aN))) (fun _ => some true) (flatF (e2 subI (eV 3) (eCB sumL (aC (eLc [4] (bName 4) (itA (eV 2)) (bOf (e2 notND (eV 4) (eC .none))) (eV 4)) aN)))))) kRetN)
noncomputable def M__left : List PyData → Option Ob := only_ 2 (runF 5 B__left)
noncomputable def B__rests : De → Option GO := (sSeq (sAsgT [0, 0, 0, 0] (bTup 3 (bCons (bName 1) (bCons (bName 2) (bCons (bName 3) bNil)))) (okF (eV 0)))
    (thenR (okF (eTup (aC (eCB (okOf M__left) (aC (eV 1) (aC (eV 2) aN))) (aC (eCB (okOf M__left) (aC (lzS (eV 1)) (aC (eV 3) aN))) aN)))) kRetN))
noncomputable def M__rests : List PyData → Option Ob := only_ 1 (runF 4 B__rests)
noncomputable def B_is_view : De → Option GO := (sSeq (sIf (bNot (bOf (eCB (okOf M__has_parts) (aC (eV 0) aN)))) (sRetZ [0, 0, 0] (okF (eC (.bool false)))) sNx)
    (sSeq (sAsgT [0, 0, 0] (bTup 2 (bCons (bName 1) (bCons (bName 2) bNil))) (okF (eCB (okOf M__rests) (aC (eV 0) aN))))
    (sRetZ [0, 0, 0] (okF (eAnd (e2 geI (eCB minL (aC (eV 1) aN)) (eC (.int 0))) (eAnd (e2 geI (eCB minL (aC (eV 2) aN)) (eC (.int 0))) (e2 eqE (eCB sumL (aC (eV 1) aN)) (eCB sumL (aC (eV 2) aN)))))))))
noncomputable def M_is_view : List PyData → Option Ob := only_ 1 (runF 3 B_is_view)
noncomputable def B_need_view : De → Option GO := (sIf (bNot (bOf (eCB (okOf M_is_view) (aC (eV 0) aN)))) (sRaise "BadView") sNx)
noncomputable def M_need_view : List PyData → Option Ob := only_ 1 (runF 1 B_need_view)
noncomputable def B__are_places : De → Option GO := (sSeq (sIf (bOr (bOf (tyNeF "list" (eV 0))) (bNot (bOf (eCB allL (aC (eLc [2] (bName 2) (itA (eV 0)) (fun _ => some true) (eCB (okOf M_is_place) (aC (eV 2) (aC (eV 1) aN)))) aN))))) (sRetZ [0, 0, 0] (okF (eC (.bool false)))) sNx)
    (sRetZ [0, 0, 0] (okF (e2 eqE (e1 lenSetD (eV 0)) (eCB lenL (aC (eV 0) aN))))))
noncomputable def M__are_places : List PyData → Option Ob := only_ 2 (runF 3 B__are_places)
noncomputable def B_view_of : De → Option GO := (sSeq (thenR (cR M_need_table (aC (eV 0) aN)) kDrop)
    (sSeq (sIf (bNot (bOf (eCB (okOf M__are_places) (aC (eV 1) (aC (eV 0) aN))))) (sRaise "BadPlace") sNx)
    (sSeq (thenR (okF (eLc [3, 4] (bTup 2 (bCons (bName 3) (bCons (bName 4) bNil))) (itE (aC (eV 0) aN)) (fun _ => some true) (eLc [5, 6] (bTup 2 (bCons (bName 5) (bCons (bName 6) bNil))) (itE (aC (eV 4) aN)) (fun _ => some true) (eIf (bOf (e2 inE (eTup (aC (eV 3) (aC (eV 5) aN))) (eV 1))) (flatF (eC .none)) (flatF (eV 6)))))) (kNew 2))
    (sRetM (mTup (mCons (mVar 2) (mCons (keepM (cR M_row_sums (aC (eV 0) aN))) (mCons (keepM (cR M_column_sums (aC (eV 0) aN))) mNil))))))))
noncomputable def M_view_of : List PyData → Option Ob := only_ 2 (runF 7 B_view_of)
noncomputable def B_hidden_places : De → Option GO := (sSeq (thenR (cR M_need_view (aC (eV 0) aN)) kDrop)
    (thenR (okF (eLc2 [1, 2, 3, 4] (bTup 2 (bCons (bName 1) (bCons (bName 2) bNil))) (itE (aC (e2 ixD (eV 0) (eC (.int 0))) aN)) (fun _ => some true) [3, 4] (bTup 2 (bCons (bName 3) (bCons (bName 4) bNil))) (itE (aC (eV 2) aN)) (bOf (e2 isND (eV 4) (eC .none))) (eTup (aC (flatF (eV 1)) (aC (flatF (eV 3)) aN))))) kRetN))
noncomputable def M_hidden_places : List PyData → Option Ob := only_ 1 (runF 5 B_hidden_places)
noncomputable def B_has_view : De → Option GO := (sSeq (thenR (cR M_need_table (aC (eV 0) aN)) kDrop)
    (sSeq (thenR (cR M_need_view (aC (eV 1) aN)) kDrop)
    (sSeq (sAsgZ [0, 0, 0] 2 (okF (e2 ixD (eV 1) (eC (.int 0)))))
    (sSeq (sIf (bOr (bOf (e2 neE (eCB lenL (aC (eV 0) aN)) (eCB lenL (aC (eV 2) aN)))) (bOf (e2 neE (eCB lenL (aC (e2 ixD (eV 0) (eC (.int 0))) aN)) (eCB lenL (aC (e2 ixD (eV 2) (eC (.int 0))) aN))))) (sRetZ [0, 0, 0] (okF (eC (.bool false)))) sNx)
    (sRetZ [0, 0, 0] (okF (e2 eqE (eCB (okOf M_view_of) (aC (eV 0) (aC (eCB (okOf M_hidden_places) (aC (eV 1) aN)) aN))) (eV 1))))))))
noncomputable def M_has_view : List PyData → Option Ob := only_ 2 (runF 3 B_has_view)
noncomputable def B__law_mix : De → Option GO := (sSeq (sAsgZ [0, 0, 0, 0] 2 (okF (eC (.int 0))))
    (sSeq (sIf (bOf (e2 gtI (eCB lenL (aC (eV 0) aN)) (eC (.int 0)))) (sAsgZ [0, 0, 0, 0] 2 (okF (e2 plusD (e2 ixD (eV 0) (e2 modI (eV 1) (eCB lenL (aC (eV 0) aN)))) (e2 divI (eV 1) (eCB lenL (aC (eV 0) aN)))))) sNx)
    (sSeq (sAsgZ [0, 0, 0, 0] 3 (okF (e2 modI (e2 timesD (e2 plusD (eV 2) (e2 timesD (eC (.int 7919)) (e2 plusD (eV 1) (eC (.int 1))))) (eC (.int 48271))) (eC (.int 2147483647)))))
    (sRetZ [0, 0, 0, 0] (okF (e2 modI (e2 timesD (eV 3) (eV 3)) (eC (.int 2147483629))))))))
noncomputable def M__law_mix : List PyData → Option Ob := only_ 2 (runF 4 B__law_mix)
noncomputable def B__law_count : De → Option GO := (sSeq (sAsgZ [0, 0, 0, 0, 0] 2 (okF (eCB (okOf M__law_mix) (aC (eV 0) (aC (eV 1) aN)))))
    (sSeq (sAsgZ [0, 0, 0, 0, 0] 3 (okF (e2 divI (eV 2) (eC (.int 8)))))
    (sSeq (sIf (bOf (e2 eqE (e2 modI (eV 2) (eC (.int 8))) (eC (.int 0)))) (sRetZ [0, 0, 0, 0, 0] (okF (eC (.int 0)))) sNx)
    (sSeq (sAsgZ [0, 0, 0, 0, 0] 4 (okF (eLst (aC (e2 modI (eV 3) (eC (.int 3))) (aC (e2 modI (eV 3) (eC (.int 5))) (aC (e2 modI (eV 3) (eC (.int 12))) (aC (e2 ixD (eLst (aC (eC (.int 0)) (aC (eC (.int 1)) (aC (eC (.int 2)) (aC (eC (.int 40)) aN))))) (e2 modI (eV 3) (eC (.int 4)))) (aC (e2 modI (eV 3) (eC (.int 1000))) (aC (e2 plusD (e2 timesD (eV 3) (e2 powI (eC (.int 10)) (eC (.int 11)))) (e2 modI (eV 3) (eC (.int 7)))) aN)))))))))
    (sRetZ [0, 0, 0, 0, 0] (okF (e2 ixD (eV 4) (e2 modI (eCB (okOf M__law_mix) (aC (eV 0) (aC (eC (.int 2)) aN))) (eC (.int 6))))))))))
noncomputable def M__law_count : List PyData → Option Ob := only_ 2 (runF 5 B__law_count)
noncomputable def B__law_table : De → Option GO := (sSeq (thenR (okF (eLst aN)) (kNew 3))
    (sSeq (sFor [0, 0, 0, 3, 0, 0] (bName 4) (itR1 (aC (eV 1) aN)) (sApp 3 3 pN (okF (eLc [5] (bName 5) (itR1 (aC (eV 2) aN)) (fun _ => some true) (flatF (eCB (okOf M__law_count) (aC (eV 0) (aC (e2 plusD (e2 plusD (eC (.int 8)) (e2 timesD (eV 2) (eV 4))) (eV 5)) aN))))))))
    (sRetM (mVar 3))))
noncomputable def M__law_table : List PyData → Option Ob := only_ 3 (runF 6 B__law_table)
noncomputable def B__law_all : De → Option GO := (sSeq (sAsgZ [0, 0, 0, 0] 1 (okF (eLst aN)))
    (sSeq (sFor [0, 0, 0, 0] (bName 2) (itR1 (aC (eCB lenL (aC (eV 0) aN)) aN)) (sAsgZ [0, 0, 0, 0] 1 (okF (e2 plusD (eV 1) (eLc [3] (bName 3) (itR1 (aC (eCB lenL (aC (e2 ixD (eV 0) (eC (.int 0))) aN)) aN)) (fun _ => some true) (eTup (aC (eV 2) (aC (eV 3) aN))))))))
    (sRetZ [0, 0, 0, 0] (okF (eV 1)))))
noncomputable def M__law_all : List PyData → Option Ob := only_ 1 (runF 4 B__law_all)
noncomputable def B__law_places : De → Option GO := (sSeq (sAsgZ [0, 0, 0, 0, 0] 2 (okF (e2 subI (e2 modI (eCB (okOf M__law_mix) (aC (eV 0) (aC (eC (.int 6)) aN))) (eC (.int 5))) (eC (.int 1)))))
    (sSeq (sAsgZ [0, 0, 0, 0, 0] 3 (okF (eCB (okOf M__law_all) (aC (eV 1) aN))))
    (sRetZ [0, 0, 0, 0, 0] (okF (eLc [4] (bName 4) (itR1 (aC (eCB lenL (aC (eV 3) aN)) aN)) (bOf (e2 gtI (e2 modI (eCB (okOf M__law_mix) (aC (eV 0) (aC (e2 plusD (eC (.int 80)) (eV 4)) aN))) (eC (.int 5))) (eV 2))) (e2 ixD (eV 3) (eV 4)))))))
noncomputable def M__law_places : List PyData → Option Ob := only_ 2 (runF 5 B__law_places)
noncomputable def B__law_column_sums : De → Option GO := (thenR (okF (eLc [1] (bName 1) (itR1 (aC (eCB lenL (aC (e2 ixD (eV 0) (eC (.int 0))) aN)) aN)) (fun _ => some true) (flatF (eCB sumL (aC (eLc [2] (bName 2) (itA (eV 0)) (fun _ => some true) (e2 ixD (eV 2) (eV 1))) aN))))) kRetN)
noncomputable def M__law_column_sums : List PyData → Option Ob := only_ 1 (runF 3 B__law_column_sums)
noncomputable def B__law_view : De → Option GO := (sSeq (thenR (okF (eLst aN)) (kNew 2))
    (sSeq (sFor [0, 0, 3, 0, 0] (bName 3) (itR1 (aC (eCB lenL (aC (eV 0) aN)) aN)) (sApp 3 2 pN (okF (eLc [4] (bName 4) (itR1 (aC (eCB lenL (aC (e2 ixD (eV 0) (eC (.int 0))) aN)) aN)) (fun _ => some true) (flatF (e2 ixD (eLst (aC (e2 ixD (e2 ixD (eV 0) (eV 3)) (eV 4)) (aC (eC .none) aN))) (eCB intL (aC (e2 inE (eTup (aC (eV 3) (aC (eV 4) aN))) (eV 1)) aN))))))))
    (sRetM (mTup (mCons (mVar 2) (mCons (keepM (okF (eLc [3] (bName 3) (itA (eV 0)) (fun _ => some true) (flatF (eCB sumL (aC (eV 3) aN)))))) (mCons (keepM (okF (eCB (okOf M__law_column_sums) (aC (eV 0) aN)))) mNil)))))))
noncomputable def M__law_view : List PyData → Option Ob := only_ 2 (runF 5 B__law_view)
noncomputable def B__law_whole : De → Option GO := (sRetZ [0] (okF (eAnd (isiF "int" (eV 0)) (e1 notB (isiF "bool" (eV 0))))))
noncomputable def M__law_whole : List PyData → Option Ob := only_ 1 (runF 1 B__law_whole)
noncomputable def B__law_has : De → Option GO := (sSeq (sIf (bOr (bNot (bOf (isiF "list" (eV 0)))) (bOf (e2 neE (eCB lenL (aC (eV 0) aN)) (eCB lenL (aC (e2 ixD (eV 1) (eC (.int 0))) aN))))) (sRetZ [0, 0, 0, 0, 0, 0] (okF (eC (.bool false)))) sNx)
    (sSeq (sFor [0, 0, 0, 0, 0, 0] (bTup 2 (bCons (bName 2) (bCons (bName 3) bNil))) (itZ (aC (eV 0) (aC (e2 ixD (eV 1) (eC (.int 0))) aN))) (sSeq (sIf (bOr (bNot (bOf (isiF "list" (eV 2)))) (bOf (e2 neE (eCB lenL (aC (eV 2) aN)) (eCB lenL (aC (eV 3) aN))))) (sRetZ [0, 0, 0, 0, 0, 0] (okF (eC (.bool false)))) sNx)
    (sFor [0, 0, 0, 0, 0, 0] (bTup 2 (bCons (bName 4) (bCons (bName 5) bNil))) (itZ (aC (eV 2) (aC (eV 3) aN))) (sIf (bOr (bNot (bOf (eCB (okOf M__law_whole) (aC (eV 4) aN)))) (bOr (bOf (e2 ltI (eV 4) (eC (.int 0)))) (bAnd (bOf (e2 notND (eV 5) (eC .none))) (bOf (e2 neE (eV 5) (eV 4)))))) (sRetZ [0, 0, 0, 0, 0, 0] (okF (eC (.bool false)))) sNx))))
    (sRetZ [0, 0, 0, 0, 0, 0] (okF (eAnd (e2 eqE (eLc [2] (bName 2) (itA (eV 0)) (fun _ => some true) (eCB sumL (aC (eV 2) aN))) (e2 ixD (eV 1) (eC (.int 1)))) (e2 eqE (eCB (okOf M__law_column_sums) (aC (eV 0) aN)) (e2 ixD (eV 1) (eC (.int 2)))))))))
noncomputable def M__law_has : List PyData → Option Ob := only_ 2 (runF 6 B__law_has)
noncomputable def B__law_rectangle : De → Option GO := (sSeq (thenR (okF (e2 modI (eCB (okOf M__law_mix) (aC (eV 0) (aC (eV 2) aN))) (eCB lenL (aC (eV 1) aN)))) (kFlat 3))
    (sSeq (thenR (okF (e2 modI (eCB (okOf M__law_mix) (aC (eV 0) (aC (e2 plusD (eV 2) (eC (.int 1))) aN))) (eCB lenL (aC (eV 1) aN)))) (kFlat 4))
    (sSeq (thenR (okF (e2 modI (eCB (okOf M__law_mix) (aC (eV 0) (aC (e2 plusD (eV 2) (eC (.int 2))) aN))) (eCB lenL (aC (e2 ixD (eV 1) (eC (.int 0))) aN)))) (kFlat 5))
    (sSeq (thenR (okF (e2 modI (eCB (okOf M__law_mix) (aC (eV 0) (aC (e2 plusD (eV 2) (eC (.int 3))) aN))) (eCB lenL (aC (e2 ixD (eV 1) (eC (.int 0))) aN)))) (kFlat 6))
    (sSeq (thenR (okF (eCB min3L (aC (e2 ixD (e2 ixD (eV 1) (eV 3)) (eV 5)) (aC (e2 ixD (e2 ixD (eV 1) (eV 4)) (eV 6)) (aC (e2 plusD (eC (.int 1)) (e2 modI (eCB (okOf M__law_mix) (aC (eV 0) (aC (e2 plusD (eV 2) (eC (.int 4))) aN))) (eC (.int 3)))) aN))))) (kFlat 7))
    (sSeq (sSetP 13 1 (pS pN (eV 3)) (eV 5) (fltR (okF (e2 subI (e2 ixD (e2 ixD (eV 1) (eV 3)) (eV 5)) (eV 7)))))
    (sSeq (sSetP 13 1 (pS pN (eV 4)) (eV 6) (fltR (okF (e2 subI (e2 ixD (e2 ixD (eV 1) (eV 4)) (eV 6)) (eV 7)))))
    (sSeq (sSetP 13 1 (pS pN (eV 3)) (eV 6) (fltR (okF (e2 plusD (e2 ixD (e2 ixD (eV 1) (eV 3)) (eV 6)) (eV 7)))))
    (sSetP 13 1 (pS pN (eV 4)) (eV 5) (fltR (okF (e2 plusD (e2 ixD (e2 ixD (eV 1) (eV 4)) (eV 5)) (eV 7)))))))))))))
noncomputable def M__law_rectangle : List PyData → Option (PyData × PyData) := onlyM 3 (runM 8 1 B__law_rectangle)
noncomputable def B__law_other : De → Option GO := (sSeq (sAsgZ [0, 0, 0, 3, 0, 0, 0, 0] 2 (okF (e2 modI (eCB (okOf M__law_mix) (aC (eV 0) (aC (eC (.int 3)) aN))) (eC (.int 8)))))
    (sSeq (thenR (okF (eLc [4] (bName 4) (itA (eV 1)) (fun _ => some true) (eCB listN (aC (eV 4) aN)))) (kNew 3))
    (sSeq (sIf (bOf (e2 ltI (eV 2) (eC (.int 5)))) (sFor [0, 0, 0, 3, 0, 0, 0, 0] (bName 6) (itR1 (aC (e2 ixD (eLst (aC (eC (.int 0)) (aC (eC (.int 1)) (aC (eC (.int 1)) (aC (eC (.int 2)) (aC (eC (.int 2)) aN)))))) (eV 2)) aN)) (sDropC (cM 3 M__law_rectangle (aC (dataK (lefR [0, 0, 0, 3, 0, 0, 0, 0] 0 (okF (eV 0)))) (aC (eV 3) (aC (dataK (lefR [0, 0, 0, 3, 0, 0, 0, 0] 0 (okF (e2 plusD (eC (.int 10)) (e2 timesD (eC (.int 5)) (eV 6)))))) aN)))))) sNx)
    (sSeq (thenR (okF (e2 modI (eCB (okOf M__law_mix) (aC (eV 0) (aC (eC (.int 4)) aN))) (eCB lenL (aC (eV 3) aN)))) (kFlat 4))
    (sSeq (thenR (okF (e2 modI (eCB (okOf M__law_mix) (aC (eV 0) (aC (eC (.int 5)) aN))) (eCB lenL (aC (e2 ixD (eV 3) (eC (.int 0))) aN)))) (kFlat 5))
    (sSeq (sIf (bAnd (bOf (e2 eqE (eV 2) (eC (.int 5)))) (bOf (e2 eqE (e2 modI (eCB (okOf M__law_mix) (aC (eV 0) (aC (eC (.int 7)) aN))) (eC (.int 2))) (eC (.int 0))))) (sSetP 3 3 (pS pN (eV 4)) (eV 5) (okF (flatF (e2 modI (e2 divI (eCB (okOf M__law_mix) (aC (eV 0) (aC (eC (.int 7)) aN))) (eC (.int 2))) (eC (.int 5)))))) (sIf (bAnd (bOf (e2 eqE (eV 2) (eC (.int 5)))) (bOf (e2 gtI (e2 ixD (e2 ixD (eV 3) (eV 4)) (eV 5)) (eC (.int 0))))) (sSeq (sAsgZ [0, 0, 0, 3, 0, 0, 0, 0] 7 (okF (e2 ixD (eLst (aC (eTup (aC (eV 4) (aC (e2 subI (eV 5) (eC (.int 1))) aN))) (aC (eTup (aC (e2 subI (eV 4) (eC (.int 1))) (aC (eV 5) aN))) aN))) (e2 modI (e2 divI (eCB (okOf M__law_mix) (aC (eV 0) (aC (eC (.int 7)) aN))) (eC (.int 2))) (eC (.int 2))))))
    (sSeq (sSetP 3 3 (pS pN (eV 4)) (eV 5) (fltR (okF (e2 subI (e2 ixD (e2 ixD (eV 3) (eV 4)) (eV 5)) (eC (.int 1))))))
    (sSetP 3 3 (pS pN (e2 ixD (eV 7) (eC (.int 0)))) (e2 ixD (eV 7) (eC (.int 1))) (fltR (okF (e2 plusD (e2 ixD (e2 ixD (eV 3) (e2 ixD (eV 7) (eC (.int 0)))) (e2 ixD (eV 7) (eC (.int 1)))) (eC (.int 1)))))))) sNx))
    (sSeq (sIf (bAnd (bOf (e2 eqE (eV 2) (eC (.int 6)))) (bOf (e2 ltI (eCB lenL (aC (eV 3) aN)) (eC (.int 8))))) (sApp 3 3 pN (okF (e2 repN (eLst (aC (eC (.int 0)) aN)) (eCB lenL (aC (e2 ixD (eV 3) (eC (.int 0))) aN))))) sNx)
    (sSeq (sIf (bOf (e2 eqE (eV 2) (eC (.int 7)))) (thenR (okF (eLc [5] (bName 5) (itR1 (aC (eCB lenL (aC (e2 ixD (eV 1) (eC (.int 0))) aN)) aN)) (fun _ => some true) (eLc [4] (bName 4) (itA (eV 1)) (fun _ => some true) (flatF (e2 ixD (eV 4) (eV 5)))))) (kNew 3)) sNx)
    (sRetM (mVar 3))))))))))
noncomputable def M__law_other : List PyData → Option Ob := only_ 2 (runF 8 B__law_other)
noncomputable def B__law_refused : De → Option GO := (sSeq (sTry [0, 0, 0] 2 H__law_refused (thenR (cR M_has_view (aC (eV 0) (aC (eV 1) aN))) kDrop))
    (sRetZ [0, 0, 0] (okF (eC (.str "none")))))
noncomputable def M__law_refused : List PyData → Option Ob := only_ 2 (runF 3 B__law_refused)
noncomputable def B_law : De → Option GO := (sSeq (sAsgZ [0, 0, 0, 0, 0, 0, 0, 0, 0, 0, 0] 1 (okF (eCB (okOf M__law_table) (aC (eV 0) (aC (e2 plusD (eC (.int 1)) (e2 modI (eCB (okOf M__law_mix) (aC (eV 0) (aC (eC (.int 0)) aN))) (eC (.int 8)))) (aC (e2 plusD (eC (.int 1)) (e2 modI (eCB (okOf M__law_mix) (aC (eV 0) (aC (eC (.int 1)) aN))) (eC (.int 8)))) aN))))))
    (sSeq (sAsgZ [0, 0, 0, 0, 0, 0, 0, 0, 0, 0, 0] 2 (okF (eCB (okOf M__law_places) (aC (eV 0) (aC (eV 1) aN)))))
    (sSeq (sAsgZ [0, 0, 0, 0, 0, 0, 0, 0, 0, 0, 0] 3 (okF (eCB (okOf M__law_view) (aC (eV 1) (aC (eV 2) aN)))))
    (sSeq (sAsgZ [0, 0, 0, 0, 0, 0, 0, 0, 0, 0, 0] 4 (okF (eCB (okOf M__law_other) (aC (eV 0) (aC (eV 1) aN)))))
    (sSeq (sAsgZ [0, 0, 0, 0, 0, 0, 0, 0, 0, 0, 0] 5 (okF (eLc [10] (bName 10) (itA (eV 4)) (fun _ => some true) (eCB listL (aC (eV 10) aN)))))
    (sSeq (sAsgZ [0, 0, 0, 0, 0, 0, 0, 0, 0, 0, 0] 6 (okF (eCB (okOf M__law_has) (aC (eV 4) (aC (eCB (okOf M__law_view) (aC (eV 1) (aC (eV 2) aN))) aN)))))
    (sSeq (sFor [0, 0, 0, 0, 0, 0, 0, 0, 0, 0, 0] (bName 7) (itR1 (aC (eC (.int 2)) aN)) (sSeq (sAsgZ [0, 0, 0, 0, 0, 0, 0, 0, 0, 0, 0] 9 (okF (eCB (okOf M_has_view) (aC (eV 5) (aC (eV 3) aN)))))
    (sIf (bOr (bNot (bOf (isiF "bool" (eV 9)))) (bOr (bOf (e2 neE (eV 9) (eV 6))) (bOr (bOf (e2 neE (eV 5) (eV 4))) (bOf (e2 neE (eV 3) (eCB (okOf M__law_view) (aC (eV 1) (aC (eV 2) aN)))))))) (sRetZ [0, 0, 0, 0, 0, 0, 0, 0, 0, 0, 0] (okF (eC (.bool false)))) sNx)))
    (sSeq (sAsgZ [0, 0, 0, 0, 0, 0, 0, 0, 0, 0, 0] 8 (okF (e2 ixD (eLst (aC (eC .none) (aC (eTup aN) (aC (eLst aN) (aC (eSl (eV 3) oN (oI (eC (.int 2)))) aN))))) (e2 modI (eCB (okOf M__law_mix) (aC (eV 0) (aC (eC (.int 9)) aN))) (eC (.int 4))))))
    (sRetZ [0, 0, 0, 0, 0, 0, 0, 0, 0, 0, 0] (okF (eAnd (e2 eqE (eCB (okOf M__law_refused) (aC (eV 5) (aC (eV 8) aN))) (eC (.str "view"))) (e2 eqE (eCB (okOf M__law_refused) (aC (eLst (aC (eV 5) (aC (eLst aN) aN))) (aC (eV 8) aN))) (eC (.str "table"))))))))))))))
theorem m_is_whole (t : PyData) (l : Int) : M_is_whole [t, .int l] = some (.ok (.bool (wholeB t l))) := by
  cases t <;> simp [M_is_whole, B_is_whole, wholeB, only_, onlyC, runF, runC, startD, outOf, outC, sSeq, sIf, sNx, sRetZ, kRetG, sRetG, thenR, kNew, kFlat, kDrop, kRetN, kRetF, sAsgZ, sAsgT, sAsgTF, sRaise, sRetM, sRetC, sRet0, eV, eC, FX.e1, FX.e2, FX.eAnd, FX.eOr, FX.eIf, bOf, bNot, bAnd, bOr, eChain, aN, aC, eLst, eTup, eCB, okOf, cR, okF, lenL, tyNeF, tyEqF, isiF, isT, tyName, iop, subI, ltI, leI, gtI, geI, modI, divI, powI, hideD, isND, notND, notB, negI, bName, bindD, zeros, ixD, itA, itZ, itS, intL, plusD, timesD, mulI, wipeD, flatF, flatD, pN, pS, sApp, sPop, getP, putP, leafOk, leafC, dataK, fltR, lefR, mVar, mCons, mNil, mTup, keepM]
theorem m_law_mix (ns : List Int) (k : Int) (h : ns.length ≤ 63) (hk : 0 ≤ k) : M__law_mix [eI ns, .int k] = some (.ok (.int (mix ns k))) := by
  by_cases h0 : 0 < ns.length
  · have hl : (0 : Int) < ns.length := by omega
    have q0 : 0 ≤ k % (ns.length : Int) := Int.emod_nonneg _ (by omega)
    have q1 : k % (ns.length : Int) < ns.length := Int.emod_lt_of_pos _ hl
    have e : atI (ns.map PyData.int) (k % (ns.length : Int)) = some (.int (ns.getD (k % (ns.length : Int)).toNat 0)) := by
      rw [atI_i q0, List.getElem?_map, List.getD_eq_getElem?_getD, List.getElem?_eq_getElem (by omega)]
      rfl
    have q2 : (ns.length : Int) < 1073741824 := by omega
    have hm : ∀ x : Int, -18446744073709551616 < x % 2147483647 ∧ x % 2147483647 < 18446744073709551616 := fun x => by omega
    simp [M__law_mix, B__law_mix, eI, only_, onlyC, runF, runC, startD, outOf, outC, sSeq, sIf, sNx, sRetZ, kRetG, sRetG, thenR, kNew, kFlat, kDrop, kRetN, kRetF, sAsgZ, sAsgT, sAsgTF, sRaise, sRetM, sRetC, sRet0, eV, eC, FX.e1, FX.e2, FX.eAnd, FX.eOr, FX.eIf, bOf, bNot, bAnd, bOr, eChain, aN, aC, eLst, eTup, eCB, okOf, cR, okF, lenL, tyNeF, tyEqF, isiF, isT, tyName, iop, subI, ltI, leI, gtI, geI, modI, divI, powI, hideD, isND, notND, notB, negI, bName, bindD, zeros, ixD, itA, itZ, itS, intL, plusD, timesD, mulI, wipeD, flatF, flatD, pN, pS, sApp, sPop, getP, putP, leafOk, leafC, dataK, fltR, lefR, mVar, mCons, mNil, mTup, keepM, h0, hl, e, q2, mix, hm]
  · have hl : ¬ (0 : Int) < ns.length := by omega
    have hm : ∀ x : Int, -18446744073709551616 < x % 2147483647 ∧ x % 2147483647 < 18446744073709551616 := fun x => by omega
    simp [M__law_mix, B__law_mix, eI, only_, onlyC, runF, runC, startD, outOf, outC, sSeq, sIf, sNx, sRetZ, kRetG, sRetG, thenR, kNew, kFlat, kDrop, kRetN, kRetF, sAsgZ, sAsgT, sAsgTF, sRaise, sRetM, sRetC, sRet0, eV, eC, FX.e1, FX.e2, FX.eAnd, FX.eOr, FX.eIf, bOf, bNot, bAnd, bOr, eChain, aN, aC, eLst, eTup, eCB, okOf, cR, okF, lenL, tyNeF, tyEqF, isiF, isT, tyName, iop, subI, ltI, leI, gtI, geI, modI, divI, powI, hideD, isND, notND, notB, negI, bName, bindD, zeros, ixD, itA, itZ, itS, intL, plusD, timesD, mulI, wipeD, flatF, flatD, pN, pS, sApp, sPop, getP, putP, leafOk, leafC, dataK, fltR, lefR, mVar, mCons, mNil, mTup, keepM, h0, hl, mix, hm]

theorem hm64 (x : Int) : -18446744073709551616 < x % 2147483647 ∧ x % 2147483647 < 18446744073709551616 := by omega
theorem m_law_count (ns : List Int) (k : Int) (h : ns.length ≤ 63) (hk : 0 ≤ k) : M__law_count [eI ns, .int k] = some (.ok (.int (count ns k))) := by
  have a1 := m_law_mix ns k h hk
  have a2 := m_law_mix ns 2 h (by decide)
  have h0 := mix_lo ns k
  have h1 := mix_hi ns k
  have hm : 0 ≤ mix ns k / 8 := Int.ediv_nonneg h0 (by decide)
  have hM : mix ns k / 8 < 268435454 := by omega
  have e4 : ∀ n : Int, 0 ≤ n % 4 ∧ n % 4 < 4 := fun n => by omega
  have l4 : atI [PyData.int 0, .int 1, .int 2, .int 40] (mix ns k / 8 % 4) = some (.int (([0, 1, 2, 40] : List Int).getD (mix ns k / 8 % 4).toNat 0)) := by
    have e : [PyData.int 0, .int 1, .int 2, .int 40] = ([0, 1, 2, 40] : List Int).map PyData.int := rfl
    have q := e4 (mix ns k / 8)
    rw [e, atI_i q.1, List.getElem?_map, List.getD_eq_getElem?_getD, List.getElem?_eq_getElem (by simp; omega)]
    rfl
  have l6 : ∀ xs : List Int, xs.length = 6 → atI (xs.map PyData.int) (mix ns 2 % 6) = some (.int (xs.getD (mix ns 2 % 6).toNat 0)) := fun xs hx => by
    have q : 0 ≤ mix ns 2 % 6 ∧ mix ns 2 % 6 < 6 := by omega
    rw [atI_i q.1, List.getElem?_map, List.getD_eq_getElem?_getD, List.getElem?_eq_getElem (by omega)]
    rfl
  have big : (-18446744073709551616 : Int) < mix ns k / 8 ∧ mix ns k / 8 < 18446744073709551616 := by omega
  by_cases z : mix ns k % 8 = 0
  · simp [M__law_count, B__law_count, only_, onlyC, runF, runC, startD, outOf, outC, sSeq, sIf, sNx, sRetZ, kRetG, sRetG, thenR, kNew, kFlat, kDrop, kRetN, kRetF, sAsgZ, sAsgT, sAsgTF, sRaise, sRetM, sRetC, sRet0, eV, eC, FX.e1, FX.e2, FX.eAnd, FX.eOr, FX.eIf, bOf, bNot, bAnd, bOr, eChain, aN, aC, eLst, eTup, eCB, okOf, cR, okF, lenL, tyNeF, tyEqF, isiF, isT, tyName, iop, subI, ltI, leI, gtI, geI, modI, divI, powI, hideD, isND, notND, notB, negI, bName, bindD, zeros, ixD, itA, itZ, itS, intL, plusD, timesD, mulI, wipeD, flatF, flatD, pN, pS, sApp, sPop, getP, putP, leafOk, leafC, dataK, fltR, lefR, mVar, mCons, mNil, mTup, keepM, a1, eqE_int, z, count]
  · have hc : count ns k = [mix ns k / 8 % 3, mix ns k / 8 % 5, mix ns k / 8 % 12, ([0, 1, 2, 40] : List Int).getD (mix ns k / 8 % 4).toNat 0, mix ns k / 8 % 1000, mix ns k / 8 * 100000000000 + mix ns k / 8 % 7].getD (mix ns 2 % 6).toNat 0 := by
      unfold count
      simp only [z, if_false]
      rfl
    rw [hc]
    have l6' := l6 [mix ns k / 8 % 3, mix ns k / 8 % 5, mix ns k / 8 % 12, ([0, 1, 2, 40] : List Int).getD (mix ns k / 8 % 4).toNat 0, mix ns k / 8 % 1000, mix ns k / 8 * 100000000000 + mix ns k / 8 % 7] rfl
    simp only [List.map_cons, List.map_nil] at l6'
    generalize ([0, 1, 2, 40] : List Int).getD (mix ns k / 8 % 4).toNat 0 = x4 at l4 l6' ⊢
    generalize List.getD [mix ns k / 8 % 3, mix ns k / 8 % 5, mix ns k / 8 % 12, x4, mix ns k / 8 % 1000, mix ns k / 8 * 100000000000 + mix ns k / 8 % 7] (mix ns 2 % 6).toNat 0 = y at l6' ⊢
    simp [M__law_count, B__law_count, only_, onlyC, runF, runC, startD, outOf, outC, sSeq, sIf, sNx, sRetZ, kRetG, sRetG, thenR, kNew, kFlat, kDrop, kRetN, kRetF, sAsgZ, sAsgT, sAsgTF, sRaise, sRetM, sRetC, sRet0, eV, eC, FX.e1, FX.e2, FX.eAnd, FX.eOr, FX.eIf, bOf, bNot, bAnd, bOr, eChain, aN, aC, eLst, eTup, eCB, okOf, cR, okF, lenL, tyNeF, tyEqF, isiF, isT, tyName, iop, subI, ltI, leI, gtI, geI, modI, divI, powI, hideD, isND, notND, notB, negI, bName, bindD, zeros, ixD, itA, itZ, itS, intL, plusD, timesD, mulI, wipeD, flatF, flatD, pN, pS, sApp, sPop, getP, putP, leafOk, leafC, dataK, fltR, lefR, mVar, mCons, mNil, mTup, keepM, a1, a2, eqE_int, z, l4, l6']
theorem m_law_table (ns : List Int) (h w : Int) (hn : ns.length ≤ 63) (h1 : 1 ≤ h) (h8 : h ≤ 8) (w1 : 1 ≤ w) (w8 : w ≤ 8) : M__law_table [eI ns, .int h, .int w] = some (.ok (eM (tabl ns h w))) := by
  let G : PyData → PyData := fun x => match x with
    | .int r => .list ((List.range w.toNat).map fun (c : Nat) => .int (count ns (8 + w * r + (c : Int))))
    | _ => .none
  let S : List PyData → De := fun done => [some (eI ns), some (.int h), some (.int w), some (.list (done.map G)), done.getLast?, none]
  refine m_rt rfl (rt_seq (ds1 := S []) rfl (rt_seq (sFor_map S (itR1_i rfl (by omega) (by omega)) fun d1 x d2 hx e => ?_) ⟨[some (eI ns), some (.int h), some (.int w), none, (rngD 0 h.toNat).getLast?, none], ?_⟩))
  · obtain ⟨r, hr, rfl⟩ := rng_mem hx
    refine ⟨[(4, .int r)], rfl, rfl, ?_⟩
    have len1 : d1.length < 100000 := by
      have := d1_len e
      omega
    have lc : eLc [5] (bName 5) (itR1 (aC (eV 2) aN)) (fun _ => some true) (flatF (eCB (okOf M__law_count) (aC (eV 0) (aC (e2 plusD (e2 plusD (eC (.int 8)) (e2 timesD (eV 2) (eV 4))) (eV 5)) aN)))) [some (eI ns), some (.int h), some (.int w), some (.list (d1.map G)), some (.int (r : Int)), none] = some (G (.int (r : Int))) := by
      refine (eLc_map (its := rngD 0 w.toNat) (g := fun x => match x with | .int c => .int (count ns (8 + w * r + c)) | _ => .none) (itR1_i rfl (by omega) (by omega)) (by rw [rng_len]; omega) fun x hx => ?_).trans ?_
      · obtain ⟨c, hc, rfl⟩ := rng_mem hx
        refine ⟨_, rfl, rfl, ?_⟩
        have k0 : (0 : Int) ≤ 8 + w * r + c := by
          have : 0 ≤ w * (r : Int) := Int.mul_nonneg (by omega) (by omega)
          omega
        have b1 : -18446744073709551616 < w ∧ w < 18446744073709551616 := by omega
        simp [only_, onlyC, runF, runC, startD, outOf, outC, sSeq, sIf, sNx, sRetZ, kRetG, sRetG, thenR, kNew, kFlat, kDrop, kRetN, kRetF, sAsgZ, sAsgT, sAsgTF, sRaise, sRetM, sRetC, sRet0, eV, eC, FX.e1, FX.e2, FX.eAnd, FX.eOr, FX.eIf, bOf, bNot, bAnd, bOr, eChain, aN, aC, eLst, eTup, eCB, okOf, cR, okF, lenL, tyNeF, tyEqF, isiF, isT, tyName, iop, subI, ltI, leI, gtI, geI, modI, divI, powI, hideD, isND, notND, notB, negI, bName, bindD, zeros, ixD, itA, itZ, itS, intL, plusD, timesD, mulI, wipeD, flatF, flatD, pN, pS, sApp, sPop, getP, putP, leafOk, leafC, dataK, fltR, lefR, mVar, mCons, mNil, mTup, keepM, b1, m_law_count ns _ hn k0]
      · rw [rng_map]
    simp [S, bindD, sApp, okF, lc, pN, eV, getP, putP, leafOk, leafC, flatD, len1]
  · have e : (rngD 0 h.toNat).map G = (tabl ns h w).map eI := by
      rw [rng_map]
      unfold tabl
      rw [List.map_map]
      refine List.map_congr_left fun r _ => ?_
      show PyData.list _ = PyData.list _
      rw [List.map_map]
      rfl
    simp [S, only_, onlyC, runF, runC, startD, outOf, outC, sSeq, sIf, sNx, sRetZ, kRetG, sRetG, thenR, kNew, kFlat, kDrop, kRetN, kRetF, sAsgZ, sAsgT, sAsgTF, sRaise, sRetM, sRetC, sRet0, eV, eC, FX.e1, FX.e2, FX.eAnd, FX.eOr, FX.eIf, bOf, bNot, bAnd, bOr, eChain, aN, aC, eLst, eTup, eCB, okOf, cR, okF, lenL, tyNeF, tyEqF, isiF, isT, tyName, iop, subI, ltI, leI, gtI, geI, modI, divI, powI, hideD, isND, notND, notB, negI, bName, bindD, zeros, ixD, itA, itZ, itS, intL, plusD, timesD, mulI, wipeD, flatF, flatD, pN, pS, sApp, sPop, getP, putP, leafOk, leafC, dataK, fltR, lefR, mVar, mCons, mNil, mTup, keepM, eM, e]
def pD (p : Nat × Nat) : PyData := .tuple [.int (p.1 : Int), .int (p.2 : Int)]
def allP (h w : Nat) : List (Nat × Nat) := (List.range h).flatMap fun r => (List.range w).map fun c => (r, c)
theorem eM_at {M : List (List Int)} {r : Nat} (h : r < M.length) : atI (M.map eI) (r : Int) = some (eI (M.getD r [])) := by
  rw [atI_n, List.getElem?_map, List.getD_eq_getElem?_getD, List.getElem?_eq_getElem h]
  rfl
theorem row0 {M : List (List Int)} {w : Nat} (t : Tab M w) : atI (M.map eI) 0 = some (eI (M.getD 0 [])) ∧ (M.getD 0 []).length = w := by
  have h := t.h1
  refine ⟨eM_at (r := 0) (by omega), t.len _ ?_⟩
  rw [List.getD_eq_getElem?_getD, List.getElem?_eq_getElem (by omega)]
  exact List.getElem_mem _
theorem m_law_all {M : List (List Int)} {w : Nat} (t : Tab M w) : M__law_all [eM M] = some (.ok (.list ((allP M.length w).map pD))) := by
  obtain ⟨q1, q2⟩ := row0 t
  have q2' : ((M[0]?.getD []).length : Int) = w := by rw [← List.getD_eq_getElem?_getD, q2]
  have h8 := t.h8
  have w8 := t.w8
  let G : PyData → List PyData := fun x => match x with
    | .int r => (List.range w).map fun (c : Nat) => .tuple [.int r, .int c]
    | _ => []
  let S : List PyData → De := fun done => [some (eM M), some (.list (done.flatMap G)), done.getLast?, none]
  have e : (rngD 0 M.length).flatMap G = (allP M.length w).map pD := by
    rw [rng_flat]
    unfold allP
    rw [List.map_flatMap]
    congr 1
    funext r
    rw [List.map_map]
    rfl
  refine m_rt rfl (rt_seq (ds1 := S []) rfl (rt_seq (sFor_map (its := rngD 0 M.length) S (itR1_n (n := M.length) (by simp [only_, onlyC, runF, runC, startD, outOf, outC, sSeq, sIf, sNx, sRetZ, kRetG, sRetG, thenR, kNew, kFlat, kDrop, kRetN, kRetF, sAsgZ, sAsgT, sAsgTF, sRaise, sRetM, sRetC, sRet0, eV, eC, FX.e1, FX.e2, FX.eAnd, FX.eOr, FX.eIf, bOf, bNot, bAnd, bOr, eChain, aN, aC, eLst, eTup, eCB, okOf, cR, okF, lenL, tyNeF, tyEqF, isiF, isT, tyName, iop, subI, ltI, leI, gtI, geI, modI, divI, powI, hideD, isND, notND, notB, negI, bName, bindD, zeros, ixD, itA, itZ, itS, intL, plusD, timesD, mulI, wipeD, flatF, flatD, pN, pS, sApp, sPop, getP, putP, leafOk, leafC, dataK, fltR, lefR, mVar, mCons, mNil, mTup, keepM, S, eM]) (by omega)) fun d1 x d2 hx e => ?_) ⟨S (rngD 0 M.length), ?_⟩))
  · obtain ⟨r, hr, rfl⟩ := rng_mem hx
    refine ⟨[(2, .int r)], rfl, rfl, ?_⟩
    have len1 := d1_len e
    have gl : ∀ x ∈ d1, (G x).length ≤ 8 := fun x hx => by
      cases x <;> simp [G, w8]
    have fl := flat_le d1 gl
    have lc : eLc [3] (bName 3) (itR1 (aC (eCB lenL (aC (e2 ixD (eV 0) (eC (.int 0))) aN)) aN)) (fun _ => some true) (eTup (aC (eV 2) (aC (eV 3) aN))) [some (eM M), some (.list (d1.flatMap G)), some (.int (r : Int)), none] = some (.list (G (.int (r : Int)))) := by
      refine (eLc_map (its := rngD 0 w) (g := fun x => .tuple [.int r, x]) (itR1_n (n := w) (by simp [only_, onlyC, runF, runC, startD, outOf, outC, sSeq, sIf, sNx, sRetZ, kRetG, sRetG, thenR, kNew, kFlat, kDrop, kRetN, kRetF, sAsgZ, sAsgT, sAsgTF, sRaise, sRetM, sRetC, sRet0, eV, eC, FX.e1, FX.e2, FX.eAnd, FX.eOr, FX.eIf, bOf, bNot, bAnd, bOr, eChain, aN, aC, eLst, eTup, eCB, okOf, cR, okF, lenL, tyNeF, tyEqF, isiF, isT, tyName, iop, subI, ltI, leI, gtI, geI, modI, divI, powI, hideD, isND, notND, notB, negI, bName, bindD, zeros, ixD, itA, itZ, itS, intL, plusD, timesD, mulI, wipeD, flatF, flatD, pN, pS, sApp, sPop, getP, putP, leafOk, leafC, dataK, fltR, lefR, mVar, mCons, mNil, mTup, keepM, eM, q1, eI, q2']) (by omega)) (by rw [rng_len]; omega) fun x hx => ?_).trans ?_
      · obtain ⟨c, hc, rfl⟩ := rng_mem hx
        exact ⟨_, rfl, rfl, by simp [only_, onlyC, runF, runC, startD, outOf, outC, sSeq, sIf, sNx, sRetZ, kRetG, sRetG, thenR, kNew, kFlat, kDrop, kRetN, kRetF, sAsgZ, sAsgT, sAsgTF, sRaise, sRetM, sRetC, sRet0, eV, eC, FX.e1, FX.e2, FX.eAnd, FX.eOr, FX.eIf, bOf, bNot, bAnd, bOr, eChain, aN, aC, eLst, eTup, eCB, okOf, cR, okF, lenL, tyNeF, tyEqF, isiF, isT, tyName, iop, subI, ltI, leI, gtI, geI, modI, divI, powI, hideD, isND, notND, notB, negI, bName, bindD, zeros, ixD, itA, itZ, itS, intL, plusD, timesD, mulI, wipeD, flatF, flatD, pN, pS, sApp, sPop, getP, putP, leafOk, leafC, dataK, fltR, lefR, mVar, mCons, mNil, mTup, keepM]⟩
      · rw [rng_map]
    have b1 : (d1.flatMap G).length + (G (.int (r : Int))).length ≤ 100000 := by
      have : (G (.int (r : Int))).length ≤ 8 := by simp [G, w8]
      omega
    simp only [S, bindD, List.set_cons_succ, List.set_cons_zero, sAsgZ, hideD, okF, FX.e2, lc, eV, List.getElem?_cons_succ, List.getElem?_cons_zero, Option.join_some, plusD, b1, if_true]
    simp
  · simp [S, only_, onlyC, runF, runC, startD, outOf, outC, sSeq, sIf, sNx, sRetZ, kRetG, sRetG, thenR, kNew, kFlat, kDrop, kRetN, kRetF, sAsgZ, sAsgT, sAsgTF, sRaise, sRetM, sRetC, sRet0, eV, eC, FX.e1, FX.e2, FX.eAnd, FX.eOr, FX.eIf, bOf, bNot, bAnd, bOr, eChain, aN, aC, eLst, eTup, eCB, okOf, cR, okF, lenL, tyNeF, tyEqF, isiF, isT, tyName, iop, subI, ltI, leI, gtI, geI, modI, divI, powI, hideD, isND, notND, notB, negI, bName, bindD, zeros, ixD, itA, itZ, itS, intL, plusD, timesD, mulI, wipeD, flatF, flatD, pN, pS, sApp, sPop, getP, putP, leafOk, leafC, dataK, fltR, lefR, mVar, mCons, mNil, mTup, keepM, e]
theorem okE_int (i : Int) : okE (.int i) = true := rfl
theorem okE_pD (p : Nat × Nat) : okE (pD p) = true := rfl
theorem okE_places (ps : List (Nat × Nat)) : okE (.list (ps.map pD)) = true := by
  show okN 60 (.list _) = true
  rw [okN_list]
  refine List.all_eq_true.mpr fun x hx => ?_
  obtain ⟨p, _, rfl⟩ := List.mem_map.mp hx
  rfl
theorem nth_pD {ps : List (Nat × Nat)} {k : Nat} (h : k < ps.length) : atI (ps.map pD) (k : Int) = some (pD (ps.getD k (0, 0))) := by
  rw [atI_n, List.getElem?_map, List.getD_eq_getElem?_getD, List.getElem?_eq_getElem h]
  rfl
theorem allP_len {h w : Nat} (h8 : h ≤ 8) (w8 : w ≤ 8) : (allP h w).length ≤ 64 := by
  have q := flat_le (k := 8) (f := fun r => (List.range w).map fun c => (r, c)) (List.range h) fun r _ => by simp [w8]
  unfold allP
  rw [List.length_range] at q
  omega
theorem m_law_places {ns : List Int} {M : List (List Int)} {w : Nat} (hn : ns.length ≤ 63) (t : Tab M w) : ∃ ps : List (Nat × Nat), M__law_places [eI ns, eM M] = some (.ok (.list (ps.map pD))) ∧ ps.Sublist (allP M.length w) := by
  have al := allP_len t.h8 t.w8
  have ma := m_law_all t
  have m6 := m_law_mix ns 6 hn (by decide)
  generalize allP M.length w = A at al ma
  obtain ⟨share, hs⟩ : ∃ s, s = mix ns 6 % 5 - 1 := ⟨_, rfl⟩
  refine ⟨((List.range A.length).filter fun (k : Nat) => decide (mix ns (80 + (k : Int)) % 5 > share)).map fun k => A.getD k (0, 0), m_rt rfl (rt_seq (ds1 := [some (eI ns), some (eM M), some (.int share), none, none]) (by simp [only_, onlyC, runF, runC, startD, outOf, outC, sSeq, sIf, sNx, sRetZ, kRetG, sRetG, thenR, kNew, kFlat, kDrop, kRetN, kRetF, sAsgZ, sAsgT, sAsgTF, sRaise, sRetM, sRetC, sRet0, eV, eC, FX.e1, FX.e2, FX.eAnd, FX.eOr, FX.eIf, bOf, bNot, bAnd, bOr, eChain, aN, aC, eLst, eTup, eCB, okOf, cR, okF, lenL, tyNeF, tyEqF, isiF, isT, tyName, iop, subI, ltI, leI, gtI, geI, modI, divI, powI, hideD, isND, notND, notB, negI, bName, bindD, zeros, ixD, itA, itZ, itS, intL, plusD, timesD, mulI, wipeD, flatF, flatD, pN, pS, sApp, sPop, getP, putP, leafOk, leafC, dataK, fltR, lefR, mVar, mCons, mNil, mTup, keepM, m6, hs]) (rt_seq (ds1 := [some (eI ns), some (eM M), some (.int share), some (.list (A.map pD)), none]) (asgZ_ok (call1_ok rfl ma)) (rt_retF ?_))), ?_⟩
  rotate_left
  · have q : (List.range A.length).map (fun k => A.getD k (0, 0)) = A := by
      refine List.ext_getElem (by simp) fun i h1 h2 => ?_
      rw [List.getElem_map, List.getElem_range, List.getD_eq_getElem?_getD, List.getElem?_eq_getElem h2]
      rfl
    have q2 := (List.filter_sublist (l := List.range A.length) (p := fun (k : Nat) => decide (mix ns (80 + (k : Int)) % 5 > share))).map (fun k => A.getD k (0, 0))
    rwa [q] at q2
  have lc : eLc [4] (bName 4) (itR1 (aC (eCB lenL (aC (eV 3) aN)) aN)) (bOf (e2 gtI (e2 modI (eCB (okOf M__law_mix) (aC (eV 0) (aC (e2 plusD (eC (.int 80)) (eV 4)) aN))) (eC (.int 5))) (eV 2))) (e2 ixD (eV 3) (eV 4)) [some (eI ns), some (eM M), some (.int share), some (.list (A.map pD)), none] =
      some (.list (((rngD 0 A.length).filter fun x => match x with | .int k => decide (mix ns (80 + k) % 5 > share) | _ => false).map fun x => match x with | .int k => pD (A.getD k.toNat (0, 0)) | _ => .none)) := by
    refine eLc_filter (itR1_n (n := A.length) (by simp [only_, onlyC, runF, runC, startD, outOf, outC, sSeq, sIf, sNx, sRetZ, kRetG, sRetG, thenR, kNew, kFlat, kDrop, kRetN, kRetF, sAsgZ, sAsgT, sAsgTF, sRaise, sRetM, sRetC, sRet0, eV, eC, FX.e1, FX.e2, FX.eAnd, FX.eOr, FX.eIf, bOf, bNot, bAnd, bOr, eChain, aN, aC, eLst, eTup, eCB, okOf, cR, okF, lenL, tyNeF, tyEqF, isiF, isT, tyName, iop, subI, ltI, leI, gtI, geI, modI, divI, powI, hideD, isND, notND, notB, negI, bName, bindD, zeros, ixD, itA, itZ, itS, intL, plusD, timesD, mulI, wipeD, flatF, flatD, pN, pS, sApp, sPop, getP, putP, leafOk, leafC, dataK, fltR, lefR, mVar, mCons, mNil, mTup, keepM]) (by omega)) (by rw [rng_len]; omega) fun x hx => ?_
    obtain ⟨k, hk, rfl⟩ := rng_mem hx
    have mk := m_law_mix ns (80 + (k : Int)) hn (by omega)
    refine ⟨_, rfl, by simp [only_, onlyC, runF, runC, startD, outOf, outC, sSeq, sIf, sNx, sRetZ, kRetG, sRetG, thenR, kNew, kFlat, kDrop, kRetN, kRetF, sAsgZ, sAsgT, sAsgTF, sRaise, sRetM, sRetC, sRet0, eV, eC, FX.e1, FX.e2, FX.eAnd, FX.eOr, FX.eIf, bOf, bNot, bAnd, bOr, eChain, aN, aC, eLst, eTup, eCB, okOf, cR, okF, lenL, tyNeF, tyEqF, isiF, isT, tyName, iop, subI, ltI, leI, gtI, geI, modI, divI, powI, hideD, isND, notND, notB, negI, bName, bindD, zeros, ixD, itA, itZ, itS, intL, plusD, timesD, mulI, wipeD, flatF, flatD, pN, pS, sApp, sPop, getP, putP, leafOk, leafC, dataK, fltR, lefR, mVar, mCons, mNil, mTup, keepM, mk], fun _ => ?_⟩
    have q := nth_pD hk
    simp only [only_, onlyC, runF, runC, startD, outOf, outC, sSeq, sIf, sNx, sRetZ, kRetG, sRetG, thenR, kNew, kFlat, kDrop, kRetN, kRetF, sAsgZ, sAsgT, sAsgTF, sRaise, sRetM, sRetC, sRet0, eV, eC, FX.e1, FX.e2, FX.eAnd, FX.eOr, FX.eIf, bOf, bNot, bAnd, bOr, eChain, aN, aC, eLst, eTup, eCB, okOf, cR, okF, lenL, tyNeF, tyEqF, isiF, isT, tyName, iop, subI, ltI, leI, gtI, geI, modI, divI, powI, hideD, isND, notND, notB, negI, bName, bindD, zeros, ixD, itA, itZ, itS, intL, plusD, timesD, mulI, wipeD, flatF, flatD, pN, pS, sApp, sPop, getP, putP, leafOk, leafC, dataK, fltR, lefR, mVar, mCons, mNil, mTup, keepM, List.getElem?_cons_succ, List.getElem?_cons_zero, Option.join_some, List.set_cons_succ, List.set_cons_zero, q]
    simp
  have e : ((rngD 0 A.length).filter fun x => match x with | .int k => decide (mix ns (80 + k) % 5 > share) | _ => false).map (fun x => match x with | .int k => pD (A.getD k.toNat (0, 0)) | _ => .none) =
      (((List.range A.length).filter fun (k : Nat) => decide (mix ns (80 + (k : Int)) % 5 > share)).map fun k => A.getD k (0, 0)).map pD := by
    unfold rngD
    rw [List.filter_map, List.map_map, List.map_map]
    simp [Function.comp_def]
  rw [e] at lc
  simp only [hideD]
  exact lc
theorem len_ok {fe : De → Option PyData} {ds : De} {xs : List PyData} (h : fe ds = some (.list xs)) : eCB lenL (aC fe aN) ds = some (.int (xs.length : Int)) := cb1_ok h rfl
theorem ix_ok {fe fk : De → Option PyData} {ds : De} {xs : List PyData} {i : Int} {d : PyData} (h : fe ds = some (.list xs)) (h2 : fk ds = some (.int i)) (h3 : atI xs i = some d) : FX.e2 ixD fe fk ds = some d := e2_ok h h2 h3
theorem ixT_ok {fe fk : De → Option PyData} {ds : De} {xs : List PyData} {i : Int} {d : PyData} (h : fe ds = some (.tuple xs)) (h2 : fk ds = some (.int i)) (h3 : atI xs i = some d) : FX.e2 ixD fe fk ds = some d := e2_ok h h2 h3
theorem int_at {xs : List Int} {k : Nat} (h : k < xs.length) : atI (xs.map PyData.int) (k : Int) = some (.int (xs.getD k 0)) := by
  rw [atI_n, List.getElem?_map, List.getD_eq_getElem?_getD, List.getElem?_eq_getElem h]
  rfl
theorem m_law_column_sums {M : List (List Int)} {w : Nat} (t : Tab M w) : M__law_column_sums [eM M] = some (.ok (eI (colS M w))) := by
  obtain ⟨q1, q2⟩ := row0 t
  have h8 := t.h8
  have w8 := t.w8
  have lc : eLc [1] (bName 1) (itR1 (aC (eCB lenL (aC (e2 ixD (eV 0) (eC (.int 0))) aN)) aN)) (fun _ => some true) (flatF (eCB sumL (aC (eLc [2] (bName 2) (itA (eV 0)) (fun _ => some true) (e2 ixD (eV 2) (eV 1))) aN))) [some (eM M), none, none] = some (.list ((rngD 0 w).map fun x => match x with | .int c => .int (colN M c.toNat).sum | _ => .none)) := by
    refine eLc_map (itR1_n (n := w) (aC_ok ((len_ok (ix_ok rfl rfl q1)).trans (by rw [List.length_map, q2])) rfl) (by omega)) (by rw [rng_len]; omega) fun x hx => ?_
    obtain ⟨c, hc, rfl⟩ := rng_mem hx
    refine ⟨[some (eM M), some (.int c), none], rfl, rfl, flat_ok (cb1_ok (eLc_map (its := M.map eI) (g := fun x => match x with | .list r => r.getD c .none | _ => .none) rfl (by rw [List.length_map]; omega) fun x hx => ?_) ?_) rfl⟩
    · obtain ⟨r, hr, rfl⟩ := List.mem_map.mp hx
      refine ⟨_, rfl, rfl, ix_ok (xs := r.map PyData.int) (i := c) rfl rfl ?_⟩
      rw [int_at (by rw [t.len r hr]; exact hc)]
      show some _ = some ((r.map PyData.int).getD c .none)
      rw [List.getD_eq_getElem?_getD, List.getD_eq_getElem?_getD, List.getElem?_map, List.getElem?_eq_getElem (by rw [t.len r hr]; exact hc)]
      rfl
    · have e : (M.map eI).map (fun x => match x with | .list r => r.getD c .none | _ => .none) = (colN M c).map PyData.int := by
        unfold colN
        rw [List.map_map, List.map_map]
        refine List.map_congr_left fun r hr => ?_
        show (r.map PyData.int).getD c .none = .int (r.getD c 0)
        rw [List.getD_eq_getElem?_getD, List.getD_eq_getElem?_getD, List.getElem?_map, List.getElem?_eq_getElem (by rw [t.len r hr]; exact hc)]
        rfl
      rw [e, sumL_ints]
      simp
  refine m_rt rfl (rt_retN ?_)
  refine lc.trans ?_
  rw [rng_map]
  unfold colS eI
  rw [List.map_map]
  simp [Function.comp_def]
/-! views -/
def oD : Option Int → PyData
  | none => .none
  | some i => .int i
def rowD (r : List (Option Int)) : PyData := .list (r.map oD)
def vD (C : List (List (Option Int))) (R S : List Int) : PyData := .tuple [.list (C.map rowD), eI R, eI S]
structure Shp (C : List (List (Option Int))) (R S : List Int) (w : Nat) : Prop where
  h1 : 1 ≤ C.length
  h8 : C.length ≤ 8
  w1 : 1 ≤ w
  w8 : w ≤ 8
  len : ∀ r ∈ C, r.length = w
  pos : ∀ r ∈ C, ∀ x ∈ r, ∀ i, x = some i → 0 ≤ i
  rl : R.length = C.length
  sl : S.length = w
  rp : ∀ x ∈ R, 0 ≤ x
  sp : ∀ x ∈ S, 0 ≤ x
theorem flatD_oD (o : Option Int) : flatD (oD o) = true := by cases o <;> rfl
def hidB (ps : List (Nat × Nat)) (r c : Nat) : Bool := (ps.map pD).any fun z => PyData.eqv z (pD (r, c))
def viewC (M : List (List Int)) (w : Nat) (ps : List (Nat × Nat)) : List (List (Option Int)) := (List.range M.length).map fun r => (List.range w).map fun c => if hidB ps r c = true then none else some ((M.getD r []).getD c 0)
theorem row_len {M : List (List Int)} {w r : Nat} (t : Tab M w) (h : r < M.length) : (M.getD r []).length = w := t.len _ (by
  rw [List.getD_eq_getElem?_getD, List.getElem?_eq_getElem h]
  exact List.getElem_mem _)
theorem in_ok {fe fk : De → Option PyData} {ds : De} {ps : List (Nat × Nat)} {r c : Nat} (h : fe ds = some (pD (r, c))) (h2 : fk ds = some (.list (ps.map pD))) : FX.e2 inE fe fk ds = some (.bool (hidB ps r c)) := e2_ok h h2 (by
  unfold inE
  simp only
  rw [if_pos ⟨okE_pD _, okE_places ps⟩]
  rfl)
theorem m_law_view {M : List (List Int)} {w : Nat} {ps : List (Nat × Nat)} (t : Tab M w) : M__law_view [eM M, .list (ps.map pD)] = some (.ok (vD (viewC M w ps) (rowS M) (colS M w))) := by
  obtain ⟨q1, q2⟩ := row0 t
  have h8 := t.h8
  have w8 := t.w8
  let G : PyData → PyData := fun x => match x with
    | .int r => rowD ((List.range w).map fun c => if hidB ps r.toNat c = true then none else some ((M.getD r.toNat []).getD c 0))
    | _ => .none
  let S : List PyData → De := fun done => [some (eM M), some (.list (ps.map pD)), some (.list (done.map G)), done.getLast?, none]
  have e : (rngD 0 M.length).map G = (viewC M w ps).map rowD := by
    rw [rng_map]
    unfold viewC
    rw [List.map_map]
    rfl
  refine m_rt rfl (rt_seq (ds1 := S []) rfl (rt_seq (sFor_map (its := rngD 0 M.length) S (itR1_n (n := M.length) (aC_ok ((len_ok (xs := M.map eI) rfl).trans (by rw [List.length_map])) rfl) (by omega)) fun d1 x d2 hx e => ?_) ?_))
  · obtain ⟨r, hr, rfl⟩ := rng_mem hx
    refine ⟨[(3, .int r)], rfl, rfl, ?_⟩
    have len1 := d1_len e
    have rl := row_len t hr
    have lc : eLc [4] (bName 4) (itR1 (aC (eCB lenL (aC (e2 ixD (eV 0) (eC (.int 0))) aN)) aN)) (fun _ => some true) (flatF (e2 ixD (eLst (aC (e2 ixD (e2 ixD (eV 0) (eV 3)) (eV 4)) (aC (eC .none) aN))) (eCB intL (aC (e2 inE (eTup (aC (eV 3) (aC (eV 4) aN))) (eV 1)) aN)))) [some (eM M), some (.list (ps.map pD)), some (.list (d1.map G)), some (.int (r : Int)), none] = some (G (.int (r : Int))) := by
      refine (eLc_map (its := rngD 0 w) (g := fun x => match x with | .int c => oD (if hidB ps r c.toNat = true then none else some ((M.getD r []).getD c.toNat 0)) | _ => .none) (itR1_n (n := w) (aC_ok ((len_ok (ix_ok (xs := M.map eI) rfl rfl q1)).trans (by rw [List.length_map, q2])) rfl) (by omega)) (by rw [rng_len]; omega) fun x hx => ?_).trans ?_
      · obtain ⟨c, hc, rfl⟩ := rng_mem hx
        refine ⟨[some (eM M), some (.list (ps.map pD)), some (.list (d1.map G)), some (.int (r : Int)), some (.int (c : Int))], rfl, rfl, flat_ok (ix_ok (xs := [.int ((M.getD r []).getD c 0), .none]) (i := if hidB ps r c then 1 else 0) (lst_ok (aC_ok (ix_ok (ix_ok (xs := M.map eI) rfl rfl (eM_at hr)) rfl (int_at (by rw [rl]; exact hc))) rfl) (show 2 ≤ 100000 by decide)) (cb1_ok (in_ok (tup_ok rfl (show 2 ≤ 100000 by decide)) rfl) (by cases hidB ps r c <;> rfl)) ?_) (flatD_oD _)⟩
        simp only [Int.toNat_natCast]
        cases hidB ps r c <;> rfl
      · rw [rng_map]
        simp [G, rowD, Function.comp_def]
    have len2 : (d1.map G).length < 100000 := by rw [List.length_map]; omega
    simp only [S, bindD, List.set_cons_succ, List.set_cons_zero, sApp, okF, lc, Option.map_some, pN, eV, List.getElem?_cons_succ, List.getElem?_cons_zero, Option.join_some]
    simp [getP, putP, leafOk, leafC, flatD, show d1.length < 100000 by omega]
  · have sums : eLc [3] (bName 3) (itA (eV 0)) (fun _ => some true) (flatF (eCB sumL (aC (eV 3) aN))) [some (eM M), some (.list (ps.map pD)), none, (rngD 0 M.length).getLast?, none] = some (eI (rowS M)) := by
      refine (eLc_map (its := M.map eI) (g := fun x => match sumL [x] with | some d => d | none => .none) rfl (by rw [List.length_map]; omega) fun x hx => ?_).trans ?_
      · obtain ⟨r, hr, rfl⟩ := List.mem_map.mp hx
        have q := sumL_ints r
        refine ⟨_, rfl, rfl, flat_ok (cb1_ok (a := eI r) rfl q) rfl |>.trans ?_⟩
        show _ = some (match sumL [PyData.list (r.map PyData.int)] with | some d => d | none => .none)
        rw [q]
      · congr 1
        unfold eI rowS
        rw [List.map_map, List.map_map]
        congr 1
        refine List.map_congr_left fun r _ => ?_
        show (match sumL [PyData.list (r.map PyData.int)] with | some d => d | none => .none) = _
        rw [sumL_ints]
        rfl
    have cs : eCB (okOf M__law_column_sums) (aC (eV 0) aN) [some (eM M), some (.list (ps.map pD)), none, (rngD 0 M.length).getLast?, none] = some (eI (colS M w)) := call1_ok rfl (m_law_column_sums t)
    refine rt_retM (ds1 := [some (eM M), some (.list (ps.map pD)), none, (rngD 0 M.length).getLast?, none]) ?_
    simp only [S, mTup, mCons, mVar, eV, List.getElem?_cons_succ, List.getElem?_cons_zero, Option.join_some, List.set_cons_succ, List.set_cons_zero, keepM, okF, sums, cs, Option.map_some, mNil, e]
    rfl
theorem chain_ok {fe : De → Option PyData} {ds : De} {n : Int} (h : fe ds = some (.int n)) : eChain leI leI (eC (.int 1)) fe (eC (.int 8)) ds = some (.bool (decide (1 ≤ n) && decide (n ≤ 8))) := by
  unfold eChain eC
  rw [h]
  show (match (some (PyData.bool (decide (1 ≤ n))) : Option PyData) with | some (.bool true) => _ | some (.bool false) => _ | _ => none) = _
  by_cases h1 : 1 ≤ n
  · rw [decide_eq_true h1]
    rfl
  · rw [decide_eq_false h1]
    rfl
def listOf (d : PyData) : Prop := ∃ cs, d = .list cs
theorem isL_is {d : PyData} (h : isL d = true) : ∃ cs, d = .list cs := by
  cases d with
  | list cs => exact ⟨cs, rfl⟩
  | _ => simp [isL, tyName] at h
theorem tyNe_ok {fe : De → Option PyData} {ds : De} {d : PyData} (h : fe ds = some d) : tyNeF "list" fe ds = some (.bool (!isL d)) := by
  unfold tyNeF isL
  rw [h]
  rfl
theorem eqL_ok {fe fk : De → Option PyData} {ds : De} {a b : Int} (h : fe ds = some (.int a)) (h2 : fk ds = some (.int b)) : FX.e2 eqE fe fk ds = some (.bool (decide (a = b))) := e2_ok h h2 (eqE_int a b)
theorem neL_ok {fe fk : De → Option PyData} {ds : De} {a b : Int} (h : fe ds = some (.int a)) (h2 : fk ds = some (.int b)) : FX.e2 neE fe fk ds = some (.bool (!decide (a = b))) := e2_ok h h2 (neE_int a b)
theorem gridB_list (rows : List PyData) : gridB (.list rows) = ((decide (1 ≤ rows.length) && decide (rows.length ≤ 8)) && rows.all isL && ((decide (1 ≤ lenD (rows.headD .none)) && decide (lenD (rows.headD .none) ≤ 8)) && rows.all fun r => decide (lenD r = lenD (rows.headD .none)))) := rfl
theorem m_is_grid (t : PyData) : M_is_grid [t] = some (.ok (.bool (gridB t))) := by
  cases t with
  | list rows =>
    refine m_rt rfl (rt_ifR (x := !(decide ((1 : Int) ≤ rows.length) && decide ((rows.length : Int) ≤ 8))) (bOr_f (bOf_ok rfl) (bNot_ok (bOf_ok (chain_ok (len_ok rfl))))) (fun h => rt_retF ?_) fun h => ?_)
    · show some _ = some _
      congr 2
      rw [gridB_list]
      have e : (decide (1 ≤ rows.length) && decide (rows.length ≤ 8)) = false := by
        rw [← Bool.not_eq_true']
        rw [← h]
        congr 2
        · exact decide_eq_decide.mpr (by omega)
        · exact decide_eq_decide.mpr (by omega)
      rw [e, Bool.false_and, Bool.false_and]
    · have hb : 1 ≤ rows.length ∧ rows.length ≤ 8 := by
        rw [Bool.not_eq_false', Bool.and_eq_true, decide_eq_true_eq, decide_eq_true_eq] at h
        omega
      have any1 : eCB anyL (aC (eLc [2] (bName 2) (itA (eV 0)) (fun _ => some true) (tyNeF "list" (eV 2))) aN) [some (.list rows), none, none] = some (.bool (rows.any fun r => !isL r)) :=
        cb1_ok (eLc_map (its := rows) (g := fun r => .bool (!isL r)) rfl (by omega) fun x hx => ⟨[some (.list rows), none, some x], rfl, rfl, tyNe_ok rfl⟩) (anyL_map _ rows)
      refine rt_ifR (bOf_ok any1) (fun h => rt_retF ?_) fun h => ?_
      · show some _ = some _
        congr 2
        rw [gridB_list]
        have e : rows.all isL = false := by
          obtain ⟨r, hr, hq⟩ := List.any_eq_true.mp h
          exact List.all_eq_false.mpr ⟨r, hr, by simpa using hq⟩
        rw [e, Bool.and_false, Bool.false_and]
      · have al : ∀ r ∈ rows, isL r = true := fun r hr => by
          have := List.any_eq_false.mp h r hr
          simpa using this
        obtain ⟨r0, rest, rfl⟩ : ∃ r0 rest, rows = r0 :: rest := by
          cases rows with
          | nil => simp at hb
          | cons a b => exact ⟨a, b, rfl⟩
        obtain ⟨c0, rfl⟩ := isL_is (al r0 List.mem_cons_self)
        refine rt_seq (ds1 := [some (.list (.list c0 :: rest)), some (.int (c0.length : Int)), none]) (asgZ_ok (len_ok (ix_ok rfl rfl atI_0))) (rt_retF ?_)
        have fin : ((decide ((1 : Int) ≤ c0.length) && decide ((c0.length : Int) ≤ 8)) && (PyData.list c0 :: rest).all fun r => decide (lenD r = c0.length)) = gridB (.list (.list c0 :: rest)) := by
          rw [gridB_list]
          rw [decide_eq_true hb.1, decide_eq_true hb.2, List.all_eq_true.mpr al]
          show _ = (true && ((decide (1 ≤ c0.length) && decide (c0.length ≤ 8)) && (PyData.list c0 :: rest).all fun r => decide (lenD r = c0.length)))
          rw [Bool.true_and]
          congr 2
          · exact decide_eq_decide.mpr (by omega)
          · exact decide_eq_decide.mpr (by omega)
        rw [← fin]
        have ch : eChain leI leI (eC (.int 1)) (eV 1) (eC (.int 8)) [some (.list (.list c0 :: rest)), some (.int (c0.length : Int)), none] = some (.bool (decide ((1 : Int) ≤ c0.length) && decide ((c0.length : Int) ≤ 8))) := chain_ok rfl
        have all1 : eCB allL (aC (eLc [2] (bName 2) (itA (eV 0)) (fun _ => some true) (e2 eqE (eCB lenL (aC (eV 2) aN)) (eV 1))) aN) [some (.list (.list c0 :: rest)), some (.int (c0.length : Int)), none] = some (.bool ((PyData.list c0 :: rest).all fun r => decide (lenD r = c0.length))) :=
          cb1_ok (eLc_map (its := .list c0 :: rest) (g := fun r => .bool (decide (lenD r = c0.length))) rfl (by omega) fun x hx => by
            obtain ⟨cs, rfl⟩ := isL_is (al x hx)
            refine ⟨[some (.list (.list c0 :: rest)), some (.int (c0.length : Int)), some (.list cs)], rfl, rfl, (eqL_ok (len_ok rfl) rfl).trans ?_⟩
            show some (PyData.bool (decide ((cs.length : Int) = c0.length))) = some (PyData.bool (decide (cs.length = c0.length)))
            congr 2
            exact decide_eq_decide.mpr (by omega)) (allL_map _ _)
        simp only [hideD]
        cases hc : (decide ((1 : Int) ≤ c0.length) && decide ((c0.length : Int) ≤ 8)) with
        | false =>
          rw [hc] at ch
          exact (and_f ch).trans (by rw [Bool.false_and])
        | true =>
          rw [hc] at ch
          exact (and_t ch all1).trans (by rw [Bool.true_and])
  | none => rfl
  | bool b => rfl
  | int i => rfl
  | str s => rfl
  | tuple s => rfl
  | dict s => rfl
def cellB (c : PyData) : Bool := isNone c || wholeB c 0
def tabV (d : PyData) : Bool := gridB d && ((cellsD d).flatMap cellsD).all cellB
theorem grid_all {rows : List PyData} (h : gridB (.list rows) = true) : ∀ r ∈ rows, ∃ cs, r = .list cs := fun r hr => isL_is (List.all_eq_true.mp (grid_parts h).2.2.1 r hr)
theorem grid_is {t : PyData} (h : gridB t = true) : ∃ rows, t = .list rows := by
  cases t with
  | list rows => exact ⟨rows, rfl⟩
  | _ => cases h
theorem cell_ok {fe : De → Option PyData} {ds : De} {c : PyData} (h : fe ds = some c) : FX.eOr (e2 isND fe (eC .none)) (eCB (okOf M_is_whole) (aC fe (aC (eC (.int 0)) aN))) ds = some (.bool (cellB c)) := by
  have a : FX.e2 isND fe (eC .none) ds = some (.bool (isNone c)) := e2_ok h rfl rfl
  have b : eCB (okOf M_is_whole) (aC fe (aC (eC (.int 0)) aN)) ds = some (.bool (wholeB c 0)) := call2_ok h rfl (m_is_whole c 0)
  unfold cellB
  cases q : isNone c with
  | true =>
    rw [q] at a
    exact or_t a
  | false =>
    rw [q] at a
    exact or_f a b
theorem m_are_cells (t : PyData) : M__are_cells [t] = some (.ok (.bool (tabV t))) := by
  have g : eCB (okOf M_is_grid) (aC (eV 0) aN) [some t, none, none] = some (.bool (gridB t)) := call1_ok rfl (m_is_grid t)
  refine m_rt rfl (rt_retF ?_)
  unfold tabV
  cases hg : gridB t with
  | false =>
    rw [hg] at g
    exact and_f g
  | true =>
    rw [hg] at g
    obtain ⟨rows, rfl⟩ := grid_is hg
    refine and_t g ?_
    refine cb1_ok (a := .list ((rows.flatMap fun r => (cellsD r).map fun c => .bool (cellB c)))) (eLc2_flat (its := rows) (G := fun r => (cellsD r).map fun c => .bool (cellB c)) rfl ?_ fun x hx => ?_) ?_
    · have q := grid_few hg
      have e : (rows.flatMap fun r => (cellsD r).map fun c => PyData.bool (cellB c)).length = (rows.flatMap cellsD).length := by
        rw [List.length_flatMap, List.length_flatMap]
        simp
      omega
    · obtain ⟨cs, rfl⟩ := grid_all hg x hx
      refine ⟨[some (.list rows), some (.list cs), none], rfl, rfl, fun ys => ?_⟩
      exact innD_map (its := cs) (g := fun c => .bool (cellB c)) rfl fun y hy => ⟨[some (.list rows), some (.list cs), some y], rfl, rfl, cell_ok rfl⟩
    · rw [show (rows.flatMap fun r => (cellsD r).map fun c => PyData.bool (cellB c)) = (rows.flatMap cellsD).map fun c => PyData.bool (cellB c) by rw [List.map_flatMap], allL_map]
      simp [cellsD]
def sumsB (t : PyData) (k : Nat) : Bool := match t with
  | .list xs => decide (xs.length = k) && xs.all fun x => wholeB x 0
  | _ => false
theorem sumsB_list (xs : List PyData) (k : Nat) : sumsB (.list xs) k = (decide (xs.length = k) && xs.all fun x => wholeB x 0) := rfl
theorem m_are_sums (t : PyData) (k : Nat) (hk : k ≤ 8) : M__are_sums [t, .int (k : Int)] = some (.ok (.bool (sumsB t k))) := by
  cases t with
  | list xs =>
    refine m_rt rfl (rt_ifR (bOr_f (bOf_ok rfl) (bOf_ok (neL_ok (len_ok rfl) rfl))) (fun h => rt_retF ?_) fun h => rt_retF ?_)
    · show some _ = some _
      have e : ¬ xs.length = k := fun z => by
        rw [z] at h
        simp at h
      rw [sumsB_list]
      rw [decide_eq_false e, Bool.false_and]
    · have e : xs.length = k := by
        have : (xs.length : Int) = k := by simpa using h
        omega
      have q : eCB allL (aC (eLc [2] (bName 2) (itA (eV 0)) (fun _ => some true) (eCB (okOf M_is_whole) (aC (eV 2) (aC (eC (.int 0)) aN)))) aN) [some (.list xs), some (.int (k : Int)), none] = some (.bool (xs.all fun x => wholeB x 0)) :=
        cb1_ok (eLc_map (its := xs) (g := fun x => .bool (wholeB x 0)) rfl (by omega) fun x hx => ⟨[some (.list xs), some (.int (k : Int)), some x], rfl, rfl, call2_ok rfl rfl (m_is_whole x 0)⟩) (allL_map _ _)
      refine q.trans ?_
      rw [sumsB_list]
      rw [decide_eq_true e, Bool.true_and]
  | none => rfl
  | bool b => rfl
  | int i => rfl
  | str s => rfl
  | tuple s => rfl
  | dict s => rfl
def partsB (t : PyData) : Bool := match t with
  | .tuple [c, r, s] => tabV c && (sumsB r (cellsD c).length && sumsB s (cellsD ((cellsD c).headD .none)).length)
  | _ => false
theorem tup_out {xs : List PyData} (h : xs.length ≠ 3) : partsB (.tuple xs) = false := by
  match xs, h with
  | [], _ => rfl
  | [_], _ => rfl
  | [_, _], _ => rfl
  | [_, _, _], h => exact absurd rfl h
  | _ :: _ :: _ :: _ :: _, _ => rfl
theorem three {xs : List PyData} (h : xs.length = 3) : ∃ a b c, xs = [a, b, c] := by
  match xs, h with
  | [a, b, c], _ => exact ⟨a, b, c, rfl⟩
theorem cells_head {c : PyData} (h : gridB c = true) : ∃ c0 rest, c = .list (.list c0 :: rest) ∧ c0.length ≤ 8 ∧ (PyData.list c0 :: rest).length ≤ 8 := by
  obtain ⟨rows, rfl⟩ := grid_is h
  obtain ⟨a1, a2, a3, a4⟩ := grid_parts h
  cases rows with
  | nil => simp at a1
  | cons r0 rest =>
    obtain ⟨c0, rfl⟩ := isL_is (List.all_eq_true.mp a3 r0 List.mem_cons_self)
    exact ⟨c0, rest, rfl, a4 _ List.mem_cons_self, a2⟩
theorem m_has_parts (t : PyData) : M__has_parts [t] = some (.ok (.bool (partsB t))) := by
  cases t with
  | tuple xs =>
    by_cases h3 : xs.length = 3
    · obtain ⟨c, r, s, rfl⟩ := three h3
      refine m_rt rfl (rt_seq (ds1 := [some (.tuple [c, r, s]), none, none, none]) ((if_f (bOr_f (bOf_ok rfl) (bOf_ok (neL_ok (a := 3) (b := 3) (cb1_ok rfl rfl) rfl)))).trans rfl) (rt_seq (ds1 := [some (.tuple [c, r, s]), some c, some r, some s]) rfl ?_))
      have g : eCB (okOf M__are_cells) (aC (eV 1) aN) [some (.tuple [c, r, s]), some c, some r, some s] = some (.bool (tabV c)) := call1_ok rfl (m_are_cells c)
      refine rt_ifR (bNot_ok (bOf_ok g)) (fun h => rt_retF ?_) fun h => rt_retF ?_
      · show some _ = some (PyData.bool (tabV c && _))
        rw [show tabV c = false by simpa using h, Bool.false_and]
      · have hv : tabV c = true := by simpa using h
        have hg : gridB c = true := ((Bool.and_eq_true _ _).mp hv).1
        obtain ⟨c0, rest, rfl, b1, b2⟩ := cells_head hg
        have s1 : eCB (okOf M__are_sums) (aC (eV 2) (aC (eCB lenL (aC (eV 1) aN)) aN)) [some (.tuple [.list (.list c0 :: rest), r, s]), some (.list (.list c0 :: rest)), some r, some s] = some (.bool (sumsB r (PyData.list c0 :: rest).length)) := call2_ok rfl (len_ok rfl) (m_are_sums r _ b2)
        have s2 : eCB (okOf M__are_sums) (aC (eV 3) (aC (eCB lenL (aC (e2 ixD (eV 1) (eC (.int 0))) aN)) aN)) [some (.tuple [.list (.list c0 :: rest), r, s]), some (.list (.list c0 :: rest)), some r, some s] = some (.bool (sumsB s c0.length)) := call2_ok rfl (len_ok (ix_ok rfl rfl atI_0)) (m_are_sums s _ b1)
        show _ = some (PyData.bool (tabV _ && (sumsB r (PyData.list c0 :: rest).length && sumsB s c0.length)))
        rw [hv, Bool.true_and]
        simp only [hideD]
        cases q : sumsB r (PyData.list c0 :: rest).length with
        | false =>
          rw [q] at s1
          exact (and_f s1).trans (by rw [Bool.false_and])
        | true =>
          rw [q] at s1
          exact (and_t s1 s2).trans (by rw [Bool.true_and])
    · rw [tup_out h3]
      refine m_rt rfl (rt_seqR ?_)
      rw [if_t (bOr_f (bOf_ok rfl) ((bOf_ok (neL_ok (cb1_ok rfl rfl) rfl)).trans (by
        rw [decide_eq_false (by omega)]
        rfl)))]
      exact rt_retF rfl
  | none => rfl
  | bool b => rfl
  | int i => rfl
  | str s => rfl
  | list s => rfl
  | dict s => rfl
theorem cell_is {c : PyData} (h : cellB c = true) : ∃ o, c = oD o ∧ ∀ i, o = some i → 0 ≤ i := by
  cases c with
  | none => exact ⟨none, rfl, fun i h => nomatch h⟩
  | int i => exact ⟨some i, rfl, fun j h => by
      cases h
      simpa [cellB, isNone, wholeB] using h⟩
  | _ => simp [cellB, isNone, wholeB] at h
theorem cells_is : ∀ {cs : List PyData}, (∀ c ∈ cs, cellB c = true) → ∃ r : List (Option Int), cs = r.map oD ∧ ∀ x ∈ r, ∀ i, x = some i → 0 ≤ i
  | [], _ => ⟨[], rfl, fun x h => nomatch h⟩
  | c :: cs, h => by
    obtain ⟨o, rfl, p⟩ := cell_is (h c List.mem_cons_self)
    obtain ⟨r, rfl, q⟩ := cells_is fun d hd => h d (List.mem_cons_of_mem _ hd)
    exact ⟨o :: r, rfl, fun x hx => (List.mem_cons.mp hx).elim (fun z => by rw [z]; exact p) (q x)⟩
theorem rows_is : ∀ {rows : List PyData}, (∀ r ∈ rows, ∃ cs, r = .list cs ∧ ∀ c ∈ cs, cellB c = true) → ∃ C : List (List (Option Int)), rows = C.map rowD ∧ ∀ r ∈ C, ∀ x ∈ r, ∀ i, x = some i → 0 ≤ i
  | [], _ => ⟨[], rfl, fun x h => nomatch h⟩
  | r :: rows, h => by
    obtain ⟨cs, rfl, p⟩ := h r List.mem_cons_self
    obtain ⟨r, rfl, p'⟩ := cells_is p
    obtain ⟨C, rfl, q⟩ := rows_is fun d hd => h d (List.mem_cons_of_mem _ hd)
    exact ⟨r :: C, rfl, fun x hx => (List.mem_cons.mp hx).elim (fun z => by rw [z]; exact p') (q x)⟩
theorem ints_is : ∀ {xs : List PyData}, (xs.all fun x => wholeB x 0) = true → ∃ R : List Int, xs = R.map .int ∧ ∀ x ∈ R, 0 ≤ x
  | [], _ => ⟨[], rfl, fun x h => nomatch h⟩
  | x :: xs, h => by
    obtain ⟨h1, h2⟩ := (Bool.and_eq_true _ _).mp (show (wholeB x 0 && xs.all fun x => wholeB x 0) = true from h)
    obtain ⟨R, rfl, q⟩ := ints_is h2
    cases x with
    | int i => exact ⟨i :: R, rfl, fun y hy => (List.mem_cons.mp hy).elim (fun z => by rw [z]; exact of_decide_eq_true h1) (q y)⟩
    | _ => cases h1
theorem parts_shp {t : PyData} (h : partsB t = true) : ∃ C R S w, t = vD C R S ∧ Shp C R S w := by
  cases t with
  | tuple xs =>
    by_cases h3 : xs.length = 3
    · obtain ⟨c, r, s, rfl⟩ := three h3
      obtain ⟨h1, h2⟩ := (Bool.and_eq_true _ _).mp (show (tabV c && (sumsB r (cellsD c).length && sumsB s (cellsD ((cellsD c).headD .none)).length)) = true from h)
      obtain ⟨h4, h5⟩ := (Bool.and_eq_true _ _).mp h2
      obtain ⟨g1, g2⟩ := (Bool.and_eq_true _ _).mp h1
      obtain ⟨rows, rfl⟩ := grid_is g1
      obtain ⟨a1, a2, a3, a4⟩ := grid_parts g1
      obtain ⟨C, rfl, cp⟩ := rows_is (rows := rows) fun r hr => by
        obtain ⟨cs, rfl⟩ := grid_all g1 r hr
        exact ⟨cs, rfl, fun c hc => List.all_eq_true.mp g2 c (List.mem_flatMap.mpr ⟨_, hr, hc⟩)⟩
      obtain ⟨rs, rfl⟩ : ∃ rs, r = .list rs := by
        cases r with
        | list rs => exact ⟨rs, rfl⟩
        | _ => cases h4
      obtain ⟨ss, rfl⟩ : ∃ rs, s = .list rs := by
        cases s with
        | list rs => exact ⟨rs, rfl⟩
        | _ => cases h5
      obtain ⟨k1, k2⟩ := (Bool.and_eq_true _ _).mp h4
      obtain ⟨k3, k4⟩ := (Bool.and_eq_true _ _).mp h5
      obtain ⟨R, rfl, rp⟩ := ints_is k2
      obtain ⟨S, rfl, sp⟩ := ints_is k4
      have k1 := of_decide_eq_true k1
      have k3 := of_decide_eq_true k3
      rw [gridB_list] at g1
      simp only [Bool.and_eq_true, decide_eq_true_eq] at g1
      obtain ⟨_, ⟨w1, w8⟩, all⟩ := g1
      have hd : lenD ((C.map rowD).headD .none) = S.length := by
        rw [List.length_map] at k3
        rw [k3]
        cases C <;> rfl
      refine ⟨C, R, S, S.length, rfl, ⟨by simpa using a1, by simpa using a2, by omega, by omega, fun r hr => ?_, cp, by simpa [cellsD] using k1, rfl, rp, sp⟩⟩
      have q := of_decide_eq_true (List.all_eq_true.mp all (rowD r) (List.mem_map.mpr ⟨r, hr, rfl⟩))
      have q2 : lenD (rowD r) = r.length := List.length_map ..
      omega
    · rw [tup_out h3] at h
      cases h
  | _ => cases h
/-! what is left -/
def shown (l : List (Option Int)) : Int := (l.filterMap id).sum
def leftI (L : List (List (Option Int))) (R : List Int) : List Int := List.zipWith (fun l r => r - shown l) L R
theorem sum_shown (l : List (Option Int)) : sumL [.list ((l.filter fun o => !isNone (oD o)).map oD)] = some (.int (shown l)) := by
  have e : (l.filter fun o => !isNone (oD o)).map oD = (l.filterMap id).map PyData.int := by
    induction l with
    | nil => rfl
    | cons o l ih => cases o <;> simp_all [oD, isNone]
  rw [e, sumL_ints]
  rfl
theorem zip_maps (L : List (List (Option Int))) (R : List Int) (k : List PyData → PyData) : zipD (L.map fun l => k (l.map oD)) (R.map .int) = (L.zip R).map fun p => .tuple [k (p.1.map oD), .int p.2] := by
  unfold zipD
  rw [List.zip_map, List.map_map]
  rfl
theorem m_left (L : List (List (Option Int))) (R : List Int) (k : List PyData → PyData) (hk : ∀ xs, k xs = .list xs ∨ k xs = .tuple xs) (hl : L.length ≤ 8) (hw : ∀ l ∈ L, l.length ≤ 8) : M__left [.list (L.map fun l => k (l.map oD)), eI R] = some (.ok (eI (leftI L R))) := by
  refine m_rt rfl (rt_retN ?_)
  simp only [startD]
  refine (eLc_mapA (A := List (Option Int) × Int) (L.zip R) (φ := fun p => .tuple [k (p.1.map oD), .int p.2]) (g := fun p => .int (p.2 - shown p.1)) ?_ ?_ fun p hp => ?_).trans ?_
  · show some (zipD (L.map fun l => k (l.map oD)) (R.map .int)) = _
    rw [zip_maps]
  · rw [List.length_zip]
    omega
  · have hm : p.1.length ≤ 8 := hw p.1 (List.of_mem_zip hp).1
    refine ⟨[some (.list (L.map fun l => k (l.map oD))), some (eI R), some (k (p.1.map oD)), some (.int p.2), none], rfl, rfl, flat_ok (e2_ok rfl (cb1_ok (eLc_filterA p.1 (φ := oD) (c := fun o => !isNone (oD o)) (g := oD) ?_ (by omega) fun o ho => ?_) (sum_shown p.1)) rfl) rfl⟩
    · rcases hk (p.1.map oD) with e | e
      · show (match some (k (p.1.map oD)) with | some (.list xs) => some xs | some (.tuple xs) => some xs | _ => none) = _
        rw [e]
      · show (match some (k (p.1.map oD)) with | some (.list xs) => some xs | some (.tuple xs) => some xs | _ => none) = _
        rw [e]
    · exact ⟨[some (.list (L.map fun l => k (l.map oD))), some (eI R), some (k (p.1.map oD)), some (.int p.2), some (oD o)], rfl, bOf_ok (e2_ok rfl rfl rfl), fun _ => rfl⟩
  · unfold leftI eI
    rw [List.zip_eq_zipWith, List.map_zipWith, List.map_zipWith]
def colO (C : List (List (Option Int))) (w : Nat) : List (List (Option Int)) := (List.range w).map fun c => C.map fun r => r.getD c none
theorem rows_of (C : List (List (Option Int))) : rowsOf (C.map rowD) = some (C.map fun r => r.map oD) := by
  rw [show C.map rowD = (C.map fun r => r.map oD).map PyData.list by rw [List.map_map]; rfl, rowsOf_map]
theorem cols_of {C : List (List (Option Int))} {w : Nat} (hw : ∀ r ∈ C, r.length = w) : colsD (C.map fun r => r.map oD) w = (colO C w).map fun l => .tuple (l.map oD) := by
  unfold colsD colO colD
  rw [List.map_map]
  refine List.map_congr_left fun c hc => ?_
  show PyData.tuple _ = PyData.tuple _
  rw [List.map_map, List.map_map]
  congr 1
  refine List.map_congr_left fun r hr => ?_
  show (r.map oD).getD c .none = oD (r.getD c none)
  rw [List.getD_eq_getElem?_getD, List.getD_eq_getElem?_getD, List.getElem?_map]
  cases r[c]? <;> rfl
theorem lz_ok {fe : De → Option PyData} {ds : De} {C : List (List (Option Int))} {R S : List Int} {w : Nat} (sh : Shp C R S w) (h : fe ds = some (.list (C.map rowD))) : lzS fe ds = some (.list ((colO C w).map fun l => .tuple (l.map oD))) := by
  have h1 := sh.h1
  have h8 := sh.h8
  have w8 := sh.w8
  have hd : ((C.map fun r => r.map oD).headD []).length = w := by
    cases C with
    | nil => simp at h1
    | cons r C =>
      show (r.map oD).length = w
      rw [List.length_map, sh.len r List.mem_cons_self]
  have all : (C.map fun r => r.map oD).all (fun r => r.length == ((C.map fun r => r.map oD).headD []).length) = true := by
    rw [hd, List.all_map]
    refine List.all_eq_true.mpr fun r hr => ?_
    show ((r.map oD).length == w) = true
    rw [List.length_map, sh.len r hr]
    simp
  unfold lzS
  rw [h]
  simp only [rows_of]
  rw [if_pos ⟨by rw [List.length_map]; omega, by rw [List.length_map]; omega, by rw [hd]; omega, all⟩, hd, cols_of sh.len]
theorem m_rests {C : List (List (Option Int))} {R S : List Int} {w : Nat} (sh : Shp C R S w) : M__rests [vD C R S] = some (.ok (.tuple [eI (leftI C R), eI (leftI (colO C w) S)])) := by
  have h8 := sh.h8
  have w8 := sh.w8
  refine m_rt rfl (rt_seq (ds1 := [some (vD C R S), some (.list (C.map rowD)), some (eI R), some (eI S)]) rfl (rt_retN (tup_ok (aC_ok (call2_ok rfl rfl (m_left C R .list (fun _ => .inl rfl) h8 fun l hl => by rw [sh.len l hl]; exact w8)) (aC_ok (call2_ok (lz_ok sh rfl) rfl (m_left (colO C w) S .tuple (fun _ => .inr rfl) (by simp [colO, w8]) fun l hl => ?_)) rfl)) (show 2 ≤ 100000 by decide))))
  obtain ⟨c, _, rfl⟩ := List.mem_map.mp hl
  rw [List.length_map]
  exact h8
def goodV (C : List (List (Option Int))) (R S : List Int) (w : Nat) : Bool := (leftI C R).all (fun x => decide (0 ≤ x)) && ((leftI (colO C w) S).all (fun x => decide (0 ≤ x)) && decide ((leftI C R).sum = (leftI (colO C w) S).sum))
theorem min_ok {fe : De → Option PyData} {ds : De} {xs : List Int} (h : fe ds = some (eI xs)) (hx : xs ≠ []) : FX.e2 geI (eCB minL (aC fe aN)) (eC (.int 0)) ds = some (.bool (xs.all fun x => decide (0 ≤ x))) := by
  obtain ⟨m, hm⟩ := least_some hx
  refine (e2_ok (cb1_ok (d := .int m) h (by
    show minL [.list (xs.map .int)] = _
    rw [minL_ints, hm]
    rfl)) rfl rfl).trans ?_
  show some (PyData.bool (decide (0 ≤ m))) = _
  congr 2
  rw [Bool.eq_iff_iff, decide_eq_true_eq, least_ge hm 0, List.all_eq_true]
  simp
theorem m_is_view_v {C : List (List (Option Int))} {R S : List Int} {w : Nat} (sh : Shp C R S w) (hp : partsB (vD C R S) = true) : M_is_view [vD C R S] = some (.ok (.bool (goodV C R S w))) := by
  have g : eCB (okOf M__has_parts) (aC (eV 0) aN) [some (vD C R S), none, none] = some (.bool true) := call1_ok rfl (by rw [m_has_parts, hp])
  have l1 : leftI C R ≠ [] := fun z => by
    have q : (leftI C R).length = 0 := by rw [z]; rfl
    have a1 := sh.h1
    have a2 := sh.rl
    unfold leftI at q
    rw [List.length_zipWith] at q
    omega
  have l2 : leftI (colO C w) S ≠ [] := fun z => by
    have q : (leftI (colO C w) S).length = 0 := by rw [z]; rfl
    have a1 := sh.w1
    have a2 := sh.sl
    unfold leftI colO at q
    rw [List.length_zipWith, List.length_map, List.length_range] at q
    omega
  refine m_rt rfl (rt_seq (ds1 := [some (vD C R S), none, none]) ((if_f (bNot_ok (bOf_ok g))).trans rfl) (rt_seq (ds1 := [some (vD C R S), some (eI (leftI C R)), some (eI (leftI (colO C w) S))]) ?_ (rt_retF ?_)))
  · have r : eCB (okOf M__rests) (aC (eV 0) aN) [some (vD C R S), none, none] = some (.tuple [eI (leftI C R), eI (leftI (colO C w) S)]) := call1_ok rfl (m_rests sh)
    simp only [sAsgT, hideD, okF, r, Option.map_some]
    rfl
  · simp only [hideD]
    have a : FX.e2 geI (eCB minL (aC (eV 1) aN)) (eC (.int 0)) [some (vD C R S), some (eI (leftI C R)), some (eI (leftI (colO C w) S))] = _ := min_ok rfl l1
    have b : FX.e2 geI (eCB minL (aC (eV 2) aN)) (eC (.int 0)) [some (vD C R S), some (eI (leftI C R)), some (eI (leftI (colO C w) S))] = _ := min_ok rfl l2
    have c : FX.e2 eqE (eCB sumL (aC (eV 1) aN)) (eCB sumL (aC (eV 2) aN)) [some (vD C R S), some (eI (leftI C R)), some (eI (leftI (colO C w) S))] = some (.bool (decide ((leftI C R).sum = (leftI (colO C w) S).sum))) := eqL_ok (cb1_ok rfl (sumL_ints _)) (cb1_ok rfl (sumL_ints _))
    unfold goodV
    cases q : (leftI C R).all fun x => decide (0 ≤ x) with
    | false =>
      rw [q] at a
      exact (and_f a).trans (by rw [Bool.false_and])
    | true =>
      rw [q] at a
      refine (and_t a ?_).trans (by rw [Bool.true_and])
      cases q2 : (leftI (colO C w) S).all fun x => decide (0 ≤ x) with
      | false =>
        rw [q2] at b
        exact (and_f b).trans (by rw [Bool.false_and])
      | true =>
        rw [q2] at b
        exact (and_t b c).trans (by rw [Bool.true_and])
theorem m_is_view_no {t : PyData} (hp : partsB t = false) : M_is_view [t] = some (.ok (.bool false)) := by
  have g : eCB (okOf M__has_parts) (aC (eV 0) aN) [some t, none, none] = some (.bool false) := call1_ok rfl (by rw [m_has_parts, hp])
  exact m_rt rfl (rt_ifR (x := true) (bNot_ok (bOf_ok g)) (fun _ => rt_retF rfl) fun z => nomatch z)
theorem m_is_table (t : PyData) : M_is_table [t] = some (.ok (.bool (tabB t))) := by
  have g : eCB (okOf M_is_grid) (aC (eV 0) aN) [some t, none, none] = some (.bool (gridB t)) := call1_ok rfl (m_is_grid t)
  refine m_rt rfl (rt_retF ?_)
  unfold tabB
  cases hg : gridB t with
  | false =>
    rw [hg] at g
    exact and_f g
  | true =>
    rw [hg] at g
    obtain ⟨rows, rfl⟩ := grid_is hg
    refine and_t g ?_
    refine cb1_ok (a := .list ((rows.flatMap fun r => (cellsD r).map fun c => .bool (wholeB c 0)))) (eLc2_flat (its := rows) (G := fun r => (cellsD r).map fun c => .bool (wholeB c 0)) rfl ?_ fun x hx => ?_) ?_
    · have q := grid_few hg
      have e : (rows.flatMap fun r => (cellsD r).map fun c => PyData.bool (wholeB c 0)).length = (rows.flatMap cellsD).length := by
        rw [List.length_flatMap, List.length_flatMap]
        simp
      omega
    · obtain ⟨cs, rfl⟩ := grid_all hg x hx
      refine ⟨[some (.list rows), some (.list cs), none], rfl, rfl, fun ys => ?_⟩
      exact innD_map (its := cs) (g := fun c => .bool (wholeB c 0)) rfl fun y hy => ⟨[some (.list rows), some (.list cs), some y], rfl, rfl, call2_ok rfl rfl (m_is_whole y 0)⟩
    · rw [show (rows.flatMap fun r => (cellsD r).map fun c => PyData.bool (wholeB c 0)) = (rows.flatMap cellsD).map fun c => PyData.bool (wholeB c 0) by rw [List.map_flatMap], allL_map]
      simp [cellsD]
def insB (h w : Nat) : PyData → PyData → Bool
  | .int i, .int j => decide (i < (h : Int)) && decide (j < (w : Int))
  | _, _ => false
def placeB (p : PyData) (h w : Nat) : Bool := match p with
  | .tuple [a, b] => (wholeB a 0 && wholeB b 0) && insB h w a b
  | _ => false
theorem two_of {xs : List PyData} (h : xs.length = 2) : ∃ a b, xs = [a, b] := by
  match xs, h with
  | [a, b], _ => exact ⟨a, b, rfl⟩
theorem place_out {xs : List PyData} {h w : Nat} (n : xs.length ≠ 2) : placeB (.tuple xs) h w = false := by
  match xs, n with
  | [], _ => rfl
  | [_], _ => rfl
  | [_, _], n => exact absurd rfl n
  | _ :: _ :: _ :: _, _ => rfl
theorem whole_is {a : PyData} (h : wholeB a 0 = true) : ∃ i : Int, a = .int i ∧ 0 ≤ i := by
  cases a with
  | int i => exact ⟨i, rfl, of_decide_eq_true h⟩
  | _ => cases h
theorem m_is_place {M : List (List Int)} {w : Nat} (t : Tab M w) (p : PyData) : M_is_place [p, eM M] = some (.ok (.bool (placeB p M.length w))) := by
  obtain ⟨q1, q2⟩ := row0 t
  cases p with
  | tuple xs =>
    by_cases h2 : xs.length = 2
    · obtain ⟨a, b, rfl⟩ := two_of h2
      refine m_rt rfl (rt_seq (ds1 := [some (.tuple [a, b]), some (eM M), none, none]) ((if_f (bOr_f (bOf_ok rfl) (bOf_ok (neL_ok (a := 2) (b := 2) (cb1_ok rfl rfl) rfl)))).trans rfl) (rt_seq (ds1 := [some (.tuple [a, b]), some (eM M), some a, some b]) rfl ?_))
      have wa : bNot (bOf (eCB (okOf M_is_whole) (aC (eV 2) (aC (eC (.int 0)) aN)))) [some (.tuple [a, b]), some (eM M), some a, some b] = some (!wholeB a 0) := bNot_ok (bOf_ok (call2_ok rfl rfl (m_is_whole a 0)))
      have wb : bNot (bOf (eCB (okOf M_is_whole) (aC (eV 3) (aC (eC (.int 0)) aN)))) [some (.tuple [a, b]), some (eM M), some a, some b] = some (!wholeB b 0) := bNot_ok (bOf_ok (call2_ok rfl rfl (m_is_whole b 0)))
      show Rt _ (.bool ((wholeB a 0 && wholeB b 0) && insB M.length w a b))
      cases ha : wholeB a 0 with
      | false =>
        rw [ha] at wa
        exact rt_ifR (x := true) (bOr_t wa) (fun _ => rt_retF rfl) fun z => nomatch z
      | true =>
        rw [ha] at wa
        cases hb : wholeB b 0 with
        | false =>
          rw [hb] at wb
          exact rt_ifR (x := true) (bOr_f wa wb) (fun _ => rt_retF rfl) fun z => nomatch z
        | true =>
          rw [hb] at wb
          obtain ⟨i, rfl, i0⟩ := whole_is ha
          obtain ⟨j, rfl, j0⟩ := whole_is hb
          refine rt_ifR (x := false) (bOr_f wa wb) (fun z => nomatch z) fun _ => rt_retF ?_
          simp only [hideD]
          have l1 : FX.e2 ltI (eV 2) (eCB lenL (aC (eV 1) aN)) [some (.tuple [.int i, .int j]), some (eM M), some (.int i), some (.int j)] = some (.bool (decide (i < M.length))) := e2_ok rfl ((len_ok (xs := M.map eI) rfl).trans (by rw [List.length_map])) rfl
          have l2 : FX.e2 ltI (eV 3) (eCB lenL (aC (e2 ixD (eV 1) (eC (.int 0))) aN)) [some (.tuple [.int i, .int j]), some (eM M), some (.int i), some (.int j)] = some (.bool (decide (j < w))) := e2_ok rfl ((len_ok (ix_ok (xs := M.map eI) rfl rfl q1)).trans (by rw [List.length_map, q2])) rfl
          show _ = some (PyData.bool ((true && true) && (decide (i < M.length) && decide (j < w))))
          rw [Bool.true_and, Bool.true_and]
          cases q : decide (i < (M.length : Int)) with
          | false =>
            rw [q] at l1
            exact (and_f l1).trans (by rw [Bool.false_and])
          | true =>
            rw [q] at l1
            exact (and_t l1 l2).trans (by rw [Bool.true_and])
    · rw [place_out h2]
      exact m_rt rfl (rt_ifR (x := true) (bOr_f (bOf_ok rfl) ((bOf_ok (neL_ok (b := 2) (cb1_ok rfl rfl) rfl)).trans (by
        rw [decide_eq_false (by omega)]
        rfl))) (fun _ => rt_retF rfl) fun z => nomatch z)
  | none => rfl
  | bool b => rfl
  | int i => rfl
  | str s => rfl
  | list s => rfl
  | dict s => rfl
theorem place_is {p : PyData} {h w : Nat} (q : placeB p h w = true) : ∃ r c : Nat, p = pD (r, c) ∧ r < h ∧ c < w := by
  cases p with
  | tuple xs =>
    by_cases h2 : xs.length = 2
    · obtain ⟨a, b, rfl⟩ := two_of h2
      obtain ⟨q1, q2⟩ := (Bool.and_eq_true _ _).mp (show ((wholeB a 0 && wholeB b 0) && insB h w a b) = true from q)
      obtain ⟨q3, q4⟩ := (Bool.and_eq_true _ _).mp q1
      obtain ⟨i, rfl, i0⟩ := whole_is q3
      obtain ⟨j, rfl, j0⟩ := whole_is q4
      obtain ⟨q5, q6⟩ := (Bool.and_eq_true _ _).mp (show (decide (i < (h : Int)) && decide (j < (w : Int))) = true from q2)
      have q5 := of_decide_eq_true q5
      have q6 := of_decide_eq_true q6
      refine ⟨i.toNat, j.toNat, ?_, by omega, by omega⟩
      unfold pD
      rw [show ((i.toNat : Nat) : Int) = i by omega, show ((j.toNat : Nat) : Int) = j by omega]
    · rw [place_out h2] at q
      cases q
  | _ => cases q
theorem places_is : ∀ {xs : List PyData} {h w : Nat}, (xs.all fun p => placeB p h w) = true → ∃ ps : List (Nat × Nat), xs = ps.map pD ∧ ∀ p ∈ ps, p.1 < h ∧ p.2 < w
  | [], _, _, _ => ⟨[], rfl, fun p hp => nomatch hp⟩
  | x :: xs, h, w, q => by
    obtain ⟨q1, q2⟩ := (Bool.and_eq_true _ _).mp (show (placeB x h w && xs.all fun p => placeB p h w) = true from q)
    obtain ⟨r, c, rfl, b1, b2⟩ := place_is q1
    obtain ⟨ps, rfl, e⟩ := places_is q2
    exact ⟨(r, c) :: ps, rfl, fun p hp => (List.mem_cons.mp hp).elim (fun z => by rw [z]; exact ⟨b1, b2⟩) (e p)⟩
abbrev BT : Er := ⟨"BadTable", []⟩
abbrev BP : Er := ⟨"BadPlace", []⟩
theorem drop_ok {fr : De → Option Ob} {ds : De} {d : PyData} (h : fr ds = some (.ok d)) : thenR fr kDrop ds = some (.nx ds) := by
  unfold thenR
  rw [h]
  rfl
theorem drop_er {fr : De → Option Ob} {k : PyData → De → Option GO} {ds : De} {x : Er} (h : fr ds = some (.error x)) : thenR fr k ds = some (.er x ds) := by
  unfold thenR
  rw [h]
theorem need_yes {t : PyData} (h : tabB t = true) : M_need_table [t] = some (.ok .none) := by
  have g : bNot (bOf (eCB (okOf M_is_table) (aC (eV 0) aN))) (startD 1 [t]) = some false := bNot_ok (x := true) (bOf_ok (call1_ok rfl (by rw [m_is_table, h])))
  exact m_nx (ds1 := [some t]) rfl ((if_f g).trans rfl)
theorem need_no {t : PyData} (h : tabB t = false) : M_need_table [t] = some (.error BT) := by
  have g : bNot (bOf (eCB (okOf M_is_table) (aC (eV 0) aN))) (startD 1 [t]) = some true := bNot_ok (x := false) (bOf_ok (call1_ok rfl (by rw [m_is_table, h])))
  exact m_er rfl ⟨_, (if_t g).trans rfl⟩
theorem m_row_sums {M : List (List Int)} {w : Nat} (t : Tab M w) : M_row_sums [eM M] = some (.ok (eI (rowS M))) := by
  have h8 := t.h8
  refine m_rt rfl (rt_seq (ds1 := [some (eM M), none]) (drop_ok (cR1 rfl (need_yes (tab_of t)))) (rt_retN ?_))
  refine (eLc_mapA M (φ := eI) (g := fun r => .int r.sum) rfl (by omega) fun r hr => ⟨[some (eM M), some (eI r)], rfl, rfl, flat_ok (cb1_ok rfl (sumL_ints r)) rfl⟩).trans ?_
  unfold eI rowS
  rw [List.map_map]
  rfl
theorem m_column_sums {M : List (List Int)} {w : Nat} (t : Tab M w) : M_column_sums [eM M] = some (.ok (eI (colS M w))) := by
  have h1 := t.h1
  have h8 := t.h8
  have w8 := t.w8
  have hd : ((M.map fun r => r.map PyData.int).headD []).length = w := by
    cases M with
    | nil => simp at h1
    | cons r M =>
      show (r.map PyData.int).length = w
      rw [List.length_map, t.len r List.mem_cons_self]
  have all : (M.map fun r => r.map PyData.int).all (fun r => r.length == ((M.map fun r => r.map PyData.int).headD []).length) = true := by
    rw [hd, List.all_map]
    refine List.all_eq_true.mpr fun r hr => ?_
    show ((r.map PyData.int).length == w) = true
    rw [List.length_map, t.len r hr]
    simp
  have its : itS (eV 0) [some (eM M), none] = some ((List.range w).map fun c => .tuple ((colN M c).map PyData.int)) := by
    have ro : rowsOf (M.map eI) = some (M.map fun r => r.map PyData.int) := by
      rw [show M.map eI = (M.map fun r => r.map PyData.int).map PyData.list by rw [List.map_map]; rfl, rowsOf_map]
    unfold itS
    show (match rowsOf (M.map eI) with | some rs => _ | none => none) = _
    rw [ro]
    simp only
    rw [if_pos ⟨by rw [List.length_map]; omega, by rw [List.length_map]; omega, all⟩, hd]
    unfold colsD colD colN
    congr 1
    refine List.map_congr_left fun c hc => ?_
    have hc := List.mem_range.mp hc
    show PyData.tuple _ = PyData.tuple _
    rw [List.map_map, List.map_map]
    congr 1
    refine List.map_congr_left fun r hr => ?_
    show (r.map PyData.int).getD c .none = .int (r.getD c 0)
    rw [List.getD_eq_getElem?_getD, List.getD_eq_getElem?_getD, List.getElem?_map, List.getElem?_eq_getElem (by rw [t.len r hr]; exact hc)]
    rfl
  refine m_rt rfl (rt_seq (ds1 := [some (eM M), none]) (drop_ok (cR1 rfl (need_yes (tab_of t)))) (rt_retN ?_))
  refine (eLc_mapA (List.range w) (φ := fun c => .tuple ((colN M c).map PyData.int)) (g := fun c => .int (colN M c).sum) its (by rw [List.length_range]; omega) fun c hc => ⟨[some (eM M), some (.tuple ((colN M c).map PyData.int))], rfl, rfl, flat_ok (cb1_ok rfl ?_) rfl⟩).trans ?_
  · show (intsOf ((colN M c).map PyData.int)).map (fun ns => PyData.int ns.sum) = _
    rw [intsOf_map]
    rfl
  · unfold eI colS
    rw [List.map_map]
    rfl
theorem in_allP {h w r c : Nat} (hr : r < h) (hc : c < w) : (r, c) ∈ allP h w := List.mem_flatMap.mpr ⟨r, List.mem_range.mpr hr, List.mem_map.mpr ⟨c, List.mem_range.mpr hc, rfl⟩⟩
def key (p : Nat × Nat) : List Int := [(p.1 : Int), (p.2 : Int)]
theorem tups_pD : ∀ ps : List (Nat × Nat), tupsOf (ps.map pD) = some (ps.map key)
  | [] => rfl
  | p :: ps => by
    show (match intsOf [PyData.int (p.1 : Int), .int (p.2 : Int)], tupsOf (ps.map pD) with | some ns, some ks => some (ns :: ks) | _, _ => none) = _
    rw [tups_pD ps]
    rfl
theorem key_nodup : ∀ ps : List (Nat × Nat), (ps.map key).Nodup ↔ ps.Nodup
  | [] => by simp
  | p :: ps => by
    rw [List.map_cons, List.nodup_cons, List.nodup_cons, key_nodup ps]
    have e : key p ∈ ps.map key ↔ p ∈ ps := by
      refine ⟨fun h => ?_, fun h => List.mem_map.mpr ⟨p, h, rfl⟩⟩
      obtain ⟨q, hq, e⟩ := List.mem_map.mp h
      unfold key at e
      simp only [List.cons.injEq, and_true] at e
      have : q = p := Prod.ext (by omega) (by omega)
      rw [← this]
      exact hq
    rw [e]
theorem m_are_places {M : List (List Int)} {w : Nat} (t : Tab M w) {ps : List (Nat × Nat)} (hp : ∀ p ∈ ps, p.1 < M.length ∧ p.2 < w) (hl : ps.length ≤ 65) : M__are_places [.list (ps.map pD), eM M] = some (.ok (.bool (decide ps.Nodup))) := by
  have each : ∀ p ∈ ps, placeB (pD p) M.length w = true := fun p q => by
    obtain ⟨a, b⟩ := hp p q
    show ((decide ((0 : Int) ≤ (p.1 : Int)) && decide ((0 : Int) ≤ (p.2 : Int))) && (decide ((p.1 : Int) < (M.length : Int)) && decide ((p.2 : Int) < (w : Int)))) = true
    rw [decide_eq_true (by omega), decide_eq_true (by omega), decide_eq_true (by omega), decide_eq_true (by omega)]
    rfl
  have all1 : eCB allL (aC (eLc [2] (bName 2) (itA (eV 0)) (fun _ => some true) (eCB (okOf M_is_place) (aC (eV 2) (aC (eV 1) aN)))) aN) (startD 3 [.list (ps.map pD), eM M]) = some (.bool true) :=
    cb1_ok (eLc_mapA ps (φ := pD) (g := fun p => .bool (placeB (pD p) M.length w)) rfl (by omega) fun p q => ⟨[some (.list (ps.map pD)), some (eM M), some (pD p)], rfl, rfl, call2_ok rfl rfl (m_is_place t (pD p))⟩) ((allL_map _ _).trans (by rw [List.all_eq_true.mpr each]))
  refine m_rt rfl (rt_ifR (x := false) (bOr_f (x := false) (bOf_ok rfl) (bNot_ok (x := true) (bOf_ok all1))) (fun z => nomatch z) fun _ => rt_retF ?_)
  have l1 : FX.e1 lenSetD (eV 0) [some (.list (ps.map pD)), some (eM M), none] = some (.int ((dd (ps.map key)).length : Int)) := by
    show (match tupsOf (ps.map pD) with | some ks => if (dd ks).length ≤ 64 then some (PyData.int ((dd ks).length : Int)) else none | none => none) = _
    rw [tups_pD]
    simp only
    have few := sub_len (dd (ps.map key)) ((allP M.length w).map key) (dd_nodup _) fun y hy => by
      obtain ⟨p, hp', rfl⟩ := List.mem_map.mp (dd_mem.mp hy)
      obtain ⟨a, b⟩ := hp p hp'
      exact List.mem_map.mpr ⟨p, in_allP a b, rfl⟩
    rw [List.length_map] at few
    rw [if_pos (Nat.le_trans few (allP_len t.h8 t.w8))]
  refine (eqL_ok l1 (len_ok rfl)).trans ?_
  congr 2
  rw [List.length_map]
  refine decide_eq_decide.mpr ?_
  rw [← key_nodup, ← dd_all, List.length_map]
  omega
theorem enum_range {A : Type} (f : A → PyData) (L : List A) (d : A) : enumD (L.map f) = (List.range L.length).map fun i => .tuple [.int (i : Int), f (L.getD i d)] := by
  unfold enumD
  refine List.ext_getElem? fun i => ?_
  rw [List.getElem?_map, List.getElem?_zipIdx, List.getElem?_map, List.getElem?_map]
  by_cases h : i < L.length
  · have e : L.getD i d = L[i] := by
      rw [List.getD_eq_getElem?_getD, List.getElem?_eq_getElem h]
      rfl
    rw [List.getElem?_range h, List.getElem?_eq_getElem h]
    simp only [Option.map_some, e]
    simp
  · rw [List.getElem?_eq_none (by omega), List.getElem?_eq_none (by rw [List.length_range]; omega)]
    rfl
theorem m_view_of {M : List (List Int)} {w : Nat} (t : Tab M w) {ps : List (Nat × Nat)} (hp : ∀ p ∈ ps, p.1 < M.length ∧ p.2 < w) (hl : ps.length ≤ 64) (nd : ps.Nodup) : M_view_of [eM M, .list (ps.map pD)] = some (.ok (vD (viewC M w ps) (rowS M) (colS M w))) := by
  have h8 := t.h8
  have w8 := t.w8
  have ap : bNot (bOf (eCB (okOf M__are_places) (aC (eV 1) (aC (eV 0) aN)))) [some (eM M), some (.list (ps.map pD)), none, none, none, none, none] = some false := bNot_ok (x := true) (bOf_ok (call2_ok rfl rfl (by rw [m_are_places t hp (Nat.le_succ_of_le hl), decide_eq_true nd])))
  have cells : eLc [3, 4] (bTup 2 (bCons (bName 3) (bCons (bName 4) bNil))) (itE (aC (eV 0) aN)) (fun _ => some true) (eLc [5, 6] (bTup 2 (bCons (bName 5) (bCons (bName 6) bNil))) (itE (aC (eV 4) aN)) (fun _ => some true) (eIf (bOf (e2 inE (eTup (aC (eV 3) (aC (eV 5) aN))) (eV 1))) (flatF (eC .none)) (flatF (eV 6)))) [some (eM M), some (.list (ps.map pD)), none, none, none, none, none] = some (.list ((viewC M w ps).map rowD)) := by
    refine (eLc_mapA (List.range M.length) (φ := fun (r : Nat) => .tuple [.int (r : Int), eI (M.getD r [])]) (g := fun (r : Nat) => rowD ((List.range w).map fun c => if hidB ps r c = true then none else some ((M.getD r []).getD c 0))) ?_ (by rw [List.length_range]; omega) fun r hr => ?_).trans ?_
    · show some (enumD (M.map eI)) = _
      rw [enum_range eI M []]
    · have hr := List.mem_range.mp hr
      have rl := row_len t hr
      refine ⟨[some (eM M), some (.list (ps.map pD)), none, some (.int (r : Int)), some (eI (M.getD r [])), none, none], rfl, rfl, ?_⟩
      refine (eLc_mapA (List.range w) (φ := fun (c : Nat) => .tuple [.int (c : Int), .int ((M.getD r []).getD c 0)]) (g := fun (c : Nat) => oD (if hidB ps r c = true then none else some ((M.getD r []).getD c 0))) ?_ (by rw [List.length_range]; omega) fun c hc => ?_).trans ?_
      · show some (enumD ((M.getD r []).map PyData.int)) = _
        rw [enum_range PyData.int (M.getD r []) 0, rl]
      · refine ⟨[some (eM M), some (.list (ps.map pD)), none, some (.int (r : Int)), some (eI (M.getD r [])), some (.int (c : Int)), some (.int ((M.getD r []).getD c 0))], rfl, rfl, ?_⟩
        have tt : bOf (e2 inE (eTup (aC (eV 3) (aC (eV 5) aN))) (eV 1)) [some (eM M), some (.list (ps.map pD)), none, some (.int (r : Int)), some (eI (M.getD r [])), some (.int (c : Int)), some (.int ((M.getD r []).getD c 0))] = some (hidB ps r c) := bOf_ok (in_ok (tup_ok rfl (show 2 ≤ 100000 by decide)) rfl)
        unfold FX.eIf
        rw [tt]
        cases hidB ps r c <;> rfl
      · unfold rowD
        rw [List.map_map]
        rfl
    · unfold viewC
      rw [List.map_map]
      rfl
  have rs : cR M_row_sums (aC (eV 0) aN) [some (eM M), some (.list (ps.map pD)), none, none, none, none, none] = some (.ok (eI (rowS M))) := cR1 rfl (m_row_sums t)
  have cs : cR M_column_sums (aC (eV 0) aN) [some (eM M), some (.list (ps.map pD)), none, none, none, none, none] = some (.ok (eI (colS M w))) := cR1 rfl (m_column_sums t)
  refine m_rt rfl (rt_seq (ds1 := [some (eM M), some (.list (ps.map pD)), none, none, none, none, none]) (drop_ok (cR1 rfl (need_yes (tab_of t)))) (rt_seq (ds1 := [some (eM M), some (.list (ps.map pD)), none, none, none, none, none]) ((if_f ap).trans rfl) (rt_seq (ds1 := [some (eM M), some (.list (ps.map pD)), some (.list ((viewC M w ps).map rowD)), none, none, none, none]) (asgN_ok cells) (rt_retM (ds1 := [some (eM M), some (.list (ps.map pD)), none, none, none, none, none]) ?_))))
  have v2 : mVar 2 [some (eM M), some (.list (ps.map pD)), some (.list ((viewC M w ps).map rowD)), none, none, none, none] = some (.list ((viewC M w ps).map rowD), [some (eM M), some (.list (ps.map pD)), none, none, none, none, none]) := rfl
  simp only [mTup, mCons, v2, keepM, rs, cs, mNil]
  rfl
/-- what is refused -/
theorem view_bad_table {t p : PyData} (h : tabB t = false) : M_view_of [t, p] = some (.error BT) := m_er rfl (rr_seqR ⟨_, drop_er (cR1 rfl (need_no h))⟩)
theorem view_bad_places {M : List (List Int)} {w : Nat} (t : Tab M w) {p : PyData} (h : M__are_places [p, eM M] = some (.ok (.bool false))) : M_view_of [eM M, p] = some (.error BP) := by
  have ap : bNot (bOf (eCB (okOf M__are_places) (aC (eV 1) (aC (eV 0) aN)))) [some (eM M), some p, none, none, none, none, none] = some true := bNot_ok (x := false) (bOf_ok (call2_ok rfl rfl h))
  exact m_er rfl (rr_seq (ds1 := [some (eM M), some p, none, none, none, none, none]) (drop_ok (cR1 rfl (need_yes (tab_of t)))) (rr_seqR ⟨_, (if_t ap).trans rfl⟩))
def goodR (n : Nat) (r : PyData) : Bool := isL r && ((decide (1 ≤ lenD r) && decide (lenD r ≤ 8)) && (decide (lenD r = n) && (cellsD r).all cellB))
theorem tab_rows {c0 rest : List PyData} (hb : (PyData.list c0 :: rest).length ≤ 8) : tabV (.list (.list c0 :: rest)) = (PyData.list c0 :: rest).all (goodR c0.length) := by
  unfold tabV
  rw [gridB_list]
  show ((((decide (1 ≤ (PyData.list c0 :: rest).length) && decide ((PyData.list c0 :: rest).length ≤ 8)) && (PyData.list c0 :: rest).all isL) && ((decide (1 ≤ c0.length) && decide (c0.length ≤ 8)) && (PyData.list c0 :: rest).all fun r => decide (lenD r = c0.length))) && ((PyData.list c0 :: rest).flatMap cellsD).all cellB) = _
  rw [decide_eq_true hb, decide_eq_true (show 1 ≤ (PyData.list c0 :: rest).length by simp), Bool.true_and, Bool.true_and, List.all_flatMap, Bool.eq_iff_iff]
  constructor
  · intro h
    simp only [Bool.and_eq_true, decide_eq_true_eq] at h
    obtain ⟨⟨h1, ⟨h2, h3⟩, h4⟩, h5⟩ := h
    refine List.all_eq_true.mpr fun r hr => ?_
    have e := of_decide_eq_true (List.all_eq_true.mp h4 r hr)
    unfold goodR
    rw [List.all_eq_true.mp h1 r hr, e, decide_eq_true h2, decide_eq_true h3, List.all_eq_true.mp h5 r hr]
    simp
  · intro h
    have each : ∀ r ∈ PyData.list c0 :: rest, isL r = true ∧ (1 ≤ lenD r ∧ lenD r ≤ 8) ∧ lenD r = c0.length ∧ (cellsD r).all cellB = true := fun r hr => by
      have q := List.all_eq_true.mp h r hr
      unfold goodR at q
      simp only [Bool.and_eq_true, decide_eq_true_eq] at q
      exact ⟨q.1, ⟨q.2.1.1, q.2.1.2⟩, q.2.2.1, q.2.2.2⟩
    obtain ⟨_, ⟨k1, k2⟩, _, _⟩ := each (.list c0) List.mem_cons_self
    simp only [Bool.and_eq_true, decide_eq_true_eq]
    exact ⟨⟨List.all_eq_true.mpr fun r hr => (each r hr).1, ⟨k1, k2⟩, List.all_eq_true.mpr fun r hr => decide_eq_true (each r hr).2.2.1⟩, List.all_eq_true.mpr fun r hr => (each r hr).2.2.2⟩
def zer (o : Option Int) : Int := o.getD 0
def zerM (C : List (List (Option Int))) : List (List Int) := C.map fun r => r.map zer
theorem zer_sum (l : List (Option Int)) : (l.map zer).sum = shown l := by
  unfold shown
  induction l with
  | nil => rfl
  | cons o l ih => cases o <;> simp_all [zer]
theorem zer_tab {C : List (List (Option Int))} {R S : List Int} {w : Nat} (sh : Shp C R S w) : Tab (zerM C) w where
  h1 := by simp [zerM]; exact sh.h1
  h8 := by simp [zerM]; exact sh.h8
  w1 := sh.w1
  w8 := sh.w8
  len := fun r hr => by
    obtain ⟨q, hq, rfl⟩ := List.mem_map.mp hr
    rw [List.length_map]
    exact sh.len q hq
  pos := fun r hr x hx => by
    obtain ⟨q, hq, rfl⟩ := List.mem_map.mp hr
    obtain ⟨o, ho, rfl⟩ := List.mem_map.mp hx
    cases o with
    | none => exact Int.le_refl _
    | some i => exact sh.pos q hq _ ho i rfl
theorem itA_ok {fe : De → Option PyData} {ds : De} {xs : List PyData} (h : fe ds = some (.list xs)) : itA fe ds = some xs := by
  unfold itA
  rw [h]
theorem forGo_nx {os : List Nat} {b : PyData → Option Bd} {body : De → Option GO} {x : PyData} {xs : List PyData} {ds d : De} {l : Bd} {o : Option GO} (h1 : b x = some l) (h2 : zeros os l = true) (h3 : body (bindD ds l) = some (.nx d)) (k : forGo os b body xs d = o) : forGo os b body (x :: xs) ds = o := by
  simp only [forGo, h1, h2, h3, if_true]
  exact k
theorem forGo_rt {os : List Nat} {b : PyData → Option Bd} {body : De → Option GO} {x : PyData} {xs : List PyData} {ds d : De} {l : Bd} {r : PyData} (h1 : b x = some l) (h2 : zeros os l = true) (h3 : body (bindD ds l) = some (.rt r d)) : forGo os b body (x :: xs) ds = some (.rt r d) := by
  simp only [forGo, h1, h2, h3, if_true]
theorem zip_range {A B : Type} (f : Nat → Int) (L : List (List (Option Int))) (R : List Int) (h : R.length = L.length) (hf : ∀ i (h1 : i < L.length) (h2 : i < R.length), f i = R[i] - shown L[i]) : leftI L R = (List.range L.length).map f := by
  show List.zipWith (fun l r => r - shown l) L R = _
  refine List.ext_getElem (by rw [List.length_zipWith, List.length_map, List.length_range]; omega) fun i h1 h2 => ?_
  rw [List.getElem_zipWith, List.getElem_map, List.getElem_range, hf i (by simpa using h2) (by rw [h]; simpa using h2)]
theorem left_rows {C : List (List (Option Int))} {R S : List Int} {w : Nat} (sh : Shp C R S w) : leftI C R = (List.range C.length).map fun r => R.getD r 0 - ((zerM C).getD r []).sum := by
  refine zip_range (A := Nat) (B := Nat) _ C R sh.rl fun i h1 h2 => ?_
  rw [List.getD_eq_getElem?_getD, List.getElem?_eq_getElem h2, List.getD_eq_getElem?_getD, zerM, List.getElem?_map, List.getElem?_eq_getElem h1]
  show _ - ((C[i]).map zer).sum = _
  rw [zer_sum]
  rfl
theorem left_cols {C : List (List (Option Int))} {R S : List Int} {w : Nat} (sh : Shp C R S w) : leftI (colO C w) S = (List.range w).map fun c => S.getD c 0 - (colS (zerM C) w).getD c 0 := by
  have hl : (colO C w).length = w := by simp [colO]
  have q := zip_range (A := Nat) (B := Nat) (fun c => S.getD c 0 - (colS (zerM C) w).getD c 0) (colO C w) S (by rw [hl]; exact sh.sl) fun i h1 h2 => ?_
  · rw [q, hl]
  · have hi : i < w := by rw [hl] at h1; exact h1
    show S.getD i 0 - (colS (zerM C) w).getD i 0 = _
    rw [List.getD_eq_getElem?_getD, List.getElem?_eq_getElem h2, List.getD_eq_getElem?_getD, colS, List.getElem?_map, List.getElem?_range hi]
    have e : (colN (zerM C) i).sum = shown (colO C w)[i] := by
      rw [← zer_sum]
      have e0 : (colO C w)[i] = C.map fun r => r.getD i none := by simp [colO]
      rw [e0]
      unfold colN zerM
      rw [List.map_map, List.map_map]
      congr 1
      refine List.map_congr_left fun r hr => ?_
      show (r.map zer).getD i 0 = zer (r.getD i none)
      rw [List.getD_eq_getElem?_getD, List.getD_eq_getElem?_getD, List.getElem?_map]
      cases r[i]? <;> rfl
    show _ - (colN (zerM C) i).sum = _
    rw [e]
    rfl
theorem getD_map_int {xs : List Int} {k : Nat} (h : k < xs.length) : atI (xs.map PyData.int) (k : Int) = some (.int (xs.getD k 0)) := int_at h
theorem eI_ok {fe : De → Option PyData} {ds : De} {xs : List Int} (h : fe ds = some (eI xs)) : eCB lenL (aC fe aN) ds = some (.int (xs.length : Int)) := (len_ok h).trans (by rw [List.length_map])
theorem shp_parts {C : List (List (Option Int))} {R S : List Int} {w : Nat} (sh : Shp C R S w) : partsB (vD C R S) = true := by
  obtain ⟨r0, C', rfl⟩ : ∃ a b, C = a :: b := by
    have := sh.h1
    cases C with
    | nil => simp at this
    | cons a b => exact ⟨a, b, rfl⟩
  have w0 := sh.len r0 List.mem_cons_self
  have sums : ∀ (xs : List Int) (k : Nat), xs.length = k → (∀ x ∈ xs, 0 ≤ x) → sumsB (eI xs) k = true := fun xs k h p => by
    show (decide ((xs.map PyData.int).length = k) && (xs.map PyData.int).all fun x => wholeB x 0) = true
    rw [List.length_map, decide_eq_true h, Bool.true_and]
    refine List.all_eq_true.mpr fun y hy => ?_
    obtain ⟨x, hx, rfl⟩ := List.mem_map.mp hy
    exact decide_eq_true (p x hx)
  show (tabV (.list ((r0 :: C').map rowD)) && (sumsB (eI R) ((r0 :: C').map rowD).length && sumsB (eI S) (r0.map oD).length)) = true
  rw [sums R _ (by rw [List.length_map]; exact sh.rl) sh.rp, sums S _ (by rw [List.length_map, w0]; exact sh.sl) sh.sp, Bool.and_true, Bool.and_true]
  show tabV (.list (.list (r0.map oD) :: C'.map rowD)) = true
  rw [tab_rows (by simpa using sh.h8)]
  refine List.all_eq_true.mpr fun x hx => ?_
  obtain ⟨r, hr, rfl⟩ := List.mem_map.mp (show x ∈ (r0 :: C').map rowD from hx)
  have rl := sh.len r hr
  unfold goodR
  have e : lenD (rowD r) = w := (List.length_map ..).trans rl
  rw [e, List.length_map, w0, decide_eq_true sh.w1, decide_eq_true sh.w8]
  have q : (cellsD (rowD r)).all cellB = true := List.all_eq_true.mpr fun c hc => by
    obtain ⟨o, ho, rfl⟩ := List.mem_map.mp (show c ∈ r.map oD from hc)
    cases o with
    | none => rfl
    | some i => exact decide_eq_true (sh.pos r hr _ ho i rfl)
  rw [q]
  simp [rowD, isL, tyName]
theorem all_app (xs ys : List Int) (p : Int → Bool) : (xs ++ ys).all p = (xs.all p && ys.all p) := List.all_append
theorem sum_nn : ∀ xs : List Int, (∀ x ∈ xs, 0 ≤ x) → 0 ≤ xs.sum
  | [], _ => Int.le_refl _
  | x :: xs, h => by
    have a := h x List.mem_cons_self
    have b := sum_nn xs fun y hy => h y (List.mem_cons_of_mem _ hy)
    rw [List.sum_cons]
    omega
theorem view_shp {M : List (List Int)} {w : Nat} (t : Tab M w) (ps : List (Nat × Nat)) : Shp (viewC M w ps) (rowS M) (colS M w) w where
  h1 := by simp [viewC]; exact t.h1
  h8 := by simp [viewC]; exact t.h8
  w1 := t.w1
  w8 := t.w8
  len := fun r hr => by
    obtain ⟨i, _, rfl⟩ := List.mem_map.mp hr
    simp
  pos := fun r hr x hx i hi => by
    obtain ⟨a, ha, rfl⟩ := List.mem_map.mp hr
    obtain ⟨b, hb, rfl⟩ := List.mem_map.mp hx
    have ha := List.mem_range.mp ha
    have hb := List.mem_range.mp hb
    split at hi
    · cases hi
    · cases hi
      have hm : M.getD a [] ∈ M := by
        rw [List.getD_eq_getElem?_getD, List.getElem?_eq_getElem ha]
        exact List.getElem_mem _
      have hb' : b < (M.getD a []).length := by
        rw [t.len _ hm]
        exact hb
      generalize M.getD a [] = row at hm hb' ⊢
      refine t.pos _ hm _ ?_
      rw [List.getD_eq_getElem?_getD, List.getElem?_eq_getElem hb']
      exact List.getElem_mem _
  rl := by simp [rowS, viewC]
  sl := by simp [colS]
  rp := fun x hx => by
    obtain ⟨r, hr, rfl⟩ := List.mem_map.mp hx
    exact sum_nn r (t.pos r hr)
  sp := fun x hx => by
    obtain ⟨c, hc, rfl⟩ := List.mem_map.mp hx
    refine sum_nn _ fun y hy => ?_
    obtain ⟨r, hr, rfl⟩ := List.mem_map.mp hy
    rw [List.getD_eq_getElem?_getD]
    cases q : r[c]? with
    | none => exact Int.le_refl _
    | some z => exact t.pos r hr z (List.mem_of_getElem? q)

theorem sum_add (xs : List Nat) (f g : Nat → Int) : (xs.map fun c => f c + g c).sum = (xs.map f).sum + (xs.map g).sum := by
  induction xs with
  | nil => rfl
  | cons x xs ih =>
    simp only [List.map_cons, List.sum_cons, ih]
    omega
theorem sum_sub (xs : List Nat) (f g : Nat → Int) : (xs.map fun c => f c - g c).sum = (xs.map f).sum - (xs.map g).sum := by
  induction xs with
  | nil => rfl
  | cons x xs ih =>
    simp only [List.map_cons, List.sum_cons, ih]
    omega
theorem range_getD {A : Type} (r : List A) (d : A) : (List.range r.length).map (fun c => r.getD c d) = r := by
  refine List.ext_getElem (by simp) fun i h1 h2 => ?_
  rw [List.getElem_map, List.getElem_range, List.getD_eq_getElem?_getD, List.getElem?_eq_getElem h2]
  rfl
theorem swap (w : Nat) : ∀ M : List (List Int), (∀ r ∈ M, r.length = w) → (rowS M).sum = (colS M w).sum
  | [], _ => by
    have z : ∀ n : Nat, ((List.range n).map fun c => (colN [] c).sum).sum = 0 := fun n => by
      induction n with
      | zero => rfl
      | succ n ih =>
        rw [List.range_succ, List.map_append, List.sum_append, ih]
        rfl
    exact (z w).symm
  | r :: M, h => by
    have ih := swap w M fun x hx => h x (List.mem_cons_of_mem _ hx)
    have hr := h r List.mem_cons_self
    have e : colS (r :: M) w = (List.range w).map fun c => r.getD c 0 + (colN M c).sum := by
      unfold colS colN
      refine List.map_congr_left fun c _ => ?_
      rw [List.map_cons, List.sum_cons]
    rw [e, sum_add]
    have e2 : ((List.range w).map fun c => r.getD c 0).sum = r.sum := by
      rw [← hr, range_getD]
    show (r.sum :: rowS M).sum = _
    rw [List.sum_cons, ih, e2]
    rfl
theorem getD_map0 (C : List (List Int)) (k : Nat) : (C.map List.sum).getD k 0 = (C.getD k []).sum := by
  rw [List.getD_eq_getElem?_getD, List.getD_eq_getElem?_getD, List.getElem?_map]
  cases C[k]? <;> rfl
theorem cell_le {M : List (List Int)} {w : Nat} (t : Tab M w) (ps : List (Nat × Nat)) {r c : Nat} (hr : r < M.length) (hc : c < w) : ((zerM (viewC M w ps)).getD r []).getD c 0 ≤ (M.getD r []).getD c 0 := by
  have hm : M.getD r [] ∈ M := by
    rw [List.getD_eq_getElem?_getD, List.getElem?_eq_getElem hr]
    exact List.getElem_mem _
  have rl := t.len _ hm
  have pos : 0 ≤ (M.getD r []).getD c 0 := by
    generalize M.getD r [] = row at hm rl
    refine t.pos _ hm _ ?_
    rw [List.getD_eq_getElem?_getD, List.getElem?_eq_getElem (by omega)]
    exact List.getElem_mem _
  have e : ((zerM (viewC M w ps)).getD r []).getD c 0 = zer (if hidB ps r c = true then none else some ((M.getD r []).getD c 0)) := by
    unfold zerM viewC
    rw [List.getD_eq_getElem?_getD, List.getD_eq_getElem?_getD (l := List.map _ _), List.map_map, List.getElem?_map, List.getElem?_range hr]
    show (((List.range w).map fun c => if hidB ps r c = true then none else some ((M.getD r []).getD c 0)).map zer)[c]?.getD 0 = _
    rw [List.map_map, List.getElem?_map, List.getElem?_range hc]
    rfl
  rw [e]
  split
  · exact pos
  · exact Int.le_refl _
theorem sum_le : ∀ (xs : List Nat) (f g : Nat → Int), (∀ x ∈ xs, f x ≤ g x) → (xs.map f).sum ≤ (xs.map g).sum
  | [], _, _, _ => Int.le_refl _
  | x :: xs, f, g, h => by
    have a := h x List.mem_cons_self
    have b := sum_le xs f g fun y hy => h y (List.mem_cons_of_mem _ hy)
    simp only [List.map_cons, List.sum_cons]
    omega
theorem colS_at {M : List (List Int)} {w c : Nat} (hc : c < w) : (colS M w).getD c 0 = (colN M c).sum := by
  unfold colS
  rw [List.getD_eq_getElem?_getD, List.getElem?_map, List.getElem?_range hc]
  rfl
theorem colN_range (M : List (List Int)) (c : Nat) : colN M c = (List.range M.length).map fun r => (M.getD r []).getD c 0 := by
  unfold colN
  refine List.ext_getElem (by simp) fun i h1 h2 => ?_
  rw [List.getElem_map, List.getElem_map, List.getElem_range]
  congr 1
  rw [List.getD_eq_getElem?_getD, List.getElem?_eq_getElem (by simpa using h1)]
  rfl
theorem row_range {r : List Int} {w : Nat} (h : r.length = w) : r.sum = ((List.range w).map fun c => r.getD c 0).sum := by
  rw [← h, range_getD]
theorem good_view {M : List (List Int)} {w : Nat} (t : Tab M w) (ps : List (Nat × Nat)) : goodV (viewC M w ps) (rowS M) (colS M w) w = true := by
  have sh := view_shp t ps
  have zt := zer_tab sh
  have cl : (viewC M w ps).length = M.length := by simp [viewC]
  have zl : (zerM (viewC M w ps)).length = M.length := by simp [zerM, cl]
  unfold goodV
  have a1 : (leftI (viewC M w ps) (rowS M)).all (fun x => decide (0 ≤ x)) = true := by
    rw [left_rows sh, cl]
    refine List.all_eq_true.mpr fun x hx => ?_
    obtain ⟨r, hr, rfl⟩ := List.mem_map.mp hx
    have hr := List.mem_range.mp hr
    have e1 : (rowS M).getD r 0 = (M.getD r []).sum := getD_map0 M r
    have len1 := row_len t hr
    have len2 := row_len zt (r := r) (by rw [zl]; exact hr)
    have le := sum_le (List.range w) (fun c => ((zerM (viewC M w ps)).getD r []).getD c 0) (fun c => (M.getD r []).getD c 0) fun c hc => cell_le t ps hr (List.mem_range.mp hc)
    rw [← row_range len2, ← row_range len1] at le
    rw [e1]
    exact decide_eq_true (by omega)
  have a2 : (leftI (colO (viewC M w ps) w) (colS M w)).all (fun x => decide (0 ≤ x)) = true := by
    rw [left_cols sh]
    refine List.all_eq_true.mpr fun x hx => ?_
    obtain ⟨c, hc, rfl⟩ := List.mem_map.mp hx
    have hc := List.mem_range.mp hc
    rw [colS_at hc, colS_at hc, colN_range M, colN_range (zerM _), zl]
    have le := sum_le (List.range M.length) (fun r => ((zerM (viewC M w ps)).getD r []).getD c 0) (fun r => (M.getD r []).getD c 0) fun r hr => cell_le t ps (List.mem_range.mp hr) hc
    exact decide_eq_true (by omega)
  have a3 : (leftI (viewC M w ps) (rowS M)).sum = (leftI (colO (viewC M w ps) w) (colS M w)).sum := by
    rw [left_rows sh, left_cols sh, sum_sub, sum_sub, cl]
    have s1 := swap w M t.len
    have s2 := swap w (zerM (viewC M w ps)) zt.len
    have r1 : ((List.range M.length).map fun r => (rowS M).getD r 0) = rowS M := by
      have q := range_getD (rowS M) 0
      rwa [show (rowS M).length = M.length by simp [rowS]] at q
    have r2 : ((List.range M.length).map fun r => ((zerM (viewC M w ps)).getD r []).sum) = rowS (zerM (viewC M w ps)) := by
      have q := range_getD (rowS (zerM (viewC M w ps))) 0
      rw [show (rowS (zerM (viewC M w ps))).length = M.length by simp [rowS, zl]] at q
      refine Eq.trans ?_ q
      refine List.map_congr_left fun r _ => ?_
      exact (getD_map0 _ r).symm
    have r3 : ((List.range w).map fun c => (colS M w).getD c 0) = colS M w := by
      have q := range_getD (colS M w) 0
      rwa [show (colS M w).length = w by simp [colS]] at q
    have r4 : ((List.range w).map fun c => (colS (zerM (viewC M w ps)) w).getD c 0) = colS (zerM (viewC M w ps)) w := by
      have q := range_getD (colS (zerM (viewC M w ps)) w) 0
      rwa [show (colS (zerM (viewC M w ps)) w).length = w by simp [colS]] at q
    rw [r1, r2, r3, r4, s1, s2]
  rw [a1, a2, decide_eq_true a3]
  rfl
theorem need_view_ok {M : List (List Int)} {w : Nat} (t : Tab M w) (ps : List (Nat × Nat)) : M_need_view [vD (viewC M w ps) (rowS M) (colS M w)] = some (.ok .none) := by
  have sh := view_shp t ps
  have v := m_is_view_v sh (shp_parts sh)
  rw [good_view t ps] at v
  have g : bNot (bOf (eCB (okOf M_is_view) (aC (eV 0) aN))) (startD 1 [vD (viewC M w ps) (rowS M) (colS M w)]) = some false := bNot_ok (x := true) (bOf_ok (call1_ok rfl v))
  exact m_nx (ds1 := [some (vD (viewC M w ps) (rowS M) (colS M w))]) rfl ((if_f g).trans rfl)
def hidL (h w : Nat) (ps : List (Nat × Nat)) : List (Nat × Nat) := (allP h w).filter fun p => hidB ps p.1 p.2
theorem m_hidden_view {M : List (List Int)} {w : Nat} (t : Tab M w) (ps : List (Nat × Nat)) : M_hidden_places [vD (viewC M w ps) (rowS M) (colS M w)] = some (.ok (.list ((hidL M.length w ps).map pD))) := by
  have h8 := t.h8
  have w8 := t.w8
  have cl : (viewC M w ps).length = M.length := by simp [viewC]
  have al := allP_len h8 w8
  let row : Nat → List (Option Int) := fun r => (List.range w).map fun c => if hidB ps r c = true then none else some ((M.getD r []).getD c 0)
  let G : PyData → List PyData := fun x => match x with
    | .tuple (.int r :: _) => ((List.range w).filter fun c => hidB ps r.toNat c).map fun c => pD (r.toNat, c)
    | _ => []
  have e : ((List.range M.length).map fun (r : Nat) => PyData.tuple [.int (r : Int), rowD (row r)]).flatMap G = (hidL M.length w ps).map pD := by
    rw [List.flatMap_map]
    unfold hidL allP
    rw [List.filter_flatMap, List.map_flatMap]
    congr 1
    funext r
    show ((List.range w).filter fun c => hidB ps ((r : Nat) : Int).toNat c).map (fun c => pD (((r : Nat) : Int).toNat, c)) = _
    rw [List.filter_map, List.map_map]
    rfl
  refine m_rt rfl (rt_seq (ds1 := [some (vD (viewC M w ps) (rowS M) (colS M w)), none, none, none, none]) (drop_ok (cR1 rfl (need_view_ok t ps))) (rt_retN ?_))
  refine (eLc2_flat (its := (List.range M.length).map fun (r : Nat) => PyData.tuple [.int (r : Int), rowD (row r)]) (G := G) ?_ ?_ fun x hx => ?_).trans ?_
  · have ix : FX.e2 ixD (eV 0) (eC (.int 0)) [some (vD (viewC M w ps) (rowS M) (colS M w)), none, none, none, none] = some (.list ((viewC M w ps).map rowD)) := rfl
    unfold itE
    rw [show aC (e2 ixD (eV 0) (eC (.int 0))) aN [some (vD (viewC M w ps) (rowS M) (colS M w)), none, none, none, none] = some [.list ((viewC M w ps).map rowD)] from aC_ok ix rfl]
    show some (enumD ((viewC M w ps).map rowD)) = _
    rw [enum_range rowD (viewC M w ps) [], cl]
    congr 1
    refine List.map_congr_left fun r hr => ?_
    have hr := List.mem_range.mp hr
    congr 3
    unfold viewC
    rw [List.getD_eq_getElem?_getD, List.getElem?_map, List.getElem?_range hr]
    rfl
  · rw [e, List.length_map]
    unfold hidL
    have := List.length_filter_le (fun p : Nat × Nat => hidB ps p.1 p.2) (allP M.length w)
    omega
  · obtain ⟨r, hr, rfl⟩ := List.mem_map.mp hx
    have hr := List.mem_range.mp hr
    refine ⟨[some (vD (viewC M w ps) (rowS M) (colS M w)), some (.int (r : Int)), some (rowD (row r)), none, none], rfl, rfl, fun ys => ?_⟩
    have en : enumD ((row r).map oD) = (List.range w).map fun c => .tuple [.int (c : Int), oD ((row r).getD c none)] := by
      rw [enum_range oD (row r) none]
      show (List.range ((List.range w).map _).length).map _ = _
      rw [List.length_map, List.length_range]
    unfold innD
    rw [show itE (aC (eV 2) aN) [some (vD (viewC M w ps) (rowS M) (colS M w)), some (.int (r : Int)), some (rowD (row r)), none, none] = some (enumD ((row r).map oD)) from rfl, en]
    simp only
    refine (lcGo_filterA (List.range w) ys (c := fun c => hidB ps r c) (φ := fun (c : Nat) => .tuple [.int (c : Int), oD ((row r).getD c none)]) (g := fun c => pD (r, c)) fun c hc => ?_).trans ?_
    · have hc := List.mem_range.mp hc
      have ec : (row r).getD c none = if hidB ps r c = true then none else some ((M.getD r []).getD c 0) := by
        show ((List.range w).map _).getD c none = _
        rw [List.getD_eq_getElem?_getD, List.getElem?_map, List.getElem?_range hc]
        rfl
      refine ⟨[some (vD (viewC M w ps) (rowS M) (colS M w)), some (.int (r : Int)), some (rowD (row r)), some (.int (c : Int)), some (oD ((row r).getD c none))], rfl, ?_, fun _ => tup_ok (aC_ok (flat_ok rfl rfl) (aC_ok (flat_ok rfl rfl) rfl)) (show 2 ≤ 100000 by decide)⟩
      refine (bOf_ok (e2_ok rfl rfl rfl)).trans ?_
      rw [ec]
      cases hidB ps r c <;> rfl
    · rfl
  · rw [e]
theorem allP_nodup (h w : Nat) : (allP h w).Nodup := by
  unfold allP
  refine List.pairwise_flatMap.mpr ⟨fun r _ => ?_, ?_⟩
  · refine List.Pairwise.map _ (fun a b hab z => hab ?_) List.nodup_range
    exact congrArg Prod.snd z
  · refine List.Pairwise.imp (fun {a b} hab x hx y hy z => hab ?_) List.nodup_range
    obtain ⟨c, _, rfl⟩ := List.mem_map.mp hx
    obtain ⟨d, _, rfl⟩ := List.mem_map.mp hy
    exact congrArg Prod.fst z
theorem allP_in {h w : Nat} {p : Nat × Nat} (q : p ∈ allP h w) : p.1 < h ∧ p.2 < w := by
  obtain ⟨r, hr, hp⟩ := List.mem_flatMap.mp q
  obtain ⟨c, hc, rfl⟩ := List.mem_map.mp hp
  exact ⟨List.mem_range.mp hr, List.mem_range.mp hc⟩
theorem eqv_pD (p q : Nat × Nat) : PyData.eqv (pD p) (pD q) = decide (p = q) := by
  obtain ⟨a, b⟩ := p
  obtain ⟨c, d⟩ := q
  rw [Bool.eq_iff_iff]
  unfold pD
  simp [PyData.eqv, PyData.eqvAll]
  omega
theorem hid_mem {ps : List (Nat × Nat)} {r c : Nat} : hidB ps r c = decide ((r, c) ∈ ps) := by
  unfold hidB
  rw [List.any_map, Bool.eq_iff_iff, List.any_eq_true, decide_eq_true_eq]
  constructor
  · rintro ⟨p, hp, e⟩
    have e2 : PyData.eqv (pD p) (pD (r, c)) = true := e
    rw [eqv_pD, decide_eq_true_eq] at e2
    rw [← e2]
    exact hp
  · intro h
    refine ⟨(r, c), h, ?_⟩
    show PyData.eqv (pD (r, c)) (pD (r, c)) = true
    rw [eqv_pD]
    exact decide_eq_true rfl
/-- the places as the law turns them -/
theorem ne_self {d : PyData} (h : okE d = true) : neE d d = some (.bool false) := by
  obtain ⟨a, b, c⟩ := okN_is _ _ h
  have sd : SeqAt.shaped d = true := by
    unfold SeqAt.shaped
    rw [b]
    exact decide_eq_true (by omega)
  unfold neE
  rw [if_pos ⟨h, h⟩, SeqAt.eqv_refl _ (lay_of sd)]
  rfl
theorem okN_l {k : Nat} {ds : List PyData} (h : ∀ d ∈ ds, okN k d = true) : okN (k + 1) (.list ds) = true := by
  rw [okN_list]
  exact List.all_eq_true.mpr h
theorem okN_t {k : Nat} {ds : List PyData} (h : ∀ d ∈ ds, okN k d = true) : okN (k + 1) (.tuple ds) = true := by
  rw [okN_tuple]
  exact List.all_eq_true.mpr h
theorem okN_i (k : Nat) (i : Int) : okN k (.int i) = true := by cases k <;> rfl
theorem okN_o (k : Nat) (o : Option Int) : okN k (oD o) = true := by cases o <;> cases k <;> rfl
theorem okN_eI (k : Nat) (xs : List Int) : okN (k + 1) (eI xs) = true := okN_l fun d hd => by
  obtain ⟨i, _, rfl⟩ := List.mem_map.mp hd
  exact okN_i k i
theorem okE_vD (C : List (List (Option Int))) (R S : List Int) : okE (vD C R S) = true := okN_t (k := 59) fun d hd => by
  simp only [List.mem_cons, List.not_mem_nil, or_false] at hd
  rcases hd with rfl | rfl | rfl
  · refine okN_l (k := 58) fun d hd => ?_
    obtain ⟨r, _, rfl⟩ := List.mem_map.mp hd
    refine okN_l (k := 57) fun d hd => ?_
    obtain ⟨o, _, rfl⟩ := List.mem_map.mp hd
    exact okN_o 57 o
  · exact okN_eI 58 _
  · exact okN_eI 58 _
theorem okE_two (xs ys : List Int) : okE (.tuple [eI xs, eI ys]) = true := okN_t (k := 59) fun d hd => by
  simp only [List.mem_cons, List.not_mem_nil, or_false] at hd
  rcases hd with rfl | rfl <;> exact okN_eI 58 _
theorem okE_eM (M : List (List Int)) : okE (eM M) = true := okN_l (k := 59) fun d hd => by
  obtain ⟨r, _, rfl⟩ := List.mem_map.mp hd
  exact okN_eI 58 r
theorem ne_ok {fe fk : De → Option PyData} {ds : De} {d : PyData} (h : fe ds = some d) (h2 : fk ds = some d) (ok : okE d = true) : bOf (e2 neE fe fk) ds = some false := bOf_ok (e2_ok h h2 (ne_self ok))
/-- the places that the law lists: those in order that are hidden -/
theorem listed {M : List (List Int)} {w : Nat} (qs : List (Nat × Nat)) : (allP M.length w).filter (fun p => decide (p ∈ qs)) = hidL M.length w qs := by
  unfold hidL
  refine List.filter_congr fun p _ => ?_
  rw [hid_mem]
theorem put_some (new : PyData) (c : Nat) : ∀ (p : List Int) (d x : PyData), getP c p d = some x → ∃ d', putP new p d = some d'
  | [], d, x, _ => ⟨new, rfl⟩
  | i :: p, d, x, h => by
    unfold getP at h
    split at h
    · cases h
    · cases d with
      | list ds =>
        simp only at h
        cases q : atI ds i with
        | none =>
          rw [q] at h
          cases h
        | some y =>
          rw [q] at h
          obtain ⟨j, j1, j2⟩ := at_ix q
          obtain ⟨y', hy⟩ := put_some new c p y x h
          exact ⟨.list (ds.set j y'), by simp only [putP, j1, j2, hy]⟩
      | tuple ds =>
        simp only at h
        cases q : atI ds i with
        | none =>
          rw [q] at h
          cases h
        | some y =>
          rw [q] at h
          obtain ⟨j, j1, j2⟩ := at_ix q
          obtain ⟨y', hy⟩ := put_some new c p y x h
          exact ⟨.tuple (ds.set j y'), by simp only [putP, j1, j2, hy]⟩
      | _ => cases h
section
variable {c i : Nat} {fp : De → Option (List Int)} {fk : De → Option PyData} {f : De → Option Ob} {m : De → Option (PyData × De)} {ds ds' : De} {d0 e : PyData} {p : List Int} {dsn : List PyData} {k : Int} {j : Nat}
theorem setP_ok (h1 : f ds = some (.ok e)) (h2 : eV i ds = some d0) (h3 : fp ds = some p) (h4 : fk ds = some (.int k)) (h5 : getP c p d0 = some (.list dsn)) (h6 : ixN dsn.length k = some j) (h7 : j < dsn.length) : ∃ d', putP (.list (dsn.set j e)) p d0 = some d' ∧ sSetP c i fp fk f ds = some (.nx (ds.set i (some d'))) := by
  obtain ⟨d', hd⟩ := put_some (.list (dsn.set j e)) c p d0 _ h5
  refine ⟨d', hd, ?_⟩
  unfold sSetP
  simp only [h1, h2, h3, h4, h5, h6, hd, h7, if_true]
theorem setPM_ok (h1 : m ds = some (e, ds')) (h2 : eV i ds' = some d0) (h3 : fp ds' = some p) (h4 : fk ds' = some (.int k)) (h5 : getP c p d0 = some (.list dsn)) (h6 : ixN dsn.length k = some j) (h7 : j < dsn.length) : ∃ d', putP (.list (dsn.set j e)) p d0 = some d' ∧ sSetPM c i fp fk m ds = some (.nx (ds'.set i (some d'))) := by
  obtain ⟨d', hd⟩ := put_some (.list (dsn.set j e)) c p d0 _ h5
  refine ⟨d', hd, ?_⟩
  unfold sSetPM
  simp only [h1, h2, h3, h4, h5, h6, hd, h7, if_true]
theorem pop_ok (h2 : eV i ds = some d0) (h3 : fp ds = some p) (h5 : getP c p d0 = some (.list dsn)) (h7 : 0 < dsn.length) : ∃ d', putP (.list dsn.dropLast) p d0 = some d' ∧ sPop c i fp ds = some (.nx (ds.set i (some d'))) := by
  obtain ⟨d', hd⟩ := put_some (.list dsn.dropLast) c p d0 _ h5
  refine ⟨d', hd, ?_⟩
  unfold sPop
  simp only [h2, h3, h5, hd, h7, if_true]
theorem app_ok (h1 : f ds = some (.ok e)) (h2 : eV i ds = some d0) (h3 : fp ds = some p) (h5 : getP c p d0 = some (.list dsn)) (h7 : dsn.length < 100000) : ∃ d', putP (.list (dsn ++ [e])) p d0 = some d' ∧ sApp c i fp f ds = some (.nx (ds.set i (some d'))) := by
  obtain ⟨d', hd⟩ := put_some (.list (dsn ++ [e])) c p d0 _ h5
  refine ⟨d', hd, ?_⟩
  unfold sApp
  simp only [h1, h2, h3, h5, hd, h7, if_true]
end
theorem ixN_ok {n : Nat} {k : Int} (h0 : 0 ≤ k) (h1 : k < n) : ixN n k = some k.toNat := by
  unfold ixN
  rw [if_pos h0, if_pos h1]

theorem okF_ok {fe : De → Option PyData} {ds : De} {d : PyData} (h : fe ds = some d) : okF fe ds = some (.ok d) := by
  unfold okF
  rw [h]
  rfl
/-! views compared -/
theorem eqvAll_map {A : Type} [DecidableEq A] (f : A → PyData) (hf : ∀ a b, PyData.eqv (f a) (f b) = decide (a = b)) : ∀ xs ys : List A, PyData.eqvAll (xs.map f) (ys.map f) = decide (xs = ys)
  | [], [] => by simp [PyData.eqvAll]
  | [], y :: ys => by simp [PyData.eqvAll]
  | x :: xs, [] => by simp [PyData.eqvAll]
  | x :: xs, y :: ys => by
    simp only [List.map_cons, PyData.eqvAll, hf, eqvAll_map f hf xs ys, List.cons.injEq]
    rw [Bool.eq_iff_iff]
    simp
theorem eqv_lm {A : Type} [DecidableEq A] (f : A → PyData) (hf : ∀ a b, PyData.eqv (f a) (f b) = decide (a = b)) (xs ys : List A) : PyData.eqv (.list (xs.map f)) (.list (ys.map f)) = decide (xs = ys) := by
  rw [PyData.eqv]
  exact eqvAll_map f hf xs ys
theorem eqv_i (a b : Int) : PyData.eqv (.int a) (.int b) = decide (a = b) := by
  rw [eqv_int]
  rfl
theorem eqv_oD (a b : Option Int) : PyData.eqv (oD a) (oD b) = decide (a = b) := by
  cases a <;> cases b <;> simp [oD, PyData.eqv] <;> rfl
theorem eqv_eI (xs ys : List Int) : PyData.eqv (eI xs) (eI ys) = decide (xs = ys) := eqv_lm PyData.int eqv_i xs ys
theorem eqv_row (xs ys : List (Option Int)) : PyData.eqv (rowD xs) (rowD ys) = decide (xs = ys) := eqv_lm oD eqv_oD xs ys
theorem eqv_vD (C C' : List (List (Option Int))) (R R' S S' : List Int) : PyData.eqv (vD C R S) (vD C' R' S') = (decide (C = C') && (decide (R = R') && decide (S = S'))) := by
  unfold vD
  rw [PyData.eqv]
  simp only [PyData.eqvAll, eqv_eI, eqv_lm rowD eqv_row, Bool.and_true]
theorem eqE_ok {a b : PyData} {x : Bool} (ha : okE a = true) (hb : okE b = true) (h : PyData.eqv a b = x) : eqE a b = some (.bool x) := by
  unfold eqE
  rw [if_pos ⟨ha, hb⟩, h]
theorem okE_eI (xs : List Int) : okE (eI xs) = true := okN_eI 59 xs
/-! what a table leaves of a view's cells -/
def maskR (r : List Int) (cs : List (Option Int)) : List (Option Int) := List.zipWith (fun x o => o.map fun _ => x) r cs
def goodC (p : Int × Option Int) : Bool := match p.2 with
  | none => true
  | some j => decide (j = p.1)
theorem good_row : ∀ (r : List Int) (cs : List (Option Int)), r.length = cs.length → (r.zip cs).all goodC = decide (maskR r cs = cs)
  | [], [], _ => rfl
  | x :: r, o :: cs, h => by
    have ih := good_row r cs (by simpa using h)
    rw [List.zip_cons_cons, List.all_cons, ih]
    unfold maskR
    rw [List.zipWith_cons_cons]
    cases o with
    | none => simp [goodC]
    | some j =>
      simp only [goodC, Option.map_some, List.cons.injEq, Option.some.injEq]
      rw [Bool.eq_iff_iff]
      simp only [Bool.and_eq_true, decide_eq_true_eq]
      exact ⟨fun ⟨a, b⟩ => ⟨a.symm, b⟩, fun ⟨a, b⟩ => ⟨a.symm, b⟩⟩
def goodR2 (p : List Int × List (Option Int)) : Bool := decide (p.1.length = p.2.length) && (p.1.zip p.2).all goodC
theorem good_rows (w : Nat) : ∀ (O : List (List Int)) (C : List (List (Option Int))), (∀ r ∈ O, r.length = w) → (∀ r ∈ C, r.length = w) → O.length = C.length → (O.zip C).all goodR2 = decide (List.zipWith maskR O C = C)
  | [], [], _, _, _ => rfl
  | r :: O, cs :: C, h1, h2, h => by
    have ih := good_rows w O C (fun x hx => h1 x (List.mem_cons_of_mem _ hx)) (fun x hx => h2 x (List.mem_cons_of_mem _ hx)) (by simpa using h)
    have e1 := h1 r List.mem_cons_self
    have e2 := h2 cs List.mem_cons_self
    rw [List.zip_cons_cons, List.all_cons, ih, List.zipWith_cons_cons]
    have e3 : goodR2 (r, cs) = decide (maskR r cs = cs) := by
      unfold goodR2
      rw [decide_eq_true (by rw [e1, e2]), Bool.true_and]
      exact good_row r cs (by rw [e1, e2])
    rw [e3]
    rw [Bool.eq_iff_iff]
    simp
theorem view_mask {M O : List (List Int)} {w : Nat} (tm : Tab M w) (to_ : Tab O w) (h : O.length = M.length) (ps : List (Nat × Nat)) : viewC O w ps = List.zipWith maskR O (viewC M w ps) := by
  unfold viewC
  refine List.ext_getElem (by simp [h]) fun i h1 h2 => ?_
  have hi : i < M.length := by
    simp at h1
    omega
  have hO : i < O.length := by omega
  have ro := row_len to_ hO
  have e : O[i] = O.getD i [] := by
    rw [List.getD_eq_getElem?_getD, List.getElem?_eq_getElem hO]
    rfl
  simp only [List.getElem_map, List.getElem_range, List.getElem_zipWith]
  unfold maskR
  rw [e]
  refine List.ext_getElem (by rw [List.length_map, List.length_range, List.length_zipWith, List.length_map, List.length_range, ro, Nat.min_self]) fun j k1 k2 => ?_
  have hj : j < w := by simpa using k1
  simp only [List.getElem_map, List.getElem_range, List.getElem_zipWith]
  have e2 : (O.getD i [])[j]'(by rw [ro]; exact hj) = (O.getD i []).getD j 0 := by
    rw [List.getD_eq_getElem?_getD (l := O.getD i []), List.getElem?_eq_getElem]
    rfl
  rw [e2]
  cases hidB ps i j <;> rfl
/-- whether a table has the view of another -/
def hasB (O : List (List Int)) (w' : Nat) (M : List (List Int)) (w : Nat) (ps : List (Nat × Nat)) : Bool :=
  (decide (O.length = M.length) && decide (w' = w)) && (decide (viewC O w ps = viewC M w ps) && (decide (rowS O = rowS M) && decide (colS O w = colS M w)))
theorem hidL_mem {h w : Nat} {ps : List (Nat × Nat)} {p : Nat × Nat} : p ∈ hidL h w ps ↔ (p.1 < h ∧ p.2 < w) ∧ p ∈ ps := by
  unfold hidL
  rw [List.mem_filter, hid_mem, decide_eq_true_eq]
  constructor
  · exact fun ⟨a, b⟩ => ⟨allP_in a, b⟩
  · exact fun ⟨⟨a, b⟩, c⟩ => ⟨in_allP a b, c⟩
theorem viewC_hid {O : List (List Int)} {w : Nat} (ps : List (Nat × Nat)) : viewC O w (hidL O.length w ps) = viewC O w ps := by
  unfold viewC
  refine List.map_congr_left fun r hr => ?_
  refine List.map_congr_left fun c hc => ?_
  have hr := List.mem_range.mp hr
  have hc := List.mem_range.mp hc
  have e : hidB (hidL O.length w ps) r c = hidB ps r c := by
    rw [hid_mem, hid_mem]
    refine decide_eq_decide.mpr ?_
    rw [hidL_mem]
    exact ⟨fun z => z.2, fun z => ⟨⟨hr, hc⟩, z⟩⟩
  rw [e]
theorem m_has_view {M O : List (List Int)} {w w' : Nat} (tm : Tab M w) (to_ : Tab O w') (ps : List (Nat × Nat)) : M_has_view [eM O, vD (viewC M w ps) (rowS M) (colS M w)] = some (.ok (.bool (hasB O w' M w ps))) := by
  have sh := view_shp tm ps
  have cl : (viewC M w ps).length = M.length := by simp [viewC]
  have nv := need_view_ok tm ps
  have hv := m_hidden_view tm ps
  have h1 := tm.h1
  obtain ⟨q1, q2⟩ := row0 to_
  have c0 : atI ((viewC M w ps).map rowD) 0 = some (rowD ((viewC M w ps).getD 0 [])) ∧ ((viewC M w ps).getD 0 []).length = w := by
    refine ⟨?_, sh.len _ ?_⟩
    · have := atI_n (xs := (viewC M w ps).map rowD) (n := 0)
      rw [show ((0 : Nat) : Int) = 0 from rfl] at this
      rw [this, List.getElem?_map, List.getD_eq_getElem?_getD, List.getElem?_eq_getElem (by omega)]
      rfl
    · rw [List.getD_eq_getElem?_getD, List.getElem?_eq_getElem (by omega)]
      exact List.getElem_mem _
  obtain ⟨c1, c2⟩ := c0
  let V := vD (viewC M w ps) (rowS M) (colS M w)
  have g1 : bOf (e2 neE (eCB lenL (aC (eV 0) aN)) (eCB lenL (aC (eV 2) aN))) [some (eM O), some V, some (.list ((viewC M w ps).map rowD))] = some (!decide ((O.length : Int) = M.length)) := bOf_ok (neL_ok ((len_ok (xs := O.map eI) rfl).trans (by rw [List.length_map])) ((len_ok (xs := (viewC M w ps).map rowD) rfl).trans (by rw [List.length_map, cl])))
  have g2 : bOf (e2 neE (eCB lenL (aC (e2 ixD (eV 0) (eC (.int 0))) aN)) (eCB lenL (aC (e2 ixD (eV 2) (eC (.int 0))) aN))) [some (eM O), some V, some (.list ((viewC M w ps).map rowD))] = some (!decide ((w' : Int) = w)) := bOf_ok (neL_ok ((len_ok (ix_ok (xs := O.map eI) rfl rfl q1)).trans (by rw [List.length_map, q2])) ((len_ok (ix_ok (xs := (viewC M w ps).map rowD) rfl rfl c1)).trans (by rw [List.length_map, c2])))
  refine m_rt rfl (rt_seq (ds1 := [some (eM O), some V, none]) (drop_ok (cR1 rfl (need_yes (tab_of to_)))) (rt_seq (ds1 := [some (eM O), some V, none]) (drop_ok (cR1 rfl nv)) (rt_seq (ds1 := [some (eM O), some V, some (.list ((viewC M w ps).map rowD))]) (asgZ_ok (ixT_ok rfl rfl atI_0)) ?_)))
  have d1 : decide ((O.length : Int) = M.length) = decide (O.length = M.length) := decide_eq_decide.mpr (by omega)
  have d2 : decide ((w' : Int) = w) = decide (w' = w) := decide_eq_decide.mpr (by omega)
  rw [d1] at g1
  rw [d2] at g2
  unfold hasB
  by_cases a1 : O.length = M.length
  · by_cases a2 : w' = w
    · subst a2
      rw [decide_eq_true a1] at g1 ⊢
      rw [decide_eq_true rfl] at g2 ⊢
      refine rt_ifR (x := false) (bOr_f g1 g2) (fun z => nomatch z) fun _ => rt_retF ?_
      have hl : (hidL M.length w' ps).length ≤ 64 := Nat.le_trans (List.length_filter_le _ _) (allP_len tm.h8 tm.w8)
      have nd : (hidL M.length w' ps).Nodup := List.Pairwise.filter _ (allP_nodup _ _)
      have mv := m_view_of to_ (ps := hidL M.length w' ps) (fun p hp => by
        obtain ⟨⟨x, y⟩, _⟩ := hidL_mem.mp hp
        exact ⟨by omega, y⟩) hl nd
      have e : viewC O w' (hidL M.length w' ps) = viewC O w' ps := by
        rw [← a1]
        exact viewC_hid ps
      rw [e] at mv
      refine e2_ok (call2_ok rfl (call1_ok rfl hv) mv) rfl (eqE_ok (okE_vD _ _ _) (okE_vD _ _ _) ?_)
      rw [eqv_vD]
      rfl
    · rw [decide_eq_true a1] at g1
      rw [decide_eq_false a2] at g2 ⊢
      rw [Bool.and_false, Bool.false_and]
      exact rt_ifR (x := true) (bOr_f g1 g2) (fun _ => rt_retF rfl) fun z => nomatch z
  · rw [decide_eq_false a1] at g1 ⊢
    rw [Bool.false_and, Bool.false_and]
    exact rt_ifR (x := true) (bOr_t g1) (fun _ => rt_retF rfl) fun z => nomatch z
theorem forGo_untilA {A : Type} {φ : A → PyData} {good : A → Bool} {os : List Nat} {b : PyData → Option Bd} {body : De → Option GO} {I : De → Prop} {r : PyData} : ∀ (xs : List A) (ds : De), I ds → (∀ ds x, I ds → x ∈ xs → ∃ l, b (φ x) = some l ∧ zeros os l = true ∧
      ((good x = true ∧ ∃ ds', body (bindD ds l) = some (.nx ds') ∧ I ds') ∨ (good x = false ∧ ∃ ds', body (bindD ds l) = some (.rt r ds')))) →
    (xs.all good = true ∧ ∃ ds', forGo os b body (xs.map φ) ds = some (.nx ds') ∧ I ds') ∨ (xs.all good = false ∧ ∃ ds', forGo os b body (xs.map φ) ds = some (.rt r ds'))
  | [], ds, hI, _ => .inl ⟨rfl, ds, rfl, hI⟩
  | x :: xs, ds, hI, h => by
    obtain ⟨l, h1, h2, h3⟩ := h ds x hI List.mem_cons_self
    rcases h3 with ⟨g, ds', e, hI'⟩ | ⟨g, ds', e⟩
    · simp only [List.map_cons, forGo, h1, h2, e, if_true, List.all_cons, g, Bool.true_and]
      exact forGo_untilA xs ds' hI' fun ds y hi hy => h ds y hi (List.mem_cons_of_mem _ hy)
    · refine .inr ⟨by simp [g], ds', ?_⟩
      simp only [List.map_cons, forGo, h1, h2, e, if_true]
theorem sFor_untilA {A : Type} {φ : A → PyData} {good : A → Bool} {os : List Nat} {b : PyData → Option Bd} {body : De → Option GO} {fi : De → Option (List PyData)} {ds : De} {r : PyData} (xs : List A) (I : De → Prop) (hi : fi (hideD os ds) = some (xs.map φ)) (h0 : I ds)
    (h : ∀ ds x, I ds → x ∈ xs → ∃ l, b (φ x) = some l ∧ zeros os l = true ∧ ((good x = true ∧ ∃ ds', body (bindD ds l) = some (.nx ds') ∧ I ds') ∨ (good x = false ∧ ∃ ds', body (bindD ds l) = some (.rt r ds')))) :
    (xs.all good = true ∧ ∃ ds', sFor os b fi body ds = some (.nx ds') ∧ I ds') ∨ (xs.all good = false ∧ ∃ ds', sFor os b fi body ds = some (.rt r ds')) := by
  unfold sFor
  rw [hi]
  exact forGo_untilA xs ds h0 h
theorem bAnd_ok {f g : De → Option Bool} {ds : De} {a b : Bool} (h : f ds = some a) (k : g ds = some b) : bAnd f g ds = some (a && b) := by
  unfold bAnd
  rw [h]
  cases a
  · rfl
  · exact k
noncomputable def hasIn : De → Option GO := (sFor [0, 0, 0, 0, 0, 0] (bTup 2 (bCons (bName 4) (bCons (bName 5) bNil))) (itZ (aC (eV 2) (aC (eV 3) aN))) (sIf (bOr (bNot (bOf (eCB (okOf M__law_whole) (aC (eV 4) aN)))) (bOr (bOf (e2 ltI (eV 4) (eC (.int 0)))) (bAnd (bOf (e2 notND (eV 5) (eC .none))) (bOf (e2 neE (eV 5) (eV 4)))))) (sRetZ [0, 0, 0, 0, 0, 0] (okF (eC (.bool false)))) sNx))
theorem has_in (t v : PyData) (r : List Int) (cs : List (Option Int)) (hr : ∀ x ∈ r, 0 ≤ x) (a b : Option PyData) : ((r.zip cs).all goodC = true ∧ ∃ a' b', hasIn [some t, some v, some (eI r), some (rowD cs), a, b] = some (.nx [some t, some v, some (eI r), some (rowD cs), a', b'])) ∨ ((r.zip cs).all goodC = false ∧ ∃ ds', hasIn [some t, some v, some (eI r), some (rowD cs), a, b] = some (.rt (.bool false) ds')) := by
  have q := sFor_untilA (os := [0, 0, 0, 0, 0, 0]) (b := bTup 2 (bCons (bName 4) (bCons (bName 5) bNil))) (fi := itZ (aC (eV 2) (aC (eV 3) aN))) (body := sIf (bOr (bNot (bOf (eCB (okOf M__law_whole) (aC (eV 4) aN)))) (bOr (bOf (e2 ltI (eV 4) (eC (.int 0)))) (bAnd (bOf (e2 notND (eV 5) (eC .none))) (bOf (e2 neE (eV 5) (eV 4)))))) (sRetZ [0, 0, 0, 0, 0, 0] (okF (eC (.bool false)))) sNx)
    (ds := [some t, some v, some (eI r), some (rowD cs), a, b]) (r := .bool false) (good := goodC) (φ := fun p : Int × Option Int => .tuple [.int p.1, oD p.2]) (r.zip cs) (fun ds => ∃ a' b', ds = [some t, some v, some (eI r), some (rowD cs), a', b']) ?_ ⟨a, b, rfl⟩ ?_
  · rcases q with ⟨g, ds', e, a', b', rfl⟩ | ⟨g, ds', e⟩
    · exact .inl ⟨g, a', b', e⟩
    · exact .inr ⟨g, ds', e⟩
  · show some (zipD (r.map PyData.int) (cs.map oD)) = _
    unfold zipD
    rw [List.zip_map, List.map_map]
    rfl
  · rintro ds ⟨x, o⟩ ⟨a', b', rfl⟩ hx
    have x0 := hr x (List.of_mem_zip hx).1
    refine ⟨[(4, .int x), (5, oD o)], rfl, rfl, ?_⟩
    have lt : bOf (e2 ltI (eV 4) (eC (.int 0))) [some t, some v, some (eI r), some (rowD cs), some (.int x), some (oD o)] = some false := (bOf_ok (e2_ok rfl rfl rfl)).trans (by rw [decide_eq_false (by omega)])
    cases o with
    | none => exact .inl ⟨rfl, _, (if_f (bOr_f (x := false) rfl (bOr_f (x := false) lt rfl))).trans rfl, _, _, rfl⟩
    | some j =>
      have ne : bAnd (bOf (e2 notND (eV 5) (eC .none))) (bOf (e2 neE (eV 5) (eV 4))) [some t, some v, some (eI r), some (rowD cs), some (.int x), some (.int j)] = some (true && !decide (j = x)) := bAnd_ok rfl (bOf_ok (neL_ok rfl rfl))
      by_cases z : j = x
      · rw [decide_eq_true z] at ne
        exact .inl ⟨decide_eq_true z, _, (if_f (bOr_f (x := false) rfl (bOr_f (x := false) lt ne))).trans rfl, _, _, rfl⟩
      · rw [decide_eq_false z] at ne
        exact .inr ⟨decide_eq_false z, _, (if_t (bOr_f (x := true) rfl (bOr_f (x := true) lt ne))).trans rfl⟩
theorem m_law_has {M O : List (List Int)} {w w' : Nat} (tm : Tab M w) (to_ : Tab O w') (ps : List (Nat × Nat)) : M__law_has [eM O, vD (viewC M w ps) (rowS M) (colS M w)] = some (.ok (.bool (hasB O w' M w ps))) := by
  have sh := view_shp tm ps
  have cl : (viewC M w ps).length = M.length := by simp [viewC]
  have o8 := to_.h8
  have o1 := to_.h1
  have m1 := tm.h1
  let V := vD (viewC M w ps) (rowS M) (colS M w)
  have g1 : bOf (e2 neE (eCB lenL (aC (eV 0) aN)) (eCB lenL (aC (e2 ixD (eV 1) (eC (.int 0))) aN))) (startD 6 [eM O, V]) = some (!decide ((O.length : Int) = M.length)) := bOf_ok (neL_ok ((len_ok (xs := O.map eI) rfl).trans (by rw [List.length_map])) ((len_ok (xs := (viewC M w ps).map rowD) (ixT_ok rfl rfl atI_0)).trans (by rw [List.length_map, cl])))
  have d1 : decide ((O.length : Int) = M.length) = decide (O.length = M.length) := decide_eq_decide.mpr (by omega)
  rw [d1] at g1
  by_cases a1 : O.length = M.length
  · rw [decide_eq_true a1] at g1
    refine m_rt rfl (rt_seq (ds1 := [some (eM O), some V, none, none, none, none]) ((if_f (bOr_f (x := false) rfl g1)).trans rfl) ?_)
    have loop := sFor_untilA (os := [0, 0, 0, 0, 0, 0]) (b := bTup 2 (bCons (bName 2) (bCons (bName 3) bNil))) (fi := itZ (aC (eV 0) (aC (e2 ixD (eV 1) (eC (.int 0))) aN))) (body := sSeq (sIf (bOr (bNot (bOf (isiF "list" (eV 2)))) (bOf (e2 neE (eCB lenL (aC (eV 2) aN)) (eCB lenL (aC (eV 3) aN))))) (sRetZ [0, 0, 0, 0, 0, 0] (okF (eC (.bool false)))) sNx) hasIn)
      (ds := [some (eM O), some V, none, none, none, none]) (r := .bool false) (good := goodR2) (φ := fun p : List Int × List (Option Int) => .tuple [eI p.1, rowD p.2]) (O.zip (viewC M w ps)) (fun ds => ∃ a b c d, ds = [some (eM O), some V, a, b, c, d]) ?_ ⟨_, _, _, _, rfl⟩ ?_
    · rcases loop with ⟨g, ds', e, a, b, c, d, rfl⟩ | ⟨g, ds', e⟩
      · -- all rows good: so they are as wide
        have wide : w' = w := by
          have h0 : ((O.getD 0 []), ((viewC M w ps).getD 0 [])) ∈ O.zip (viewC M w ps) := by
            have hl : 0 < (O.zip (viewC M w ps)).length := by rw [List.length_zip, cl]; omega
            have e0 : (O.zip (viewC M w ps))[0] = ((O.getD 0 []), ((viewC M w ps).getD 0 [])) := by
              rw [List.getElem_zip, List.getD_eq_getElem?_getD, List.getElem?_eq_getElem (by omega), List.getD_eq_getElem?_getD, List.getElem?_eq_getElem (by omega)]
              rfl
            rw [← e0]
            exact List.getElem_mem _
          have g0 := List.all_eq_true.mp g _ h0
          have l1 := to_.len _ (List.of_mem_zip h0).1
          have l2 := sh.len _ (List.of_mem_zip h0).2
          have l3 := of_decide_eq_true ((Bool.and_eq_true _ _).mp g0).1
          simp only at l1 l2 l3
          omega
        subst wide
        have gm := good_rows w' O (viewC M w' ps) to_.len sh.len (by rw [cl]; exact a1)
        rw [g, ← view_mask tm to_ a1] at gm
        refine rt_seq e (rt_retF ?_)
        unfold hasB
        rw [decide_eq_true a1, decide_eq_true rfl, ← gm, Bool.true_and, Bool.true_and, Bool.true_and]
        have sums : eLc [2] (bName 2) (itA (eV 0)) (fun _ => some true) (eCB sumL (aC (eV 2) aN)) [some (eM O), some V, a, b, c, d] = some (eI (rowS O)) := (eLc_mapA O (φ := eI) (g := fun r => .int r.sum) rfl (by omega) fun r hr => ⟨[some (eM O), some V, some (eI r), b, c, d], rfl, rfl, cb1_ok rfl (sumL_ints r)⟩).trans (by
          unfold eI rowS
          rw [List.map_map]
          rfl)
        have r1 : e2 eqE (eLc [2] (bName 2) (itA (eV 0)) (fun _ => some true) (eCB sumL (aC (eV 2) aN))) (e2 ixD (eV 1) (eC (.int 1))) [some (eM O), some V, a, b, c, d] = some (.bool (decide (rowS O = rowS M))) := e2_ok sums (ixT_ok rfl rfl atI_1) (eqE_ok (okE_eI _) (okE_eI _) (eqv_eI _ _))
        have r2 : e2 eqE (eCB (okOf M__law_column_sums) (aC (eV 0) aN)) (e2 ixD (eV 1) (eC (.int 2))) [some (eM O), some V, a, b, c, d] = some (.bool (decide (colS O w' = colS M w'))) := e2_ok (call1_ok rfl (m_law_column_sums to_)) (ixT_ok rfl rfl atI_2) (eqE_ok (okE_eI _) (okE_eI _) (eqv_eI _ _))
        simp only [hideD]
        cases z : decide (rowS O = rowS M) with
        | false =>
          rw [z] at r1
          exact (and_f r1).trans (by rw [Bool.false_and])
        | true =>
          rw [z] at r1
          exact (and_t r1 r2).trans (by rw [Bool.true_and])
      · have no : hasB O w' M w ps = false := by
          unfold hasB
          by_cases a2 : w' = w
          · subst a2
            have gm := good_rows w' O (viewC M w' ps) to_.len sh.len (by rw [cl]; exact a1)
            rw [g, ← view_mask tm to_ a1] at gm
            rw [← gm, Bool.false_and, Bool.and_false]
          · rw [decide_eq_false a2, Bool.and_false, Bool.false_and]
        rw [no]
        exact rt_seqR ⟨ds', e⟩
    · show some (zipD (O.map eI) ((viewC M w ps).map rowD)) = _
      unfold zipD
      rw [List.zip_map, List.map_map]
      rfl
    · rintro ds ⟨r, cs⟩ ⟨a, b, c, d, rfl⟩ hx
      have hr := (List.of_mem_zip hx).1
      refine ⟨[(2, eI r), (3, rowD cs)], rfl, rfl, ?_⟩
      have ne : bOf (e2 neE (eCB lenL (aC (eV 2) aN)) (eCB lenL (aC (eV 3) aN))) [some (eM O), some V, some (eI r), some (rowD cs), c, d] = some (!decide ((r.length : Int) = cs.length)) := bOf_ok (neL_ok (eI_ok rfl) ((len_ok (xs := cs.map oD) rfl).trans (by rw [List.length_map])))
      have d2 : decide ((r.length : Int) = cs.length) = decide (r.length = cs.length) := decide_eq_decide.mpr (by omega)
      rw [d2] at ne
      show (goodR2 (r, cs) = true ∧ _) ∨ (goodR2 (r, cs) = false ∧ _)
      unfold goodR2
      by_cases z : r.length = cs.length
      · rw [decide_eq_true z] at ne ⊢
        rw [Bool.true_and]
        rcases has_in (eM O) V r cs (to_.pos r hr) c d with ⟨g, a', b', e⟩ | ⟨g, ds', e⟩
        · exact .inl ⟨g, _, sSeq_nx ((if_f (bOr_f (x := false) rfl ne)).trans rfl) e, _, _, _, _, rfl⟩
        · exact .inr ⟨g, _, sSeq_nx ((if_f (bOr_f (x := false) rfl ne)).trans rfl) e⟩
      · rw [decide_eq_false z] at ne ⊢
        rw [Bool.false_and]
        exact .inr ⟨rfl, _, sSeq_rt ((if_t (bOr_f (x := true) rfl ne)).trans rfl)⟩
  · rw [decide_eq_false a1] at g1
    have no : hasB O w' M w ps = false := by
      unfold hasB
      rw [decide_eq_false a1, Bool.false_and, Bool.false_and]
    rw [no]
    exact m_rt rfl (rt_seqR ⟨_, (if_t (bOr_f (x := true) rfl g1)).trans rfl⟩)
/-! changes of a table -/
structure Box (M : List (List Int)) (w : Nat) : Prop where
  h1 : 1 ≤ M.length
  h8 : M.length ≤ 8
  w1 : 1 ≤ w
  w8 : w ≤ 8
  len : ∀ r ∈ M, r.length = w
def getM (M : List (List Int)) (i j : Nat) : Int := (M.getD i []).getD j 0
def putM (M : List (List Int)) (i j : Nat) (z : Int) : List (List Int) := M.set i ((M.getD i []).set j z)
theorem tab_box {M : List (List Int)} {w : Nat} (t : Tab M w) : Box M w := ⟨t.h1, t.h8, t.w1, t.w8, t.len⟩
theorem box_row {M : List (List Int)} {w i : Nat} (b : Box M w) (h : i < M.length) : (M.getD i []).length = w := b.len _ (by
  rw [List.getD_eq_getElem?_getD, List.getElem?_eq_getElem h]
  exact List.getElem_mem _)
theorem Box.tab {M : List (List Int)} {w : Nat} (b : Box M w) (h : ∀ i j, i < M.length → j < w → 0 ≤ getM M i j) : Tab M w := ⟨b.h1, b.h8, b.w1, b.w8, b.len, fun r hr x hx => by
  obtain ⟨i, hi, rfl⟩ := List.getElem_of_mem hr
  obtain ⟨j, hj, rfl⟩ := List.getElem_of_mem hx
  have q := h i j hi (by rw [← b.len _ hr]; exact hj)
  unfold getM at q
  have e : M.getD i [] = M[i] := by
    rw [List.getD_eq_getElem?_getD, List.getElem?_eq_getElem hi]
    rfl
  rw [e] at q
  rw [List.getD_eq_getElem?_getD, List.getElem?_eq_getElem hj] at q
  exact q⟩
theorem tab_get {M : List (List Int)} {w i j : Nat} (t : Tab M w) : 0 ≤ getM M i j := by
  unfold getM
  by_cases hi : i < M.length
  · have hm : M.getD i [] ∈ M := by
      rw [List.getD_eq_getElem?_getD, List.getElem?_eq_getElem hi]
      exact List.getElem_mem _
    generalize M.getD i [] = r at hm
    rw [List.getD_eq_getElem?_getD]
    cases q : r[j]? with
    | none => exact Int.le_refl _
    | some x => exact t.pos r hm x (List.mem_of_getElem? q)
  · rw [show M.getD i [] = [] by rw [List.getD_eq_getElem?_getD, List.getElem?_eq_none (by omega)]; rfl]
    simp
theorem putM_len {M : List (List Int)} {i j : Nat} {z : Int} : (putM M i j z).length = M.length := List.length_set ..
theorem box_put {M : List (List Int)} {w i j : Nat} {z : Int} (b : Box M w) (hi : i < M.length) : Box (putM M i j z) w := ⟨by rw [putM_len]; exact b.h1, by rw [putM_len]; exact b.h8, b.w1, b.w8, fun r hr => by
  rcases List.mem_or_eq_of_mem_set hr with h | h
  · exact b.len r h
  · rw [h, List.length_set]
    exact box_row b hi⟩
theorem get_put {M : List (List Int)} {w i j : Nat} {z : Int} (b : Box M w) (hi : i < M.length) (hj : j < w) (a c : Nat) : getM (putM M i j z) a c = if a = i ∧ c = j then z else getM M a c := by
  have rl := box_row b hi
  unfold getM putM
  by_cases ha : a = i
  · subst ha
    have e : (M.set a ((M.getD a []).set j z)).getD a [] = (M.getD a []).set j z := by
      rw [List.getD_eq_getElem?_getD (l := M.set _ _), List.getElem?_set_self hi]
      rfl
    rw [e]
    by_cases hc : c = j
    · subst hc
      rw [if_pos ⟨rfl, rfl⟩]
      rw [List.getD_eq_getElem?_getD (l := (M.getD a []).set c z), List.getElem?_set_self (by rw [rl]; exact hj)]
      rfl
    · rw [if_neg (fun x => hc x.2), List.getD_eq_getElem?_getD (l := (M.getD a []).set j z), List.getElem?_set_ne (fun x => hc x.symm), ← List.getD_eq_getElem?_getD]
  · rw [if_neg (fun x => ha x.1), List.getD_eq_getElem?_getD (l := M.set _ _), List.getElem?_set_ne (fun x => ha x.symm), ← List.getD_eq_getElem?_getD]
theorem put_eM {M : List (List Int)} {w a b : Nat} {ka z : Int} (bx : Box M w) (ha : ixN M.length ka = some a) (hl : a < M.length) : putP (.list (((M.getD a []).map PyData.int).set b (.int z))) [ka] (eM M) = some (eM (putM M a b z)) := by
  unfold eM
  simp only [putP, List.length_map, ha]
  rw [List.getElem?_map, List.getElem?_eq_getElem hl]
  simp only [Option.map_some]
  unfold putM eI
  rw [List.map_set]
  show some (PyData.list ((M.map eI).set a (.list (((M.getD a []).map PyData.int).set b (.int z))))) = some (PyData.list ((M.map eI).set a (.list (((M.getD a []).set b z).map PyData.int))))
  rw [List.map_set]
theorem setM_ok {cc i : Nat} {fp : De → Option (List Int)} {fk : De → Option PyData} {f : De → Option Ob} {ds : De} {M : List (List Int)} {w a b : Nat} {ka kb z : Int} (hcc : cc = 3 ∨ cc = 13) (bx : Box M w) (ha : ixN M.length ka = some a) (hl : a < M.length) (hb : ixN w kb = some b) (hw : b < w) (h1 : f ds = some (.ok (.int z)))
    (h2 : eV i ds = some (eM M)) (h3 : fp ds = some [ka]) (h4 : fk ds = some (.int kb)) : sSetP cc i fp fk f ds = some (.nx (ds.set i (some (eM (putM M a b z))))) := by
  have rl := box_row bx hl
  have g : getP cc [ka] (eM M) = some (.list ((M.getD a []).map PyData.int)) := by
    have at_ : atI (M.map eI) ka = some (eI (M.getD a [])) := by
      unfold atI
      rw [List.length_map, ha]
      show (M.map eI)[a]? = _
      rw [List.getElem?_map, List.getD_eq_getElem?_getD, List.getElem?_eq_getElem hl]
      rfl
    rcases hcc with rfl | rfl <;>
    · show (match atI (M.map eI) ka with | some x => getP _ [] x | none => none) = _
      rw [at_]
      rfl
  obtain ⟨d', p1, p2⟩ := setP_ok h1 h2 h3 h4 g (by rw [List.length_map, rl]; exact hb) (by rw [List.length_map, rl]; exact hw)
  rw [put_eM bx ha hl] at p1
  cases p1
  exact p2
theorem ixN_nat {n a : Nat} (h : a < n) : ixN n (a : Int) = some a := by
  unfold ixN
  rw [if_pos (Int.natCast_nonneg a), if_pos (by omega)]
  rfl
theorem cellM_ok {fe f1 f2 : De → Option PyData} {ds : De} {M : List (List Int)} {w a b : Nat} (bx : Box M w) (h : fe ds = some (eM M)) (h1 : f1 ds = some (.int (a : Int))) (h2 : f2 ds = some (.int (b : Int))) (hl : a < M.length) (hw : b < w) : e2 ixD (e2 ixD fe f1) f2 ds = some (.int (getM M a b)) :=
  ix_ok (ix_ok (xs := M.map eI) h h1 (eM_at hl)) h2 (int_at (by rw [box_row bx hl]; exact hw))
theorem flt_ok {f : De → Option PyData} {ds : De} {i : Int} (h : f ds = some (.int i)) : fltR (okF f) ds = some (.ok (.int i)) := by
  unfold fltR okF
  rw [h]
  rfl
theorem least2_le (i j : Int) : least2 i j ≤ i ∧ least2 i j ≤ j ∧ (least2 i j = i ∨ least2 i j = j) := by
  unfold least2
  split <;> omega
/-- what a rectangle makes of a table -/
def rect (M : List (List Int)) (r o c l : Nat) (by_ : Int) : List (List Int) :=
  let M1 := putM M r c (getM M r c - by_)
  let M2 := putM M1 o l (getM M1 o l - by_)
  let M3 := putM M2 r l (getM M2 r l + by_)
  putM M3 o c (getM M3 o c + by_)
theorem rect_tab {M : List (List Int)} {w r o c l : Nat} {by_ : Int} (t : Tab M w) (hr : r < M.length) (ho : o < M.length) (hc : c < w) (hl : l < w) (b0 : 0 ≤ by_) (b1 : by_ ≤ getM M r c) (b2 : by_ ≤ getM M o l) : Tab (rect M r o c l by_) w ∧ (rect M r o c l by_).length = M.length := by
  have x0 := (tab_box t)
  have x1 := box_put (j := c) (z := getM M r c - by_) x0 hr
  have n1 : (putM M r c (getM M r c - by_)).length = M.length := putM_len
  unfold rect
  simp only
  generalize h1 : putM M r c (getM M r c - by_) = M1 at x1 n1
  have g1 := get_put (z := getM M r c - by_) x0 hr hc
  rw [h1] at g1
  have x2 := box_put (j := l) (z := getM M1 o l - by_) x1 (by omega : o < M1.length)
  have n2 : (putM M1 o l (getM M1 o l - by_)).length = M1.length := putM_len
  generalize h2 : putM M1 o l (getM M1 o l - by_) = M2 at x2 n2
  have g2 := get_put (z := getM M1 o l - by_) x1 (by omega : o < M1.length) hl
  rw [h2] at g2
  have x3 := box_put (j := l) (z := getM M2 r l + by_) x2 (by omega : r < M2.length)
  have n3 : (putM M2 r l (getM M2 r l + by_)).length = M2.length := putM_len
  generalize h3 : putM M2 r l (getM M2 r l + by_) = M3 at x3 n3
  have g3 := get_put (z := getM M2 r l + by_) x2 (by omega : r < M2.length) hl
  rw [h3] at g3
  have x4 := box_put (j := c) (z := getM M3 o c + by_) x3 (by omega : o < M3.length)
  have n4 : (putM M3 o c (getM M3 o c + by_)).length = M3.length := putM_len
  have g4 := get_put (z := getM M3 o c + by_) x3 (by omega : o < M3.length) hc
  refine ⟨x4.tab fun i j _ _ => ?_, by omega⟩
  rw [g4, g3 o c, g3 i j, g2 r l, g2 o c, g2 i j, g1 o l, g1 r l, g1 o c, g1 i j]
  have p0 : 0 ≤ getM M i j := tab_get t
  have p1 : 0 ≤ getM M r l := tab_get t
  have p2 : 0 ≤ getM M o c := tab_get t
  clear g1 g2 g3 g4 h1 h2 h3
  by_cases e1 : r = o
  · subst e1
    by_cases e2 : c = l
    · subst e2
      by_cases e3 : i = r <;> by_cases e4 : j = c <;> simp [e3, e4] <;> subst_vars <;> omega
    · have e2' : ¬ l = c := fun z => e2 z.symm
      by_cases e3 : i = r <;> by_cases e4 : j = c <;> by_cases e5 : j = l <;> simp [e2, e2', e3, e4, e5] <;> subst_vars <;> first | omega | (simp_all; omega) | simp_all
  · have e1' : ¬ o = r := fun z => e1 z.symm
    by_cases e2 : c = l
    · subst e2
      by_cases e3 : i = r <;> by_cases e6 : i = o <;> by_cases e4 : j = c <;> simp [e1, e1', e3, e4, e6] <;> subst_vars <;> first | omega | (simp_all; omega) | simp_all
    · have e2' : ¬ l = c := fun z => e2 z.symm
      by_cases e3 : i = r <;> by_cases e6 : i = o <;> by_cases e4 : j = c <;> by_cases e5 : j = l <;> simp [e1, e1', e2, e2', e3, e4, e5, e6] <;> subst_vars <;> first | omega | (simp_all; omega) | simp_all
theorem cb_ok {opl : List PyData → Option PyData} {fa : De → Option (List PyData)} {ds : De} {es : List PyData} {d : PyData} (h : fa ds = some es) (hm : opl es = some d) : eCB opl fa ds = some d := by
  unfold eCB
  rw [h]
  exact hm
theorem md_len {fe fk : De → Option PyData} {ds : De} {a : Int} {n : Nat} (h : fe ds = some (.int a)) (k : fk ds = some (.int (n : Int))) (hn : 0 < n) : ∃ i : Nat, i < n ∧ FX.e2 modI fe fk ds = some (.int (i : Int)) := by
  have p : (0 : Int) < (n : Int) := by omega
  have q0 : 0 ≤ a % (n : Int) := Int.emod_nonneg _ (by omega)
  have q1 : a % (n : Int) < n := Int.emod_lt_of_pos _ p
  refine ⟨(a % (n : Int)).toNat, by omega, e2_ok h k ?_⟩
  show (if (0 : Int) < (n : Int) then some (PyData.int (a % (n : Int))) else none) = _
  rw [if_pos p]
  congr 2
  omega
theorem md_ok {fe : De → Option PyData} {ds : De} {a b : Int} (h : fe ds = some (.int a)) (hb : 0 < b) : FX.e2 modI fe (eC (.int b)) ds = some (.int (a % b)) := e2_ok h rfl (by
  show (if 0 < b then some (PyData.int (a % b)) else none) = _
  rw [if_pos hb])
theorem dv_ok {fe : De → Option PyData} {ds : De} {a b : Int} (h : fe ds = some (.int a)) (hb : 0 < b ∧ b < 1073741824) : FX.e2 divI fe (eC (.int b)) ds = some (.int (a / b)) := e2_ok h rfl (by
  show (if 0 < b ∧ b < 1073741824 then some (PyData.int (a / b)) else none) = _
  rw [if_pos hb])
theorem lenM_ok {fe : De → Option PyData} {ds : De} {M : List (List Int)} (h : fe ds = some (eM M)) : eCB lenL (aC fe aN) ds = some (.int (M.length : Int)) := (len_ok (xs := M.map eI) h).trans (by rw [List.length_map])
theorem wideM_ok {fe : De → Option PyData} {ds : De} {M : List (List Int)} {w : Nat} (bx : Box M w) (h : fe ds = some (eM M)) : eCB lenL (aC (e2 ixD fe (eC (.int 0))) aN) ds = some (.int (w : Int)) := by
  have h1 := bx.h1
  exact (len_ok (ix_ok (xs := M.map eI) (i := ((0 : Nat) : Int)) h rfl (eM_at (by omega)))).trans (by rw [List.length_map, box_row bx (by omega)])
theorem onlyM_nx {n m np : Nat} {B : De → Option GO} {es : List PyData} {ds : De} {e : PyData} (hl : es.length = np) (h : B (startD n es) = some (.nx ds)) (he : eV m ds = some e) : onlyM np (runM n m B) es = some (.none, e) := by
  unfold onlyM runM
  rw [if_pos hl, h]
  show (eV m ds).map _ = _
  rw [he]
  rfl
theorem m_law_rectangle (ns : List Int) (hn : ns.length ≤ 63) {M : List (List Int)} {w : Nat} (t : Tab M w) (k : Int) (hk : 0 ≤ k) : ∃ M', M__law_rectangle [eI ns, eM M, .int k] = some (.none, eM M') ∧ Tab M' w ∧ M'.length = M.length := by
  have bx := tab_box t
  have h1 := t.h1
  have w1 := t.w1
  have mx : ∀ j : Int, 0 ≤ j → M__law_mix [eI ns, .int (k + j)] = some (.ok (.int (mix ns (k + j)))) := fun j hj => m_law_mix ns (k + j) hn (by omega)
  have m0 := m_law_mix ns k hn hk
  let D : Option PyData → Option PyData → Option PyData → Option PyData → Option PyData → List (List Int) → De := fun a b c d e T => [some (eI ns), some (eM T), some (.int k), a, b, c, d, e]
  have pk : ∀ (j : Int) (a b c d e : Option PyData) (T : List (List Int)), e2 plusD (eV 2) (eC (.int j)) (D a b c d e T) = some (.int (k + j)) := fun j a b c d e T => rfl
  obtain ⟨r, hr, s3⟩ := md_len (fe := eCB (okOf M__law_mix) (aC (eV 0) (aC (eV 2) aN))) (fk := eCB lenL (aC (eV 1) aN)) (ds := D none none none none none M) (call2_ok rfl rfl m0) (lenM_ok rfl) (by omega : 0 < M.length)
  obtain ⟨o, ho, s4⟩ := md_len (fe := eCB (okOf M__law_mix) (aC (eV 0) (aC (e2 plusD (eV 2) (eC (.int 1))) aN))) (fk := eCB lenL (aC (eV 1) aN)) (ds := D (some (.int r)) none none none none M) (call2_ok rfl (pk 1 _ _ _ _ _ _) (mx 1 (by decide))) (lenM_ok rfl) (by omega : 0 < M.length)
  obtain ⟨c, hc, s5⟩ := md_len (fe := eCB (okOf M__law_mix) (aC (eV 0) (aC (e2 plusD (eV 2) (eC (.int 2))) aN))) (fk := eCB lenL (aC (e2 ixD (eV 1) (eC (.int 0))) aN)) (ds := D (some (.int r)) (some (.int o)) none none none M) (call2_ok rfl (pk 2 _ _ _ _ _ _) (mx 2 (by decide))) (wideM_ok bx rfl) (by omega : 0 < w)
  obtain ⟨l, hl, s6⟩ := md_len (fe := eCB (okOf M__law_mix) (aC (eV 0) (aC (e2 plusD (eV 2) (eC (.int 3))) aN))) (fk := eCB lenL (aC (e2 ixD (eV 1) (eC (.int 0))) aN)) (ds := D (some (.int r)) (some (.int o)) (some (.int c)) none none M) (call2_ok rfl (pk 3 _ _ _ _ _ _) (mx 3 (by decide))) (wideM_ok bx rfl) (by omega : 0 < w)
  obtain ⟨q, hq⟩ : ∃ q : Int, q = 1 + mix ns (k + 4) % 3 := ⟨_, rfl⟩
  have q1 : 0 ≤ q := by omega
  obtain ⟨by_, hby⟩ : ∃ z, z = least2 (least2 (getM M r c) (getM M o l)) q := ⟨_, rfl⟩
  have p1 : 0 ≤ getM M r c := tab_get t
  have p2 : 0 ≤ getM M o l := tab_get t
  obtain ⟨a1, a2, a3⟩ := least2_le (getM M r c) (getM M o l)
  obtain ⟨a4, a5, a6⟩ := least2_le (least2 (getM M r c) (getM M o l)) q
  rw [← hby] at a4 a5 a6
  have rt := rect_tab t hr ho hc hl (by omega) (by omega : by_ ≤ getM M r c) (by omega : by_ ≤ getM M o l)
  have s7 : eCB min3L (aC (e2 ixD (e2 ixD (eV 1) (eV 3)) (eV 5)) (aC (e2 ixD (e2 ixD (eV 1) (eV 4)) (eV 6)) (aC (e2 plusD (eC (.int 1)) (e2 modI (eCB (okOf M__law_mix) (aC (eV 0) (aC (e2 plusD (eV 2) (eC (.int 4))) aN))) (eC (.int 3)))) aN))) (D (some (.int r)) (some (.int o)) (some (.int c)) (some (.int l)) none M) = some (.int by_) := by
    have e1 : e2 plusD (eC (.int 1)) (e2 modI (eCB (okOf M__law_mix) (aC (eV 0) (aC (e2 plusD (eV 2) (eC (.int 4))) aN))) (eC (.int 3))) (D (some (.int r)) (some (.int o)) (some (.int c)) (some (.int l)) none M) = some (.int q) := by
      rw [hq]
      exact e2_ok rfl (md_ok (call2_ok rfl (pk 4 _ _ _ _ _ _) (mx 4 (by decide))) (by decide)) rfl
    rw [hby]
    exact cb_ok (aC_ok (cellM_ok (fe := eV 1) (f1 := eV 3) (f2 := eV 5) bx rfl rfl rfl hr hc) (aC_ok (cellM_ok (fe := eV 1) (f1 := eV 4) (f2 := eV 6) bx rfl rfl rfl ho hl) (aC_ok e1 rfl))) rfl
  have b1 := box_put (j := c) (z := getM M r c - by_) bx hr
  have n1 : (putM M r c (getM M r c - by_)).length = M.length := putM_len
  refine ⟨rect M r o c l by_, onlyM_nx (ds := D (some (.int r)) (some (.int o)) (some (.int c)) (some (.int l)) (some (.int by_)) (rect M r o c l by_)) rfl ?_ rfl, rt.1, rt.2⟩
  refine sSeq_nx (asgF_ok s3 rfl) (sSeq_nx (asgF_ok s4 rfl) (sSeq_nx (asgF_ok s5 rfl) (sSeq_nx (asgF_ok s6 rfl) (sSeq_nx (asgF_ok s7 rfl) ?_))))
  unfold rect
  simp only
  generalize h1 : putM M r c (getM M r c - by_) = M1 at b1 n1
  have b2 := box_put (j := l) (z := getM M1 o l - by_) b1 (by omega : o < M1.length)
  have n2 : (putM M1 o l (getM M1 o l - by_)).length = M1.length := putM_len
  generalize h2 : putM M1 o l (getM M1 o l - by_) = M2 at b2 n2
  have b3 := box_put (j := l) (z := getM M2 r l + by_) b2 (by omega : r < M2.length)
  have n3 : (putM M2 r l (getM M2 r l + by_)).length = M2.length := putM_len
  generalize h3 : putM M2 r l (getM M2 r l + by_) = M3 at b3 n3
  let E : List (List Int) → De := fun T => [some (eI ns), some (eM T), some (.int k), some (.int r), some (.int o), some (.int c), some (.int l), some (.int by_)]
  refine sSeq_nx (ds1 := E M1) ?_ (sSeq_nx (ds1 := E M2) ?_ (sSeq_nx (ds1 := E M3) ?_ ?_))
  · rw [← h1]
    exact setM_ok (.inr rfl) bx (ixN_nat hr) hr (ixN_nat hc) hc (flt_ok (e2_ok (cellM_ok (fe := eV 1) (f1 := eV 3) (f2 := eV 5) bx rfl rfl rfl hr hc) rfl rfl)) rfl rfl rfl
  · rw [← h2]
    exact setM_ok (ds := E M1) (.inr rfl) b1 (ixN_nat (by omega : o < M1.length)) (by omega) (ixN_nat hl) hl (flt_ok (e2_ok (cellM_ok (fe := eV 1) (f1 := eV 4) (f2 := eV 6) b1 rfl rfl rfl (by omega) hl) rfl rfl)) rfl rfl rfl
  · rw [← h3]
    exact setM_ok (ds := E M2) (.inr rfl) b2 (ixN_nat (by omega : r < M2.length)) (by omega) (ixN_nat hl) hl (flt_ok (e2_ok (cellM_ok (fe := eV 1) (f1 := eV 3) (f2 := eV 6) b2 rfl rfl rfl (by omega) hl) rfl rfl)) rfl rfl rfl
  · exact setM_ok (ds := E M3) (.inr rfl) b3 (ixN_nat (by omega : o < M3.length)) (by omega) (ixN_nat hc) hc (flt_ok (e2_ok (cellM_ok (fe := eV 1) (f1 := eV 4) (f2 := eV 5) b3 rfl rfl rfl (by omega) hc) rfl rfl)) rfl rfl rfl
theorem ixN_ok' {n : Nat} {k : Int} (h0 : -1 ≤ k) (h1 : k < n) (hn : 0 < n) : ∃ a, ixN n k = some a ∧ a < n := by
  unfold ixN
  by_cases h : 0 ≤ k
  · rw [if_pos h, if_pos h1]
    exact ⟨_, rfl, by omega⟩
  · rw [if_neg h]
    have e : k = -1 := by omega
    subst e
    first
      | (rw [if_pos (by omega)]; exact ⟨_, rfl, by omega⟩)
      | exact ⟨_, rfl, by omega⟩
theorem cellN_ok {fe f1 f2 : De → Option PyData} {ds : De} {M : List (List Int)} {w a b : Nat} {ka kb : Int} (bx : Box M w) (h : fe ds = some (eM M)) (h1 : f1 ds = some (.int ka)) (h2 : f2 ds = some (.int kb)) (ha : ixN M.length ka = some a) (hl : a < M.length) (hb : ixN w kb = some b) (hw : b < w) : e2 ixD (e2 ixD fe f1) f2 ds = some (.int (getM M a b)) := by
  refine ix_ok (ix_ok (xs := M.map eI) (d := eI (M.getD a [])) h h1 ?_) h2 ?_
  · unfold atI
    rw [List.length_map, ha]
    show (M.map eI)[a]? = _
    rw [List.getElem?_map, List.getD_eq_getElem?_getD, List.getElem?_eq_getElem hl]
    rfl
  · unfold atI
    have rl := box_row bx hl
    rw [List.length_map, rl, hb]
    show ((M.getD a []).map PyData.int)[b]? = some (.int ((M.getD a []).getD b 0))
    rw [List.getElem?_map, List.getD_eq_getElem?_getD (l := M.getD a []), List.getElem?_eq_getElem (by rw [rl]; exact hw)]
    rfl
theorem tab_put {M : List (List Int)} {w a b : Nat} {z : Int} (t : Tab M w) (ha : a < M.length) (hb : b < w) (hz : 0 ≤ z) : Tab (putM M a b z) w := (box_put (tab_box t) ha).tab fun i j _ _ => by
  rw [get_put (tab_box t) ha hb]
  split
  · exact hz
  · exact tab_get t
theorem tab_app {M : List (List Int)} {w : Nat} (t : Tab M w) (h : M.length < 8) : Tab (M ++ [List.replicate w 0]) w where
  h1 := by rw [List.length_append]; have := t.h1; omega
  h8 := by rw [List.length_append]; simp only [List.length_cons, List.length_nil]; omega
  w1 := t.w1
  w8 := t.w8
  len := fun r hr => by
    rcases List.mem_append.mp hr with x | x
    · exact t.len r x
    · rw [List.mem_singleton.mp x, List.length_replicate]
  pos := fun r hr x hx => by
    rcases List.mem_append.mp hr with y | y
    · exact t.pos r y x hx
    · rw [List.mem_singleton.mp y] at hx
      rw [List.eq_of_mem_replicate hx]
      exact Int.le_refl _
theorem tab_turn {M : List (List Int)} {w : Nat} (t : Tab M w) : Tab ((List.range w).map fun c => colN M c) M.length where
  h1 := by rw [List.length_map, List.length_range]; exact t.w1
  h8 := by rw [List.length_map, List.length_range]; exact t.w8
  w1 := t.h1
  w8 := t.h8
  len := fun r hr => by
    obtain ⟨c, _, rfl⟩ := List.mem_map.mp hr
    exact List.length_map ..
  pos := fun r hr x hx => by
    obtain ⟨c, hc, rfl⟩ := List.mem_map.mp hr
    obtain ⟨r, hr, rfl⟩ := List.mem_map.mp hx
    rw [List.getD_eq_getElem?_getD]
    cases q : r[c]? with
    | none => exact Int.le_refl _
    | some y => exact t.pos r hr y (List.mem_of_getElem? q)
/-- a loop whose body always goes on -/
theorem sFor_inv {os : List Nat} {b : PyData → Option Bd} {body : De → Option GO} {fi : De → Option (List PyData)} {ds : De} {its : List PyData} (I : De → Prop) (hi : fi (hideD os ds) = some its) (h0 : I ds)
    (h : ∀ ds x, I ds → x ∈ its → ∃ l, b x = some l ∧ zeros os l = true ∧ ∃ ds', body (bindD ds l) = some (.nx ds') ∧ I ds') : ∃ ds', sFor os b fi body ds = some (.nx ds') ∧ I ds' := by
  rcases sFor_untilA (os := os) (b := b) (body := body) (fi := fi) (ds := ds) (r := .none) (good := fun _ => true) (φ := id) its I (by rw [hi, List.map_id]) h0 (fun ds x hI hx => by
    obtain ⟨l, h1, h2, h3⟩ := h ds x hI hx
    exact ⟨l, h1, h2, .inl ⟨rfl, h3⟩⟩) with ⟨_, q⟩ | ⟨q, _⟩
  · exact q
  · simp at q
theorem rt_nx {f g : De → Option GO} {ds ds1 : De} {d : PyData} (h : f ds = some (.nx ds1)) (k : Rt (g ds1) d) : Rt (sSeq f g ds) d := rt_seq h k
theorem m_law_other (ns : List Int) (hn : ns.length ≤ 63) {M : List (List Int)} {w : Nat} (t : Tab M w) : ∃ O w', M__law_other [eI ns, eM M] = some (.ok (eM O)) ∧ Tab O w' := by
  have h1 := t.h1
  have h8 := t.h8
  have w1 := t.w1
  have w8 := t.w8
  have bx := tab_box t
  have m3 := m_law_mix ns 3 hn (by decide)
  have m4 := m_law_mix ns 4 hn (by decide)
  have m5 := m_law_mix ns 5 hn (by decide)
  have m7 := m_law_mix ns 7 hn (by decide)
  obtain ⟨way, hway⟩ : ∃ z, z = mix ns 3 % 8 := ⟨_, rfl⟩
  have way0 : 0 ≤ way ∧ way < 8 := by omega
  have m70 := mix_lo ns 7
  let D : List (List Int) → Option PyData → Option PyData → Option PyData → Option PyData → De := fun T a b c d => [some (eI ns), some (eM M), some (.int way), some (eM T), a, b, c, d]
  -- 1, 2
  have s1 : e2 modI (eCB (okOf M__law_mix) (aC (eV 0) (aC (eC (.int 3)) aN))) (eC (.int 8)) [some (eI ns), some (eM M), none, none, none, none, none, none] = some (.int way) := by
    rw [hway]
    exact md_ok (call2_ok rfl rfl m3) (by decide)
  have s2 : eLc [4] (bName 4) (itA (eV 1)) (fun _ => some true) (eCB listN (aC (eV 4) aN)) [some (eI ns), some (eM M), some (.int way), none, none, none, none, none] = some (eM M) := (eLc_mapA M (φ := eI) (g := eI) rfl (by omega) fun r hr => ⟨[some (eI ns), some (eM M), some (.int way), none, some (eI r), none, none, none], rfl, rfl, cb1_ok rfl (by
    show (if (r.map PyData.int).all flatD = true then some (PyData.list (r.map PyData.int)) else none) = _
    rw [if_pos (List.all_eq_true.mpr fun x hx => by
      obtain ⟨i, _, rfl⟩ := List.mem_map.mp hx
      rfl)])⟩).trans rfl
  -- 3: rectangles
  have s3 : ∃ O c, Tab O w ∧ O.length = M.length ∧ sIf (bOf (e2 ltI (eV 2) (eC (.int 5)))) (sFor [0, 0, 0, 3, 0, 0, 0, 0] (bName 6) (itR1 (aC (e2 ixD (eLst (aC (eC (.int 0)) (aC (eC (.int 1)) (aC (eC (.int 1)) (aC (eC (.int 2)) (aC (eC (.int 2)) aN)))))) (eV 2)) aN)) (sDropC (cM 3 M__law_rectangle (aC (dataK (lefR [0, 0, 0, 3, 0, 0, 0, 0] 0 (okF (eV 0)))) (aC (eV 3) (aC (dataK (lefR [0, 0, 0, 3, 0, 0, 0, 0] 0 (okF (e2 plusD (eC (.int 10)) (e2 timesD (eC (.int 5)) (eV 6)))))) aN)))))) sNx (D M none none none none) = some (.nx (D O none none c none)) := by
    have c1 : bOf (e2 ltI (eV 2) (eC (.int 5))) (D M none none none none) = some (decide (way < 5)) := bOf_ok (e2_ok rfl rfl rfl)
    by_cases z : way < 5
    · rw [decide_eq_true z] at c1
      rw [if_t c1]
      obtain ⟨n, hn2, e⟩ : ∃ n : Nat, n ≤ 2 ∧ atI [PyData.int 0, .int 1, .int 1, .int 2, .int 2] way = some (.int (n : Int)) := by
        have five : way = 0 ∨ way = 1 ∨ way = 2 ∨ way = 3 ∨ way = 4 := by omega
        rcases five with y | y | y | y | y <;> rw [y]
        · exact ⟨0, by decide, rfl⟩
        · exact ⟨1, by decide, rfl⟩
        · exact ⟨1, by decide, rfl⟩
        · exact ⟨2, by decide, rfl⟩
        · exact ⟨2, by decide, rfl⟩
      obtain ⟨ds', e', O, c, rfl, tO, lO⟩ := sFor_inv (os := [0, 0, 0, 3, 0, 0, 0, 0]) (b := bName 6) (fi := itR1 (aC (e2 ixD (eLst (aC (eC (.int 0)) (aC (eC (.int 1)) (aC (eC (.int 1)) (aC (eC (.int 2)) (aC (eC (.int 2)) aN)))))) (eV 2)) aN)) (body := sDropC (cM 3 M__law_rectangle (aC (dataK (lefR [0, 0, 0, 3, 0, 0, 0, 0] 0 (okF (eV 0)))) (aC (eV 3) (aC (dataK (lefR [0, 0, 0, 3, 0, 0, 0, 0] 0 (okF (e2 plusD (eC (.int 10)) (e2 timesD (eC (.int 5)) (eV 6)))))) aN)))))
        (ds := D M none none none none) (its := rngD 0 n) (fun ds => ∃ O c, ds = D O none none c none ∧ Tab O w ∧ O.length = M.length)
        (itR1_n (n := n) (aC_ok (ix_ok (lst_ok (es := [.int 0, .int 1, .int 1, .int 2, .int 2]) rfl (by simp)) rfl e) rfl) (by omega)) ⟨M, none, rfl, t, rfl⟩ (by
          rintro ds x ⟨O, c, rfl, tO, lO⟩ hx
          obtain ⟨i, hi, rfl⟩ := rng_mem hx
          refine ⟨[(6, .int (i : Int))], rfl, rfl, ?_⟩
          obtain ⟨O', mr, tO', lO'⟩ := m_law_rectangle ns hn tO (10 + 5 * (i : Int)) (by omega)
          have k1 : dataK (lefR [0, 0, 0, 3, 0, 0, 0, 0] 0 (okF (eV 0))) (D O none none (some (.int (i : Int))) none) = some (eI ns) := rfl
          have k2 : dataK (lefR [0, 0, 0, 3, 0, 0, 0, 0] 0 (okF (e2 plusD (eC (.int 10)) (e2 timesD (eC (.int 5)) (eV 6))))) (D O none none (some (.int (i : Int))) none) = some (.int (10 + 5 * (i : Int))) := by
            have e0 : e2 plusD (eC (.int 10)) (e2 timesD (eC (.int 5)) (eV 6)) (hideD [0, 0, 0, 3, 0, 0, 0, 0] (D O none none (some (.int (i : Int))) none)) = some (.int (10 + 5 * (i : Int))) := e2_ok rfl (e2_ok rfl rfl (d := .int (5 * (i : Int))) (by
              unfold timesD
              simp only
              rw [if_pos (.inl (by decide))])) rfl
            unfold dataK lefR okF
            rw [e0]
            rfl
          refine ⟨D O' none none (some (.int (i : Int))) none, ?_, O', _, rfl, tO', by omega⟩
          show sDropC _ (D O none none (some (.int (i : Int))) none) = _
          unfold sDropC cM
          rw [aC_ok k1 (aC_ok (fe := eV 3) (a := eM O) rfl (aC_ok k2 rfl))]
          simp only [mr]
          rfl)
      exact ⟨O, c, tO, lO, e'⟩
    · rw [decide_eq_false z] at c1
      exact ⟨M, none, t, rfl, (if_f c1).trans rfl⟩
  obtain ⟨O, c6, tO, lO, s3⟩ := s3
  have bO := tab_box tO
  obtain ⟨r, hr, s4⟩ := md_len (fe := eCB (okOf M__law_mix) (aC (eV 0) (aC (eC (.int 4)) aN))) (fk := eCB lenL (aC (eV 3) aN)) (ds := D O none none c6 none) (call2_ok rfl rfl m4) (lenM_ok rfl) (by omega : 0 < O.length)
  obtain ⟨c, hc, s5⟩ := md_len (fe := eCB (okOf M__law_mix) (aC (eV 0) (aC (eC (.int 5)) aN))) (fk := eCB lenL (aC (e2 ixD (eV 3) (eC (.int 0))) aN)) (ds := D O (some (.int r)) none c6 none) (call2_ok rfl rfl m5) (wideM_ok bO rfl) (by omega : 0 < w)
  let E : List (List Int) → Option PyData → De := fun T d => D T (some (.int r)) (some (.int c)) c6 d
  -- 5: one count, or two
  have s6 : ∃ O1 d, Tab O1 w ∧ sIf (bAnd (bOf (e2 eqE (eV 2) (eC (.int 5)))) (bOf (e2 eqE (e2 modI (eCB (okOf M__law_mix) (aC (eV 0) (aC (eC (.int 7)) aN))) (eC (.int 2))) (eC (.int 0))))) (sSetP 3 3 (pS pN (eV 4)) (eV 5) (okF (flatF (e2 modI (e2 divI (eCB (okOf M__law_mix) (aC (eV 0) (aC (eC (.int 7)) aN))) (eC (.int 2))) (eC (.int 5)))))) (sIf (bAnd (bOf (e2 eqE (eV 2) (eC (.int 5)))) (bOf (e2 gtI (e2 ixD (e2 ixD (eV 3) (eV 4)) (eV 5)) (eC (.int 0))))) (sSeq (sAsgZ [0, 0, 0, 3, 0, 0, 0, 0] 7 (okF (e2 ixD (eLst (aC (eTup (aC (eV 4) (aC (e2 subI (eV 5) (eC (.int 1))) aN))) (aC (eTup (aC (e2 subI (eV 4) (eC (.int 1))) (aC (eV 5) aN))) aN))) (e2 modI (e2 divI (eCB (okOf M__law_mix) (aC (eV 0) (aC (eC (.int 7)) aN))) (eC (.int 2))) (eC (.int 2))))))
    (sSeq (sSetP 3 3 (pS pN (eV 4)) (eV 5) (fltR (okF (e2 subI (e2 ixD (e2 ixD (eV 3) (eV 4)) (eV 5)) (eC (.int 1))))))
    (sSetP 3 3 (pS pN (e2 ixD (eV 7) (eC (.int 0)))) (e2 ixD (eV 7) (eC (.int 1))) (fltR (okF (e2 plusD (e2 ixD (e2 ixD (eV 3) (e2 ixD (eV 7) (eC (.int 0)))) (e2 ixD (eV 7) (eC (.int 1)))) (eC (.int 1)))))))) sNx) (E O none) = some (.nx (E O1 d)) := by
    have mm : ∀ ds, eV 0 ds = some (eI ns) → eCB (okOf M__law_mix) (aC (eV 0) (aC (eC (.int 7)) aN)) ds = some (.int (mix ns 7)) := fun ds h => call2_ok h rfl m7
    have t1 : bOf (e2 eqE (eV 2) (eC (.int 5))) (E O none) = some (decide (way = 5)) := bOf_ok (eqL_ok rfl rfl)
    have t2 : bOf (e2 eqE (e2 modI (eCB (okOf M__law_mix) (aC (eV 0) (aC (eC (.int 7)) aN))) (eC (.int 2))) (eC (.int 0))) (E O none) = some (decide (mix ns 7 % 2 = 0)) := bOf_ok (eqL_ok (md_ok (mm _ rfl) (by decide)) rfl)
    have t3 := bAnd_ok t1 t2
    by_cases z : (decide (way = 5) && decide (mix ns 7 % 2 = 0)) = true
    · rw [z] at t3
      refine ⟨putM O r c (mix ns 7 / 2 % 5), none, tab_put tO hr hc (Int.emod_nonneg _ (by decide)), (if_t t3).trans ?_⟩
      exact setM_ok (ds := E O none) (.inl rfl) bO (ixN_nat hr) hr (ixN_nat hc) hc (okF_ok (flat_ok (md_ok (dv_ok (mm _ rfl) (by decide)) (by decide)) rfl)) rfl rfl rfl
    · rw [Bool.eq_false_iff.mpr z] at t3
      rw [if_f t3]
      have t4 : bOf (e2 gtI (e2 ixD (e2 ixD (eV 3) (eV 4)) (eV 5)) (eC (.int 0))) (E O none) = some (decide (0 < getM O r c)) := bOf_ok (e2_ok (cellM_ok (fe := eV 3) (f1 := eV 4) (f2 := eV 5) bO rfl rfl rfl hr hc) rfl rfl)
      have t5 := bAnd_ok t1 t4
      by_cases y : (decide (way = 5) && decide (0 < getM O r c)) = true
      · rw [y] at t5
        have pos : 0 < getM O r c := of_decide_eq_true ((Bool.and_eq_true _ _).mp y).2
        rw [if_t t5]
        obtain ⟨ka, kb, a, b, at_, ha, hal, hb, hbl⟩ : ∃ ka kb a b, atI [PyData.tuple [.int (r : Int), .int ((c : Int) - 1)], .tuple [.int ((r : Int) - 1), .int (c : Int)]] (mix ns 7 / 2 % 2) = some (.tuple [.int ka, .int kb]) ∧ ixN O.length ka = some a ∧ a < O.length ∧ ixN w kb = some b ∧ b < w := by
          have two : mix ns 7 / 2 % 2 = 0 ∨ mix ns 7 / 2 % 2 = 1 := by omega
          rcases two with x | x <;> rw [x]
          · obtain ⟨b, hb1, hb2⟩ := ixN_ok' (n := w) (k := (c : Int) - 1) (by omega) (by omega) (by omega)
            exact ⟨_, _, r, b, rfl, ixN_nat hr, hr, hb1, hb2⟩
          · obtain ⟨a, ha1, ha2⟩ := ixN_ok' (n := O.length) (k := (r : Int) - 1) (by omega) (by omega) (by omega)
            exact ⟨_, _, a, c, rfl, ha1, ha2, ixN_nat hc, hc⟩
        have t1' : Tab (putM O r c (getM O r c - 1)) w := tab_put tO hr hc (by omega)
        have n1 : (putM O r c (getM O r c - 1)).length = O.length := putM_len
        generalize hP : putM O r c (getM O r c - 1) = P at t1' n1
        have t2' : Tab (putM P a b (getM P a b + 1)) w := tab_put t1' (by omega) hbl (by have := tab_get t1' (i := a) (j := b); omega)
        refine ⟨putM P a b (getM P a b + 1), some (.tuple [.int ka, .int kb]), t2', ?_⟩
        refine sSeq_nx (ds1 := E O (some (.tuple [.int ka, .int kb]))) (asgZ_ok (ix_ok (lst_ok (es := [PyData.tuple [.int (r : Int), .int ((c : Int) - 1)], .tuple [.int ((r : Int) - 1), .int (c : Int)]]) rfl (by simp)) (md_ok (dv_ok (mm _ rfl) (by decide)) (by decide)) at_)) (sSeq_nx (ds1 := E P (some (.tuple [.int ka, .int kb]))) ?_ ?_)
        · rw [← hP]
          exact setM_ok (.inl rfl) bO (ixN_nat hr) hr (ixN_nat hc) hc (flt_ok (e2_ok (cellM_ok (fe := eV 3) (f1 := eV 4) (f2 := eV 5) bO rfl rfl rfl hr hc) rfl rfl)) rfl rfl rfl
        · exact setM_ok (ds := E P (some (.tuple [.int ka, .int kb]))) (ka := ka) (kb := kb) (.inl rfl) (tab_box t1') (by rw [n1]; exact ha) (by omega) hb hbl (flt_ok (e2_ok (cellN_ok (fe := eV 3) (ka := ka) (kb := kb) (tab_box t1') rfl rfl rfl (by rw [n1]; exact ha) (by omega) hb hbl) rfl rfl)) rfl rfl rfl
      · rw [Bool.eq_false_iff.mpr y] at t5
        rw [if_f t5]
        exact ⟨O, none, tO, rfl⟩
  obtain ⟨O1, d7, tO1, s6⟩ := s6
  have bO1 := tab_box tO1
  -- 6: a row more
  have s7 : ∃ O2, Tab O2 w ∧ sIf (bAnd (bOf (e2 eqE (eV 2) (eC (.int 6)))) (bOf (e2 ltI (eCB lenL (aC (eV 3) aN)) (eC (.int 8))))) (sApp 3 3 pN (okF (e2 repN (eLst (aC (eC (.int 0)) aN)) (eCB lenL (aC (e2 ixD (eV 3) (eC (.int 0))) aN))))) sNx (E O1 d7) = some (.nx (E O2 d7)) := by
    have t1 : bOf (e2 eqE (eV 2) (eC (.int 6))) (E O1 d7) = some (decide (way = 6)) := bOf_ok (eqL_ok rfl rfl)
    have t2 : bOf (e2 ltI (eCB lenL (aC (eV 3) aN)) (eC (.int 8))) (E O1 d7) = some (decide ((O1.length : Int) < 8)) := bOf_ok (e2_ok (lenM_ok rfl) rfl rfl)
    have t3 := bAnd_ok t1 t2
    by_cases z : (decide (way = 6) && decide ((O1.length : Int) < 8)) = true
    · rw [z] at t3
      have lt : O1.length < 8 := by
        have := of_decide_eq_true ((Bool.and_eq_true _ _).mp z).2
        omega
      refine ⟨O1 ++ [List.replicate w 0], tab_app tO1 lt, (if_t t3).trans ?_⟩
      have rep : e2 repN (eLst (aC (eC (.int 0)) aN)) (eCB lenL (aC (e2 ixD (eV 3) (eC (.int 0))) aN)) (E O1 d7) = some (eI (List.replicate w 0)) := e2_ok (lst_ok (es := [.int 0]) rfl (by simp)) (wideM_ok bO1 rfl) (by
        show (if ([PyData.int 0].all flatD = true ∧ (0 : Int) ≤ (w : Int) ∧ (w : Int) < 1000 ∧ [PyData.int 0].length * ((w : Int)).toNat ≤ 100000) then some (PyData.list (List.replicate ((w : Int)).toNat [PyData.int 0]).flatten) else none) = _
        rw [if_pos ⟨rfl, by omega, by omega, by simp only [List.length_cons, List.length_nil]; omega⟩]
        unfold eI
        congr 2
        rw [Int.toNat_natCast, List.map_replicate]
        simp)
      obtain ⟨d', p1, p2⟩ := app_ok (c := 3) (i := 3) (p := []) (fp := pN) (f := okF (e2 repN (eLst (aC (eC (.int 0)) aN)) (eCB lenL (aC (e2 ixD (eV 3) (eC (.int 0))) aN)))) (e := eI (List.replicate w 0)) (ds := E O1 d7) (d0 := eM O1) (dsn := O1.map eI) (okF_ok rep) rfl rfl rfl (by rw [List.length_map]; omega)
      have e3 : d' = eM (O1 ++ [List.replicate w 0]) := by
        have e4 : putP (.list (O1.map eI ++ [eI (List.replicate w 0)])) [] (eM O1) = some (.list (O1.map eI ++ [eI (List.replicate w 0)])) := rfl
        rw [e4] at p1
        cases p1
        unfold eM
        rw [List.map_append]
        rfl
      rw [e3] at p2
      exact p2
    · rw [Bool.eq_false_iff.mpr z] at t3
      exact ⟨O1, tO1, (if_f t3).trans rfl⟩
  obtain ⟨O2, tO2, s7⟩ := s7
  -- 7: turned about
  have s8 : ∃ O3 w3, Tab O3 w3 ∧ sIf (bOf (e2 eqE (eV 2) (eC (.int 7)))) (thenR (okF (eLc [5] (bName 5) (itR1 (aC (eCB lenL (aC (e2 ixD (eV 1) (eC (.int 0))) aN)) aN)) (fun _ => some true) (eLc [4] (bName 4) (itA (eV 1)) (fun _ => some true) (flatF (e2 ixD (eV 4) (eV 5)))))) (kNew 3)) sNx (E O2 d7) = some (.nx (E O3 d7)) := by
    have t1 : bOf (e2 eqE (eV 2) (eC (.int 7))) (E O2 d7) = some (decide (way = 7)) := bOf_ok (eqL_ok rfl rfl)
    by_cases z : way = 7
    · rw [decide_eq_true z] at t1
      refine ⟨(List.range w).map fun c => colN M c, M.length, tab_turn t, (if_t t1).trans (asgN_ok ?_)⟩
      refine (eLc_map (its := rngD 0 w) (g := fun x => match x with | .int c => eI (colN M c.toNat) | _ => .none) (itR1_n (n := w) (aC_ok (wideM_ok bx rfl) rfl) (by omega)) (by rw [rng_len]; omega) fun x hx => ?_).trans ?_
      · obtain ⟨k, hk, rfl⟩ := rng_mem hx
        refine ⟨[some (eI ns), some (eM M), some (.int way), some (eM O2), some (.int r), some (.int k), c6, d7], rfl, rfl, ?_⟩
        refine (eLc_mapA M (φ := eI) (g := fun r => .int (r.getD k 0)) rfl (by omega) fun r' hr' => ⟨[some (eI ns), some (eM M), some (.int way), some (eM O2), some (eI r'), some (.int k), c6, d7], rfl, rfl, flat_ok (ix_ok rfl rfl (int_at (by rw [t.len r' hr']; exact hk))) rfl⟩).trans ?_
        simp only [eI, colN, List.map_map, Int.toNat_natCast]
        rfl
      · rw [rng_map]
        unfold eM
        rw [List.map_map]
        rfl
    · rw [decide_eq_false z] at t1
      exact ⟨O2, w, tO2, (if_f t1).trans rfl⟩
  obtain ⟨O3, w3, tO3, s8⟩ := s8
  exact ⟨O3, w3, m_rt rfl (rt_seq (ds1 := [some (eI ns), some (eM M), some (.int way), none, none, none, none, none]) (asgZ_ok s1) (rt_seq (ds1 := D M none none none none) (asgN_ok s2) (rt_seq s3 (rt_seq (ds1 := D O (some (.int r)) none c6 none) (asgF_ok s4 rfl) (rt_seq (ds1 := E O none) (asgF_ok s5 rfl) (rt_seq s6 (rt_seq s7 (rt_seq s8 (rt_retM rfl))))))))), tO3⟩
abbrev BV : Er := ⟨"BadView", []⟩
theorem need_view_no {t : PyData} (h : partsB t = false) : M_need_view [t] = some (.error BV) := by
  have g : bNot (bOf (eCB (okOf M_is_view) (aC (eV 0) aN))) (startD 1 [t]) = some true := bNot_ok (x := false) (bOf_ok (call1_ok rfl (m_is_view_no h)))
  exact m_er rfl ⟨_, (if_t g).trans rfl⟩
theorem has_no_table {t p : PyData} (h : tabB t = false) : M_has_view [t, p] = some (.error BT) := m_er rfl (rr_seqR ⟨_, drop_er (cR1 rfl (need_no h))⟩)
theorem has_no_view {M : List (List Int)} {w : Nat} (t : Tab M w) {p : PyData} (h : partsB p = false) : M_has_view [eM M, p] = some (.error BV) := m_er rfl (rr_seq (ds1 := [some (eM M), some p, none]) (drop_ok (cR1 rfl (need_yes (tab_of t)))) (rr_seqR ⟨_, drop_er (cR1 rfl (need_view_no h))⟩))
theorem m_law_refused {t p d : PyData} {c : String} (h : M_has_view [t, p] = some (.error ⟨c, []⟩)) (hc : H__law_refused c = some d) : M__law_refused [t, p] = some (.ok d) := by
  refine m_rt rfl (rt_seqR ⟨[some t, some p, none], ?_⟩)
  unfold sTry
  rw [show thenR (cR M_has_view (aC (eV 0) (aC (eV 1) aN))) kDrop (startD 3 [t, p]) = some (.er ⟨c, []⟩ [some t, some p, none]) from drop_er (cR2 rfl rfl h)]
  simp only [hc]
  rfl
theorem eq_self {d : PyData} (h : okE d = true) : eqE d d = some (.bool true) := by
  obtain ⟨a, b, c⟩ := okN_is _ _ h
  have sd : SeqAt.shaped d = true := by
    unfold SeqAt.shaped
    rw [b]
    exact decide_eq_true (by omega)
  unfold eqE
  rw [if_pos ⟨h, h⟩, SeqAt.eqv_refl _ (lay_of sd)]
theorem slTakeT_ok {fe fk : De → Option PyData} {ds : De} {xs : List PyData} {n : Int} (h : fe ds = some (.tuple xs)) (h2 : fk ds = some (.int n)) (h0 : 0 ≤ n) : eSl fe oN (oI fk) ds = some (.tuple (xs.take n.toNat)) := by
  unfold eSl oN oI
  rw [h, h2]
  show some (PyData.tuple (DL.cutD xs none (some n))) = _
  rw [cut_take _ _ h0]
theorem run_rt {n : Nat} {B : De → Option GO} {es : List PyData} {d : PyData} (h : Rt (B (startD n es)) d) : runF n B es = some (.ok d) := by
  obtain ⟨ds', h⟩ := h
  unfold runF
  rw [h]
  rfl
theorem no_two {M : List (List Int)} {w : Nat} (t : Tab M w) : tabB (.list [eM M, .list []]) = false := by
  have h1 := t.h1
  have e : gridB (.list [eM M, .list []]) = false := by
    rw [gridB_list]
    have e1 : lenD (eM M) = M.length := List.length_map ..
    have e2 : ([eM M, .list []].all fun r => decide (lenD r = lenD ([eM M, PyData.list []].headD .none))) = false := by
      show ((decide (lenD (eM M) = lenD (eM M))) && (decide (0 = lenD (eM M)) && true)) = false
      rw [e1, decide_eq_false (by omega : ¬ 0 = M.length)]
      simp
    rw [e2]
    simp
  unfold tabB
  rw [e, Bool.false_and]
theorem law_true (ns : List Int) (hn : ns.length ≤ 63) : runF 11 B_law [eI ns] = some (.ok (.bool true)) := by
  have m0 := m_law_mix ns 0 hn (by decide)
  have m1 := m_law_mix ns 1 hn (by decide)
  have m9 := m_law_mix ns 9 hn (by decide)
  have b0 : 1 ≤ 1 + mix ns 0 % 8 ∧ 1 + mix ns 0 % 8 ≤ 8 := by omega
  have b1 : 1 ≤ 1 + mix ns 1 % 8 ∧ 1 + mix ns 1 % 8 ≤ 8 := by omega
  obtain ⟨h, hh⟩ : ∃ h, h = 1 + mix ns 0 % 8 := ⟨_, rfl⟩
  obtain ⟨w, hw⟩ : ∃ w, w = 1 + mix ns 1 % 8 := ⟨_, rfl⟩
  rw [← hh] at b0
  rw [← hw] at b1
  have tab := tabl_tab ns b0.1 b0.2 b1.1 b1.2
  have mt := m_law_table ns h w hn b0.1 b0.2 b1.1 b1.2
  generalize tabl ns h w = M at tab mt
  obtain ⟨ps, mp, _⟩ := m_law_places hn tab
  have mv := m_law_view (ps := ps) tab
  obtain ⟨O, w', mo, to_⟩ := m_law_other ns hn tab
  have mh := m_law_has tab to_ ps
  have hv := m_has_view tab to_ ps
  have o8 := to_.h8
  generalize hV : vD (viewC M w.toNat ps) (rowS M) (colS M w.toNat) = V at mv mh hv
  have okV : okE V = true := by rw [← hV]; exact okE_vD _ _ _
  obtain ⟨vs, rfl, bad2⟩ : ∃ vs, V = .tuple vs ∧ partsB (.tuple (vs.take 2)) = false := ⟨_, hV.symm, rfl⟩
  generalize hasB O w' M w.toNat ps = b at mh hv
  have pl : ∀ {fe : De → Option PyData} {ds : De} {a : Int}, fe ds = some (.int a) → FX.e2 plusD (eC (.int 1)) (e2 modI fe (eC (.int 8))) ds = some (.int (1 + a % 8)) := fun hf => e2_ok rfl (e2_ok hf rfl rfl) rfl
  obtain ⟨num, hnum⟩ : ∃ z, z = mix ns 9 := ⟨_, rfl⟩
  rw [← hnum] at m9
  let D : Option PyData → Option PyData → Option PyData → De := fun a7 a8 a9 => [some (eI ns), some (eM M), some (.list (ps.map pD)), some (.tuple vs), some (eM O), some (eM O), some (.bool b), a7, a8, a9, none]
  obtain ⟨x, hx, bad⟩ : ∃ x, atI [PyData.none, .tuple [], .list [], .tuple (vs.take 2)] (num % 4) = some x ∧ partsB x = false := by
    have four : num % 4 = 0 ∨ num % 4 = 1 ∨ num % 4 = 2 ∨ num % 4 = 3 := by omega
    rcases four with z | z | z | z <;> rw [z]
    · exact ⟨_, rfl, rfl⟩
    · exact ⟨_, rfl, rfl⟩
    · exact ⟨_, rfl, rfl⟩
    · exact ⟨_, rfl, bad2⟩
  refine run_rt ?_
  refine rt_seq (ds1 := [some (eI ns), some (eM M), none, none, none, none, none, none, none, none, none]) (asgZ_ok (call3_ok rfl (pl (call2_ok rfl rfl m0)) (pl (call2_ok rfl rfl m1)) (by rw [← hh, ← hw]; exact mt))) ?_
  refine rt_seq (ds1 := [some (eI ns), some (eM M), some (.list (ps.map pD)), none, none, none, none, none, none, none, none]) (asgZ_ok (call2_ok rfl rfl mp)) ?_
  refine rt_seq (ds1 := [some (eI ns), some (eM M), some (.list (ps.map pD)), some (.tuple vs), none, none, none, none, none, none, none]) (asgZ_ok (call2_ok rfl rfl mv)) ?_
  refine rt_seq (ds1 := [some (eI ns), some (eM M), some (.list (ps.map pD)), some (.tuple vs), some (eM O), none, none, none, none, none, none]) (asgZ_ok (call2_ok rfl rfl mo)) ?_
  refine rt_seq (ds1 := [some (eI ns), some (eM M), some (.list (ps.map pD)), some (.tuple vs), some (eM O), some (eM O), none, none, none, none, none]) (asgZ_ok ((eLc_mapA O (φ := eI) (g := eI) rfl (by omega) fun r hr => ⟨[some (eI ns), some (eM M), some (.list (ps.map pD)), some (.tuple vs), some (eM O), none, none, none, none, none, some (eI r)], rfl, rfl, rfl⟩).trans rfl)) ?_
  refine rt_seq (ds1 := D none none none) (asgZ_ok (call2_ok rfl (call2_ok rfl rfl mv) mh)) ?_
  have body : ∀ a7 a9, (sSeq (sAsgZ [0, 0, 0, 0, 0, 0, 0, 0, 0, 0, 0] 9 (okF (eCB (okOf M_has_view) (aC (eV 5) (aC (eV 3) aN)))))
    (sIf (bOr (bNot (bOf (isiF "bool" (eV 9)))) (bOr (bOf (e2 neE (eV 9) (eV 6))) (bOr (bOf (e2 neE (eV 5) (eV 4))) (bOf (e2 neE (eV 3) (eCB (okOf M__law_view) (aC (eV 1) (aC (eV 2) aN)))))))) (sRetZ [0, 0, 0, 0, 0, 0, 0, 0, 0, 0, 0] (okF (eC (.bool false)))) sNx)) (D a7 none a9) = some (.nx (D a7 none (some (.bool b)))) := fun a7 a9 =>
    sSeq_nx (asgZ_ok (call2_ok rfl rfl hv)) ((if_f (bOr_f (x := false) rfl (bOr_f (ne_ok rfl rfl rfl) (bOr_f (ne_ok rfl rfl (okE_eM _)) (ne_ok rfl (call2_ok rfl rfl mv) okV))))).trans rfl)
  refine rt_seq (ds1 := D (some (.int 1)) none (some (.bool b))) ?_ ?_
  · unfold sFor
    rw [show itR1 (aC (eC (.int 2)) aN) (hideD [0, 0, 0, 0, 0, 0, 0, 0, 0, 0, 0] (D none none none)) = some [.int 0, .int 1] from rfl]
    exact forGo_nx (l := [(7, .int 0)]) rfl rfl (body _ _) (forGo_nx (l := [(7, .int 1)]) rfl rfl (body _ _) rfl)
  have sl : eSl (eV 3) oN (oI (eC (.int 2))) (hideD [0, 0, 0, 0, 0, 0, 0, 0, 0, 0, 0] (D (some (.int 1)) none (some (.bool b)))) = some (.tuple (vs.take 2)) := by
    exact slTakeT_ok (n := 2) (xs := vs) rfl rfl (by decide)
  refine rt_seq (ds1 := D (some (.int 1)) (some x) (some (.bool b))) (asgZ_ok (ix_ok (lst_ok (es := [PyData.none, .tuple [], .list [], .tuple (vs.take 2)]) (aC_ok rfl (aC_ok (tup_ok rfl (by simp)) (aC_ok (lst_ok rfl (by simp)) (aC_ok sl rfl)))) (by simp)) (md_ok (call2_ok rfl rfl m9) (by decide)) hx)) ?_
  exact rt_retF (and_t (e2_ok (call2_ok rfl rfl (m_law_refused (has_no_view to_ bad) rfl)) rfl (eq_self (by decide +kernel))) (e2_ok (call2_ok (lst_ok (es := [eM O, .list []]) (aC_ok rfl (aC_ok (lst_ok rfl (by simp)) rfl)) (by simp)) rfl (m_law_refused (has_no_table (no_two to_)) rfl)) rfl (eq_self (by decide +kernel))))
section
variable {P : Program} {w : World} {mg : Str → Option Value} {base : Heap} {t_MOST : Tok} {c_BadPlace : Addr} {c_BadTable : Addr} {c_BadView : Addr} {c_VeilError : Addr}
theorem ok_is_whole {f : Addr} {fd : FuncData} (T : Txt mg t_MOST c_BadPlace c_BadTable c_BadView c_VeilError) (D : Dfn KK mg "is_whole" s_is_whole ["thing", "least"] f fd) : FnOk P w KK mg base CX0 1 f fd ["thing", "least"] (spP (cmL c_BadTable c_BadView c_BadPlace) 0 M_is_whole) := by
  refine D.F.ok sc_is_whole lenP (fun cdv A outer s H vs Q E hr h => ?_)
  refine ⟨_, (pss_one (ps_ret (pe_and (pe_cmpR op_eqTy (pe_callTy (T := "type") call_typeD (by rfl) T.no_type (by decide +kernel) (pa_cons (pv 0) pa_nil)) (pe_bltn (v := .ty "int") (by rfl) T.no_int (by decide +kernel) rfl) (nomark _)) (pe_one (pe_cmpR op_ge (pv 0) (pv 1) (nomark _)))))), ?_⟩
  exact done_P (os := [0, 0]) h rfl (by decide) (by decide)
    (fs_retZ rfl (FE.r (fe_and (fe_tyEq (T := "int") (by decide) fe_var) (fe_op ro_ge fe_var fe_var))))
theorem ok_is_grid {f : Addr} {fd : FuncData} (T : Txt mg t_MOST c_BadPlace c_BadTable c_BadView c_VeilError) (D : Dfn KK mg "is_grid" s_is_grid ["thing"] f fd) : FnOk P w KK mg base CX0 1 f fd ["thing"] (spP (cmL c_BadTable c_BadView c_BadPlace) 0 M_is_grid) := by
  refine D.F.ok sc_is_grid lenP (fun cdv A outer s H vs Q E hr h => ?_)
  refine ⟨_, (pss_cons (ps_if (PW.pt (pw_or (pt_cmpR op_neTy (pe_callTy (T := "type") call_typeD (by rfl) T.no_type (by decide +kernel) (pa_cons (pv 0) pa_nil)) (pe_bltn (v := .ty "list") (by rfl) T.no_list (by decide +kernel) rfl) (nomark _)) (pw_or1 (pt_not (pt_chain op_le op_le pe_int (pe_callB (id := "len") (DL.k_len (K := KK)) (by rfl) T.no_len (by decide +kernel) (pa_cons (pv 0) pa_nil)) (pe_glob (v := .int 8) rfl T.mg_MOST ⟨_, rfl⟩)))))) (pss_one (ps_ret pe_bl)) pss_nil)
    (pss_cons (ps_if (pt_val (pe_callB (id := "any") (k_any (K := KK) rfl) (by rfl) T.no_any (by decide +kernel) (pa_cons (pe_lc (own := [("row", 2)]) rfl sc_is_grid.nd (k_pi_any (K := KK) (pv 0)) (blkOk_by (N := n_is_grid) (sc := defScope s_is_grid) (by decide +kernel))
      (fun _ _ _ _ _ => (pg_name (i := 2) sc_is_grid.nd rfl (.inl rfl))) (fun _ _ _ _ _ => pts_nil) (fun _ _ _ _ _ => (pe_cmpR op_neTy (pe_callTy (T := "type") call_typeD (by rfl) T.no_type (by decide +kernel) (pa_cons (pv 2) pa_nil)) (pe_bltn (v := .ty "list") (by rfl) T.no_list (by decide +kernel) rfl) (nomark _)))) pa_nil))) (pss_one (ps_ret pe_bl)) pss_nil)
    (pss_cons (ps_set (i := 1) sc_is_grid.nd rfl (.inr rfl) (pe_callB (id := "len") (DL.k_len (K := KK)) (by rfl) T.no_len (by decide +kernel) (pa_cons (pe_ix (k_ix (K := KK)) (pv 0) pe_int (fun _ _ => rfl)) pa_nil)))
    (pss_one (ps_ret (pe_and (pe_chain op_le op_le pe_int (pv 1) (pe_glob (v := .int 8) rfl T.mg_MOST ⟨_, rfl⟩)) (pe_one (pe_callB (id := "all") (k_all (K := KK) rfl) (by rfl) T.no_all (by decide +kernel) (pa_cons (pe_lc (own := [("row", 2)]) rfl sc_is_grid.nd (k_pi_any (K := KK) (pv 0)) (blkOk_by (N := n_is_grid) (sc := defScope s_is_grid) (by decide +kernel))
      (fun _ _ _ _ _ => (pg_name (i := 2) sc_is_grid.nd rfl (.inl rfl))) (fun _ _ _ _ _ => pts_nil) (fun _ _ _ _ _ => (pe_cmpR (k_eqD (K := KK) hr.units) (pe_callB (id := "len") (DL.k_len (K := KK)) (by rfl) T.no_len (by decide +kernel) (pa_cons (pv 2) pa_nil)) (pv 1) (nomark _)))) pa_nil))))))))), ?_⟩
  exact done_P (os := [0, 0, 0]) h rfl (by decide) (by decide)
    (fs_seq (fs_if (fb_or (fb_test (fe_tyNe (T := "list") (by decide) fe_var)) (fb_not (fb_test (fe_chain ro_le ro_le fe_int (fe_cb rc_len (fa_cons fe_var fa_nil)) fe_int)))) (fs_retZ rfl (FE.r fe_bl)) fs_next)
    (fs_seq (fs_if (fb_B (fe_cb rc_any (fa_cons (fe_lc (vs := [2]) (fi_any fe_var) ft_name fb_yes (fe_tyNe (T := "list") (by decide) fe_var)) fa_nil))) (fs_retZ rfl (FE.r fe_bl)) fs_next)
    (fs_seq (fs_asgZ (i := 1) rfl (FE.r (fe_cb rc_len (fa_cons (fe_op ro_ix fe_var fe_int) fa_nil))))
    (fs_retZ rfl (FE.r (fe_and (fe_chain ro_le ro_le fe_int fe_var fe_int) (fe_cb rc_all (fa_cons (fe_lc (vs := [2]) (fi_any fe_var) ft_name fb_yes (fe_op ro_eq (fe_cb rc_len (fa_cons fe_var fa_nil)) fe_var)) fa_nil))))))))
theorem ok_is_table {f : Addr} {fd : FuncData} (T : Txt mg t_MOST c_BadPlace c_BadTable c_BadView c_VeilError) (D : Dfn KK mg "is_table" s_is_table ["thing"] f fd) {f_is_grid : Addr} {fd_is_grid : FuncData} (D_is_grid : Dfn KK mg "is_grid" s_is_grid ["thing"] f_is_grid fd_is_grid) (G_is_grid : FnOk P w KK mg base CX0 1 f_is_grid fd_is_grid ["thing"] (spP (cmL c_BadTable c_BadView c_BadPlace) 0 M_is_grid)) {f_is_whole : Addr} {fd_is_whole : FuncData} (D_is_whole : Dfn KK mg "is_whole" s_is_whole ["thing", "least"] f_is_whole fd_is_whole) (G_is_whole : FnOk P w KK mg base CX0 1 f_is_whole fd_is_whole ["thing", "least"] (spP (cmL c_BadTable c_BadView c_BadPlace) 0 M_is_whole)) : FnOk P w KK mg base CX0 2 f fd ["thing"] (spP (cmL c_BadTable c_BadView c_BadPlace) 0 M_is_table) := by
  refine D.F.ok sc_is_table lenP (fun cdv A outer s H vs Q E hr h => ?_)
  refine ⟨_, (pss_one (ps_ret (pe_and (pe_call G_is_grid hr rfl D_is_grid.g D_is_grid.F.kp D_is_grid.b .nil pass0 (pa_cons (pv 0) pa_nil)) (pe_one (pe_callB (id := "all") (k_all (K := KK) rfl) (by rfl) T.no_all (by decide +kernel) (pa_cons (pe_lc2 (own := [("row", 1), ("count", 2)]) (vs1 := [2]) rfl sc_is_table.nd (k_pi_any (K := KK) (pv 0)) (blkOk_by (N := n_is_table) (sc := defScope s_is_table) (by decide +kernel)) (by decide)
      (fun _ _ _ _ _ => (pg_name (i := 1) sc_is_table.nd rfl (.inl rfl))) (fun _ _ _ _ _ => pts_nil) (fun _ _ _ _ _ => (k_pi_any (K := KK) (pv 1))) (fun _ _ _ _ _ => (pg_name (i := 2) sc_is_table.nd rfl (.inl rfl))) (fun _ _ _ _ _ => pts_nil) (fun _ _ _ _ _ => (pe_call G_is_whole hr rfl D_is_whole.g D_is_whole.F.kp D_is_whole.b .nil pass0 (pa_cons (pv 2) (pa_cons pe_int pa_nil))))) pa_nil)))))), ?_⟩
  exact done_P (os := [0, 0, 0]) h rfl (by decide) (by decide)
    (fs_retZ rfl (FE.r (fe_and (fe_call (fa_cons fe_var fa_nil)) (fe_cb rc_all (fa_cons (fe_lc2 (vs := [1, 2]) (vs1 := [2]) (fi_any fe_var) ft_name fb_yes (fi_any fe_var) ft_name fb_yes (fe_call (fa_cons fe_var (fa_cons fe_int fa_nil)))) fa_nil)))))
theorem ok_is_place {f : Addr} {fd : FuncData} (T : Txt mg t_MOST c_BadPlace c_BadTable c_BadView c_VeilError) (D : Dfn KK mg "is_place" s_is_place ["thing", "grid"] f fd) {f_is_whole : Addr} {fd_is_whole : FuncData} (D_is_whole : Dfn KK mg "is_whole" s_is_whole ["thing", "least"] f_is_whole fd_is_whole) (G_is_whole : FnOk P w KK mg base CX0 1 f_is_whole fd_is_whole ["thing", "least"] (spP (cmL c_BadTable c_BadView c_BadPlace) 0 M_is_whole)) : FnOk P w KK mg base CX0 2 f fd ["thing", "grid"] (spP (cmL c_BadTable c_BadView c_BadPlace) 0 M_is_place) := by
  refine D.F.ok sc_is_place lenP (fun cdv A outer s H vs Q E hr h => ?_)
  refine ⟨_, (pss_cons (ps_if (PW.pt (pw_or (pt_cmpR op_neTy (pe_callTy (T := "type") call_typeD (by rfl) T.no_type (by decide +kernel) (pa_cons (pv 0) pa_nil)) (pe_bltn (v := .ty "tuple") (by rfl) T.no_tuple (by decide +kernel) rfl) (nomark _)) (pw_or1 (pt_cmpR (k_neD (K := KK) hr.units) (pe_callB (id := "len") (DL.k_len (K := KK)) (by rfl) T.no_len (by decide +kernel) (pa_cons (pv 0) pa_nil)) pe_int (nomark _))))) (pss_one (ps_ret pe_bl)) pss_nil)
    (pss_cons (ps_asg (pv 0) (k_pg_tup (K := KK) (n := 2) rfl (pgs_cons (pg_name (i := 2) sc_is_place.nd rfl (.inl rfl)) (pgs_cons (pg_name (i := 3) sc_is_place.nd rfl (.inl rfl)) pgs_nil))))
    (pss_cons (ps_if (PW.pt (pw_or (pt_not (pt_val (pe_call G_is_whole hr rfl D_is_whole.g D_is_whole.F.kp D_is_whole.b .nil pass0 (pa_cons (pv 2) (pa_cons pe_int pa_nil))))) (pw_or1 (pt_not (pt_val (pe_call G_is_whole hr rfl D_is_whole.g D_is_whole.F.kp D_is_whole.b .nil pass0 (pa_cons (pv 3) (pa_cons pe_int pa_nil)))))))) (pss_one (ps_ret pe_bl)) pss_nil)
    (pss_one (ps_ret (pe_and (pe_cmpR op_lt (pv 2) (pe_callB (id := "len") (DL.k_len (K := KK)) (by rfl) T.no_len (by decide +kernel) (pa_cons (pv 1) pa_nil)) (nomark _)) (pe_one (pe_cmpR op_lt (pv 3) (pe_callB (id := "len") (DL.k_len (K := KK)) (by rfl) T.no_len (by decide +kernel) (pa_cons (pe_ix (k_ix (K := KK)) (pv 1) pe_int (fun _ _ => rfl)) pa_nil)) (nomark _))))))))), ?_⟩
  exact done_P (os := [0, 0, 0, 0]) h rfl (by decide) (by decide)
    (fs_seq (fs_if (fb_or (fb_test (fe_tyNe (T := "tuple") (by decide) fe_var)) (fb_test (fe_op ro_ne (fe_cb rc_len (fa_cons fe_var fa_nil)) fe_int))) (fs_retZ rfl (FE.r fe_bl)) fs_next)
    (fs_seq (fs_asgT (ft_tup (n := 2) (fts_cons ft_name (fts_cons ft_name fts_nil))) (FE.r fe_var))
    (fs_seq (fs_if (fb_or (fb_not (fb_B (fe_call (fa_cons fe_var (fa_cons fe_int fa_nil))))) (fb_not (fb_B (fe_call (fa_cons fe_var (fa_cons fe_int fa_nil)))))) (fs_retZ rfl (FE.r fe_bl)) fs_next)
    (fs_retZ rfl (FE.r (fe_and (fe_op ro_lt fe_var (fe_cb rc_len (fa_cons fe_var fa_nil))) (fe_op ro_lt fe_var (fe_cb rc_len (fa_cons (fe_op ro_ix fe_var fe_int) fa_nil)))))))))
theorem ok_need_table {f : Addr} {fd : FuncData} (T : Txt mg t_MOST c_BadPlace c_BadTable c_BadView c_VeilError) (D : Dfn KK mg "need_table" s_need_table ["thing"] f fd) {f_is_table : Addr} {fd_is_table : FuncData} (D_is_table : Dfn KK mg "is_table" s_is_table ["thing"] f_is_table fd_is_table) (G_is_table : FnOk P w KK mg base CX0 2 f_is_table fd_is_table ["thing"] (spP (cmL c_BadTable c_BadView c_BadPlace) 0 M_is_table)) : FnOk P w KK mg base (L2.CX P w) 3 f fd ["thing"] (spP (cmL c_BadTable c_BadView c_BadPlace) 0 M_need_table) := by
  refine D.F.okX sc_need_table lenP (fun cdv A outer s H vs Q E hr h => ?_)
  refine ⟨_, (pss_one (ps_if (pt_not (pt_val (pe_call G_is_table hr rfl D_is_table.g D_is_table.F.kp D_is_table.b .nil pass0 (pa_cons (pv 0) pa_nil)))) (pss_one (ps_raise rfl (takes_of rfl rfl rfl rfl) (pmk_own PySem.F.excBase_ValueError T.e_BadTable.x T.mg_BadTable T.e_BadTable.k (raises_own T.e_BadTable.s T.e_BadTable.t) rfl))) pss_nil)), ?_⟩
  exact done_P (os := [0]) h rfl (by decide) (by decide)
    (fs_if (fb_not (fb_B (fe_call (fa_cons fe_var fa_nil)))) (fs_raise (c := "BadTable") rfl) fs_next)
theorem ok_row_sums {f : Addr} {fd : FuncData} (T : Txt mg t_MOST c_BadPlace c_BadTable c_BadView c_VeilError) (D : Dfn KK mg "row_sums" s_row_sums ["table"] f fd) {f_need_table : Addr} {fd_need_table : FuncData} (D_need_table : Dfn KK mg "need_table" s_need_table ["thing"] f_need_table fd_need_table) (G_need_table : FnOk P w KK mg base (L2.CX P w) 3 f_need_table fd_need_table ["thing"] (spP (cmL c_BadTable c_BadView c_BadPlace) 0 M_need_table)) : FnOk P w KK mg base (L2.CX P w) 4 f fd ["table"] (spP (cmL c_BadTable c_BadView c_BadPlace) 3 M_row_sums) := by
  refine D.F.okX sc_row_sums lenP (fun cdv A outer s H vs Q E hr h => ?_)
  refine ⟨_, (pss_cons (ps_expr (pe_callS G_need_table hr rfl D_need_table.g D_need_table.F.kp D_need_table.b (fun σ => passAt (takes_of rfl rfl rfl rfl) σ) (pa_cons (pv 0) pa_nil)))
    (pss_one (ps_ret (pe_lc (own := [("row", 1)]) rfl sc_row_sums.nd (k_pi_any (K := KK) (pv 0)) (blkOk_by (N := n_row_sums) (sc := defScope s_row_sums) (by decide +kernel))
      (fun _ _ _ _ _ => (pg_name (i := 1) sc_row_sums.nd rfl (.inl rfl))) (fun _ _ _ _ _ => pts_nil) (fun _ _ _ _ _ => (pe_callB (id := "sum") (k_sumX (K := KK) rfl) (by rfl) T.no_sum (by decide +kernel) (pa_cons (pv 1) pa_nil))))))), ?_⟩
  exact done_P (os := [0, 0]) h rfl (by decide) (by decide)
    (fs_seq (fs_drop (fr_call (fa_cons fe_var fa_nil)))
    (fs_retN (FN.r (fn_lc (vs := [1]) (fi_any fe_var) ft_name fb_yes (fn_flat (fe_cb rc_sum (fa_cons fe_var fa_nil)))))))
theorem ok_column_sums {f : Addr} {fd : FuncData} (T : Txt mg t_MOST c_BadPlace c_BadTable c_BadView c_VeilError) (D : Dfn KK mg "column_sums" s_column_sums ["table"] f fd) {f_need_table : Addr} {fd_need_table : FuncData} (D_need_table : Dfn KK mg "need_table" s_need_table ["thing"] f_need_table fd_need_table) (G_need_table : FnOk P w KK mg base (L2.CX P w) 3 f_need_table fd_need_table ["thing"] (spP (cmL c_BadTable c_BadView c_BadPlace) 0 M_need_table)) : FnOk P w KK mg base (L2.CX P w) 4 f fd ["table"] (spP (cmL c_BadTable c_BadView c_BadPlace) 3 M_column_sums) := by
  refine D.F.okX sc_column_sums lenP (fun cdv A outer s H vs Q E hr h => ?_)
  refine ⟨_, (pss_cons (ps_expr (pe_callS G_need_table hr rfl D_need_table.g D_need_table.F.kp D_need_table.b (fun σ => passAt (takes_of rfl rfl rfl rfl) σ) (pa_cons (pv 0) pa_nil)))
    (pss_one (ps_ret (pe_lc (own := [("column", 1)]) rfl sc_column_sums.nd (k_pi_zipS (K := KK) (by rfl) T.no_zip (pv 0)) (blkOk_by (N := n_column_sums) (sc := defScope s_column_sums) (by decide +kernel))
      (fun _ _ _ _ _ => (pg_name (i := 1) sc_column_sums.nd rfl (.inl rfl))) (fun _ _ _ _ _ => pts_nil) (fun _ _ _ _ _ => (pe_callB (id := "sum") (k_sumX (K := KK) rfl) (by rfl) T.no_sum (by decide +kernel) (pa_cons (pv 1) pa_nil))))))), ?_⟩
  exact done_P (os := [0, 0]) h rfl (by decide) (by decide)
    (fs_seq (fs_drop (fr_call (fa_cons fe_var fa_nil)))
    (fs_retN (FN.r (fn_lc (vs := [1]) (fi_zipS fe_var) ft_name fb_yes (fn_flat (fe_cb rc_sum (fa_cons fe_var fa_nil)))))))
theorem ok__are_cells {f : Addr} {fd : FuncData} (T : Txt mg t_MOST c_BadPlace c_BadTable c_BadView c_VeilError) (D : Dfn KK mg "_are_cells" s__are_cells ["thing"] f fd) {f_is_grid : Addr} {fd_is_grid : FuncData} (D_is_grid : Dfn KK mg "is_grid" s_is_grid ["thing"] f_is_grid fd_is_grid) (G_is_grid : FnOk P w KK mg base CX0 1 f_is_grid fd_is_grid ["thing"] (spP (cmL c_BadTable c_BadView c_BadPlace) 0 M_is_grid)) {f_is_whole : Addr} {fd_is_whole : FuncData} (D_is_whole : Dfn KK mg "is_whole" s_is_whole ["thing", "least"] f_is_whole fd_is_whole) (G_is_whole : FnOk P w KK mg base CX0 1 f_is_whole fd_is_whole ["thing", "least"] (spP (cmL c_BadTable c_BadView c_BadPlace) 0 M_is_whole)) : FnOk P w KK mg base CX0 2 f fd ["thing"] (spP (cmL c_BadTable c_BadView c_BadPlace) 0 M__are_cells) := by
  refine D.F.ok sc__are_cells lenP (fun cdv A outer s H vs Q E hr h => ?_)
  refine ⟨_, (pss_one (ps_ret (pe_and (pe_call G_is_grid hr rfl D_is_grid.g D_is_grid.F.kp D_is_grid.b .nil pass0 (pa_cons (pv 0) pa_nil)) (pe_one (pe_callB (id := "all") (k_all (K := KK) rfl) (by rfl) T.no_all (by decide +kernel) (pa_cons (pe_lc2 (own := [("row", 1), ("count", 2)]) (vs1 := [2]) rfl sc__are_cells.nd (k_pi_any (K := KK) (pv 0)) (blkOk_by (N := n__are_cells) (sc := defScope s__are_cells) (by decide +kernel)) (by decide)
      (fun _ _ _ _ _ => (pg_name (i := 1) sc__are_cells.nd rfl (.inl rfl))) (fun _ _ _ _ _ => pts_nil) (fun _ _ _ _ _ => (k_pi_any (K := KK) (pv 1))) (fun _ _ _ _ _ => (pg_name (i := 2) sc__are_cells.nd rfl (.inl rfl))) (fun _ _ _ _ _ => pts_nil) (fun _ _ _ _ _ => (pe_or (pe_cmpR op_isN (pv 2) pe_non (nomark _)) (pe_one (pe_call G_is_whole hr rfl D_is_whole.g D_is_whole.F.kp D_is_whole.b .nil pass0 (pa_cons (pv 2) (pa_cons pe_int pa_nil))))))) pa_nil)))))), ?_⟩
  exact done_P (os := [0, 0, 0]) h rfl (by decide) (by decide)
    (fs_retZ rfl (FE.r (fe_and (fe_call (fa_cons fe_var fa_nil)) (fe_cb rc_all (fa_cons (fe_lc2 (vs := [1, 2]) (vs1 := [2]) (fi_any fe_var) ft_name fb_yes (fi_any fe_var) ft_name fb_yes (fe_or (fe_op ro_isN fe_var fe_non) (fe_call (fa_cons fe_var (fa_cons fe_int fa_nil))))) fa_nil)))))
theorem ok__are_sums {f : Addr} {fd : FuncData} (T : Txt mg t_MOST c_BadPlace c_BadTable c_BadView c_VeilError) (D : Dfn KK mg "_are_sums" s__are_sums ["thing", "many"] f fd) {f_is_whole : Addr} {fd_is_whole : FuncData} (D_is_whole : Dfn KK mg "is_whole" s_is_whole ["thing", "least"] f_is_whole fd_is_whole) (G_is_whole : FnOk P w KK mg base CX0 1 f_is_whole fd_is_whole ["thing", "least"] (spP (cmL c_BadTable c_BadView c_BadPlace) 0 M_is_whole)) : FnOk P w KK mg base CX0 2 f fd ["thing", "many"] (spP (cmL c_BadTable c_BadView c_BadPlace) 0 M__are_sums) := by
  refine D.F.ok sc__are_sums lenP (fun cdv A outer s H vs Q E hr h => ?_)
  refine ⟨_, (pss_cons (ps_if (PW.pt (pw_or (pt_cmpR op_neTy (pe_callTy (T := "type") call_typeD (by rfl) T.no_type (by decide +kernel) (pa_cons (pv 0) pa_nil)) (pe_bltn (v := .ty "list") (by rfl) T.no_list (by decide +kernel) rfl) (nomark _)) (pw_or1 (pt_cmpR (k_neD (K := KK) hr.units) (pe_callB (id := "len") (DL.k_len (K := KK)) (by rfl) T.no_len (by decide +kernel) (pa_cons (pv 0) pa_nil)) (pv 1) (nomark _))))) (pss_one (ps_ret pe_bl)) pss_nil)
    (pss_one (ps_ret (pe_callB (id := "all") (k_all (K := KK) rfl) (by rfl) T.no_all (by decide +kernel) (pa_cons (pe_lc (own := [("total", 2)]) rfl sc__are_sums.nd (k_pi_any (K := KK) (pv 0)) (blkOk_by (N := n__are_sums) (sc := defScope s__are_sums) (by decide +kernel))
      (fun _ _ _ _ _ => (pg_name (i := 2) sc__are_sums.nd rfl (.inl rfl))) (fun _ _ _ _ _ => pts_nil) (fun _ _ _ _ _ => (pe_call G_is_whole hr rfl D_is_whole.g D_is_whole.F.kp D_is_whole.b .nil pass0 (pa_cons (pv 2) (pa_cons pe_int pa_nil))))) pa_nil))))), ?_⟩
  exact done_P (os := [0, 0, 0]) h rfl (by decide) (by decide)
    (fs_seq (fs_if (fb_or (fb_test (fe_tyNe (T := "list") (by decide) fe_var)) (fb_test (fe_op ro_ne (fe_cb rc_len (fa_cons fe_var fa_nil)) fe_var))) (fs_retZ rfl (FE.r fe_bl)) fs_next)
    (fs_retZ rfl (FE.r (fe_cb rc_all (fa_cons (fe_lc (vs := [2]) (fi_any fe_var) ft_name fb_yes (fe_call (fa_cons fe_var (fa_cons fe_int fa_nil)))) fa_nil)))))
theorem ok__has_parts {f : Addr} {fd : FuncData} (T : Txt mg t_MOST c_BadPlace c_BadTable c_BadView c_VeilError) (D : Dfn KK mg "_has_parts" s__has_parts ["thing"] f fd) {f__are_cells : Addr} {fd__are_cells : FuncData} (D__are_cells : Dfn KK mg "_are_cells" s__are_cells ["thing"] f__are_cells fd__are_cells) (G__are_cells : FnOk P w KK mg base CX0 2 f__are_cells fd__are_cells ["thing"] (spP (cmL c_BadTable c_BadView c_BadPlace) 0 M__are_cells)) {f__are_sums : Addr} {fd__are_sums : FuncData} (D__are_sums : Dfn KK mg "_are_sums" s__are_sums ["thing", "many"] f__are_sums fd__are_sums) (G__are_sums : FnOk P w KK mg base CX0 2 f__are_sums fd__are_sums ["thing", "many"] (spP (cmL c_BadTable c_BadView c_BadPlace) 0 M__are_sums)) : FnOk P w KK mg base CX0 3 f fd ["thing"] (spP (cmL c_BadTable c_BadView c_BadPlace) 0 M__has_parts) := by
  refine D.F.ok sc__has_parts lenP (fun cdv A outer s H vs Q E hr h => ?_)
  refine ⟨_, (pss_cons (ps_if (PW.pt (pw_or (pt_cmpR op_neTy (pe_callTy (T := "type") call_typeD (by rfl) T.no_type (by decide +kernel) (pa_cons (pv 0) pa_nil)) (pe_bltn (v := .ty "tuple") (by rfl) T.no_tuple (by decide +kernel) rfl) (nomark _)) (pw_or1 (pt_cmpR (k_neD (K := KK) hr.units) (pe_callB (id := "len") (DL.k_len (K := KK)) (by rfl) T.no_len (by decide +kernel) (pa_cons (pv 0) pa_nil)) pe_int (nomark _))))) (pss_one (ps_ret pe_bl)) pss_nil)
    (pss_cons (ps_asg (pv 0) (k_pg_tup (K := KK) (n := 3) rfl (pgs_cons (pg_name (i := 1) sc__has_parts.nd rfl (.inl rfl)) (pgs_cons (pg_name (i := 2) sc__has_parts.nd rfl (.inl rfl)) (pgs_cons (pg_name (i := 3) sc__has_parts.nd rfl (.inl rfl)) pgs_nil)))))
    (pss_cons (ps_if (pt_not (pt_val (pe_call G__are_cells hr rfl D__are_cells.g D__are_cells.F.kp D__are_cells.b .nil pass0 (pa_cons (pv 1) pa_nil)))) (pss_one (ps_ret pe_bl)) pss_nil)
    (pss_one (ps_ret (pe_and (pe_call G__are_sums hr rfl D__are_sums.g D__are_sums.F.kp D__are_sums.b .nil pass0 (pa_cons (pv 2) (pa_cons (pe_callB (id := "len") (DL.k_len (K := KK)) (by rfl) T.no_len (by decide +kernel) (pa_cons (pv 1) pa_nil)) pa_nil))) (pe_one (pe_call G__are_sums hr rfl D__are_sums.g D__are_sums.F.kp D__are_sums.b .nil pass0 (pa_cons (pv 3) (pa_cons (pe_callB (id := "len") (DL.k_len (K := KK)) (by rfl) T.no_len (by decide +kernel) (pa_cons (pe_ix (k_ix (K := KK)) (pv 1) pe_int (fun _ _ => rfl)) pa_nil)) pa_nil)))))))))), ?_⟩
  exact done_P (os := [0, 0, 0, 0]) h rfl (by decide) (by decide)
    (fs_seq (fs_if (fb_or (fb_test (fe_tyNe (T := "tuple") (by decide) fe_var)) (fb_test (fe_op ro_ne (fe_cb rc_len (fa_cons fe_var fa_nil)) fe_int))) (fs_retZ rfl (FE.r fe_bl)) fs_next)
    (fs_seq (fs_asgT (ft_tup (n := 3) (fts_cons ft_name (fts_cons ft_name (fts_cons ft_name fts_nil)))) (FE.r fe_var))
    (fs_seq (fs_if (fb_not (fb_B (fe_call (fa_cons fe_var fa_nil)))) (fs_retZ rfl (FE.r fe_bl)) fs_next)
    (fs_retZ rfl (FE.r (fe_and (fe_call (fa_cons fe_var (fa_cons (fe_cb rc_len (fa_cons fe_var fa_nil)) fa_nil))) (fe_call (fa_cons fe_var (fa_cons (fe_cb rc_len (fa_cons (fe_op ro_ix fe_var fe_int) fa_nil)) fa_nil)))))))))
theorem ok__left {f : Addr} {fd : FuncData} (T : Txt mg t_MOST c_BadPlace c_BadTable c_BadView c_VeilError) (D : Dfn KK mg "_left" s__left ["lines", "sums"] f fd) : FnOk P w KK mg base CX0 1 f fd ["lines", "sums"] (spP (cmL c_BadTable c_BadView c_BadPlace) 3 M__left) := by
  refine D.F.ok sc__left lenP (fun cdv A outer s H vs Q E hr h => ?_)
  refine ⟨_, (pss_one (ps_ret (pe_lc (own := [("line", 2), ("total", 3)]) rfl sc__left.nd (k_pi_zip (K := KK) (by rfl) T.no_zip (pa_cons (pv 0) (pa_cons (pv 1) pa_nil))) (blkOk_by (N := n__left) (sc := defScope s__left) (by decide +kernel))
      (fun _ _ _ _ _ => (k_pg_tup (K := KK) (n := 2) rfl (pgs_cons (pg_name (i := 2) sc__left.nd rfl (.inl rfl)) (pgs_cons (pg_name (i := 3) sc__left.nd rfl (.inl rfl)) pgs_nil)))) (fun _ _ _ _ _ => pts_nil) (fun _ _ _ _ _ => (pe_op op_sub (pv 3) (pe_callB (id := "sum") (k_sumX (K := KK) rfl) (by rfl) T.no_sum (by decide +kernel) (pa_cons (pe_lc (own := [("count", 4)]) rfl sc__left.nd (k_pi_any (K := KK) (pv 2)) (blk_in (N := n__left) (sc0 := defScope s__left) rfl (by decide +kernel))
      (fun _ _ _ _ _ => (pg_name (i := 4) sc__left.nd rfl (.inl rfl))) (fun _ _ _ _ _ => pts_one (pt_cmpR op_notN (pv 4) pe_non (nomark _))) (fun _ _ _ _ _ => (pv 4))) pa_nil))))))), ?_⟩
  exact done_P (os := [0, 0, 0, 0, 0]) h rfl (by decide) (by decide)
    (fs_retN (FN.r (fn_lc (vs := [2, 3]) (fi_zip (fa_cons fe_var (fa_cons fe_var fa_nil))) (ft_tup (n := 2) (fts_cons ft_name (fts_cons ft_name fts_nil))) fb_yes (fn_flat (fe_op ro_sub fe_var (fe_cb rc_sum (fa_cons (fe_lc (vs := [4]) (fi_any fe_var) ft_name (fb_test (fe_op ro_notN fe_var fe_non)) fe_var) fa_nil)))))))
theorem ok__rests {f : Addr} {fd : FuncData} (T : Txt mg t_MOST c_BadPlace c_BadTable c_BadView c_VeilError) (D : Dfn KK mg "_rests" s__rests ["parts"] f fd) {f__left : Addr} {fd__left : FuncData} (D__left : Dfn KK mg "_left" s__left ["lines", "sums"] f__left fd__left) (G__left : FnOk P w KK mg base CX0 1 f__left fd__left ["lines", "sums"] (spP (cmL c_BadTable c_BadView c_BadPlace) 3 M__left)) : FnOk P w KK mg base CX0 2 f fd ["parts"] (spP (cmL c_BadTable c_BadView c_BadPlace) 3 M__rests) := by
  refine D.F.ok sc__rests lenP (fun cdv A outer s H vs Q E hr h => ?_)
  refine ⟨_, (pss_cons (ps_asg (pv 0) (k_pg_tup (K := KK) (n := 3) rfl (pgs_cons (pg_name (i := 1) sc__rests.nd rfl (.inl rfl)) (pgs_cons (pg_name (i := 2) sc__rests.nd rfl (.inl rfl)) (pgs_cons (pg_name (i := 3) sc__rests.nd rfl (.inl rfl)) pgs_nil)))))
    (pss_one (ps_ret (pe_tup (pa_cons (pe_call G__left hr rfl D__left.g D__left.F.kp D__left.b .nil pass0 (pa_cons (pv 1) (pa_cons (pv 2) pa_nil))) (pa_cons (pe_call G__left hr rfl D__left.g D__left.F.kp D__left.b .nil pass0 (pa_cons (k_listZ (K := KK) rfl (by rfl) T.no_list (by rfl) T.no_zip (pv 1)) (pa_cons (pv 3) pa_nil))) pa_nil)))))), ?_⟩
  exact done_P (os := [0, 0, 0, 0]) h rfl (by decide) (by decide)
    (fs_seq (fs_asgT (ft_tup (n := 3) (fts_cons ft_name (fts_cons ft_name (fts_cons ft_name fts_nil)))) (FE.r fe_var))
    (fs_retN (FN.r (fn_tup (fns_cons (fn_call (fa_cons fe_var (fa_cons fe_var fa_nil))) (fns_cons (fn_call (fa_cons (fe_listZ fe_var) (fa_cons fe_var fa_nil))) fns_nil))))))
theorem ok_is_view {f : Addr} {fd : FuncData} (T : Txt mg t_MOST c_BadPlace c_BadTable c_BadView c_VeilError) (D : Dfn KK mg "is_view" s_is_view ["thing"] f fd) {f__has_parts : Addr} {fd__has_parts : FuncData} (D__has_parts : Dfn KK mg "_has_parts" s__has_parts ["thing"] f__has_parts fd__has_parts) (G__has_parts : FnOk P w KK mg base CX0 3 f__has_parts fd__has_parts ["thing"] (spP (cmL c_BadTable c_BadView c_BadPlace) 0 M__has_parts)) {f__rests : Addr} {fd__rests : FuncData} (D__rests : Dfn KK mg "_rests" s__rests ["parts"] f__rests fd__rests) (G__rests : FnOk P w KK mg base CX0 2 f__rests fd__rests ["parts"] (spP (cmL c_BadTable c_BadView c_BadPlace) 3 M__rests)) : FnOk P w KK mg base CX0 4 f fd ["thing"] (spP (cmL c_BadTable c_BadView c_BadPlace) 0 M_is_view) := by
  refine D.F.ok sc_is_view lenP (fun cdv A outer s H vs Q E hr h => ?_)
  refine ⟨_, (pss_cons (ps_if (pt_not (pt_val (pe_call G__has_parts hr rfl D__has_parts.g D__has_parts.F.kp D__has_parts.b .nil pass0 (pa_cons (pv 0) pa_nil)))) (pss_one (ps_ret pe_bl)) pss_nil)
    (pss_cons (ps_asg (pe_call G__rests (hr.mono (by decide)) rfl D__rests.g D__rests.F.kp D__rests.b .nil pass0 (pa_cons (pv 0) pa_nil)) (k_pg_tup (K := KK) (n := 2) rfl (pgs_cons (pg_name (i := 1) sc_is_view.nd rfl (.inl rfl)) (pgs_cons (pg_name (i := 2) sc_is_view.nd rfl (.inl rfl)) pgs_nil))))
    (pss_one (ps_ret (pe_and (pe_cmpR op_ge (pe_callB (id := "min") (k_min (K := KK) rfl) (by rfl) T.no_min (by decide +kernel) (pa_cons (pv 1) pa_nil)) pe_int (nomark _)) (pe_and (pe_cmpR op_ge (pe_callB (id := "min") (k_min (K := KK) rfl) (by rfl) T.no_min (by decide +kernel) (pa_cons (pv 2) pa_nil)) pe_int (nomark _)) (pe_one (pe_cmpR (k_eqD (K := KK) hr.units) (pe_callB (id := "sum") (k_sumX (K := KK) rfl) (by rfl) T.no_sum (by decide +kernel) (pa_cons (pv 1) pa_nil)) (pe_callB (id := "sum") (k_sumX (K := KK) rfl) (by rfl) T.no_sum (by decide +kernel) (pa_cons (pv 2) pa_nil)) (nomark _))))))))), ?_⟩
  exact done_P (os := [0, 0, 0]) h rfl (by decide) (by decide)
    (fs_seq (fs_if (fb_not (fb_B (fe_call (fa_cons fe_var fa_nil)))) (fs_retZ rfl (FE.r fe_bl)) fs_next)
    (fs_seq (fs_asgT (ft_tup (n := 2) (fts_cons ft_name (fts_cons ft_name fts_nil))) (FE.r (fe_call (fa_cons fe_var fa_nil))))
    (fs_retZ rfl (FE.r (fe_and (fe_op ro_ge (fe_cb rc_min (fa_cons fe_var fa_nil)) fe_int) (fe_and (fe_op ro_ge (fe_cb rc_min (fa_cons fe_var fa_nil)) fe_int) (fe_op ro_eq (fe_cb rc_sum (fa_cons fe_var fa_nil)) (fe_cb rc_sum (fa_cons fe_var fa_nil)))))))))
theorem ok_need_view {f : Addr} {fd : FuncData} (T : Txt mg t_MOST c_BadPlace c_BadTable c_BadView c_VeilError) (D : Dfn KK mg "need_view" s_need_view ["thing"] f fd) {f_is_view : Addr} {fd_is_view : FuncData} (D_is_view : Dfn KK mg "is_view" s_is_view ["thing"] f_is_view fd_is_view) (G_is_view : FnOk P w KK mg base CX0 4 f_is_view fd_is_view ["thing"] (spP (cmL c_BadTable c_BadView c_BadPlace) 0 M_is_view)) : FnOk P w KK mg base (L2.CX P w) 5 f fd ["thing"] (spP (cmL c_BadTable c_BadView c_BadPlace) 0 M_need_view) := by
  refine D.F.okX sc_need_view lenP (fun cdv A outer s H vs Q E hr h => ?_)
  refine ⟨_, (pss_one (ps_if (pt_not (pt_val (pe_call G_is_view hr rfl D_is_view.g D_is_view.F.kp D_is_view.b .nil pass0 (pa_cons (pv 0) pa_nil)))) (pss_one (ps_raise rfl (takes_of rfl rfl rfl rfl) (pmk_own PySem.F.excBase_ValueError T.e_BadView.x T.mg_BadView T.e_BadView.k (raises_own T.e_BadView.s T.e_BadView.t) rfl))) pss_nil)), ?_⟩
  exact done_P (os := [0]) h rfl (by decide) (by decide)
    (fs_if (fb_not (fb_B (fe_call (fa_cons fe_var fa_nil)))) (fs_raise (c := "BadView") rfl) fs_next)
theorem ok__are_places {f : Addr} {fd : FuncData} (T : Txt mg t_MOST c_BadPlace c_BadTable c_BadView c_VeilError) (D : Dfn KK mg "_are_places" s__are_places ["thing", "table"] f fd) {f_is_place : Addr} {fd_is_place : FuncData} (D_is_place : Dfn KK mg "is_place" s_is_place ["thing", "grid"] f_is_place fd_is_place) (G_is_place : FnOk P w KK mg base CX0 2 f_is_place fd_is_place ["thing", "grid"] (spP (cmL c_BadTable c_BadView c_BadPlace) 0 M_is_place)) : FnOk P w KK mg base CX0 3 f fd ["thing", "table"] (spP (cmL c_BadTable c_BadView c_BadPlace) 0 M__are_places) := by
  refine D.F.ok sc__are_places lenP (fun cdv A outer s H vs Q E hr h => ?_)
  refine ⟨_, (pss_cons (ps_if (PW.pt (pw_or (pt_cmpR op_neTy (pe_callTy (T := "type") call_typeD (by rfl) T.no_type (by decide +kernel) (pa_cons (pv 0) pa_nil)) (pe_bltn (v := .ty "list") (by rfl) T.no_list (by decide +kernel) rfl) (nomark _)) (pw_or1 (pt_not (pt_val (pe_callB (id := "all") (k_all (K := KK) rfl) (by rfl) T.no_all (by decide +kernel) (pa_cons (pe_lc (own := [("place", 2)]) rfl sc__are_places.nd (k_pi_any (K := KK) (pv 0)) (blkOk_by (N := n__are_places) (sc := defScope s__are_places) (by decide +kernel))
      (fun _ _ _ _ _ => (pg_name (i := 2) sc__are_places.nd rfl (.inl rfl))) (fun _ _ _ _ _ => pts_nil) (fun _ _ _ _ _ => (pe_call G_is_place hr rfl D_is_place.g D_is_place.F.kp D_is_place.b .nil pass0 (pa_cons (pv 2) (pa_cons (pv 1) pa_nil))))) pa_nil))))))) (pss_one (ps_ret pe_bl)) pss_nil)
    (pss_one (ps_ret (pe_cmpR (k_eqD (K := KK) hr.units) (k_lenSet (K := KK) rfl (room_far hr) (by rfl) T.no_len (by rfl) T.no_set (pv 0)) (pe_callB (id := "len") (DL.k_len (K := KK)) (by rfl) T.no_len (by decide +kernel) (pa_cons (pv 0) pa_nil)) (nomark _))))), ?_⟩
  exact done_P (os := [0, 0, 0]) h rfl (by decide) (by decide)
    (fs_seq (fs_if (fb_or (fb_test (fe_tyNe (T := "list") (by decide) fe_var)) (fb_not (fb_B (fe_cb rc_all (fa_cons (fe_lc (vs := [2]) (fi_any fe_var) ft_name fb_yes (fe_call (fa_cons fe_var (fa_cons fe_var fa_nil)))) fa_nil))))) (fs_retZ rfl (FE.r fe_bl)) fs_next)
    (fs_retZ rfl (FE.r (fe_op ro_eq (fe_lenSet fe_var) (fe_cb rc_len (fa_cons fe_var fa_nil))))))
theorem ok_view_of {f : Addr} {fd : FuncData} (T : Txt mg t_MOST c_BadPlace c_BadTable c_BadView c_VeilError) (D : Dfn KK mg "view_of" s_view_of ["table", "places"] f fd) {f_need_table : Addr} {fd_need_table : FuncData} (D_need_table : Dfn KK mg "need_table" s_need_table ["thing"] f_need_table fd_need_table) (G_need_table : FnOk P w KK mg base (L2.CX P w) 3 f_need_table fd_need_table ["thing"] (spP (cmL c_BadTable c_BadView c_BadPlace) 0 M_need_table)) {f__are_places : Addr} {fd__are_places : FuncData} (D__are_places : Dfn KK mg "_are_places" s__are_places ["thing", "table"] f__are_places fd__are_places) (G__are_places : FnOk P w KK mg base CX0 3 f__are_places fd__are_places ["thing", "table"] (spP (cmL c_BadTable c_BadView c_BadPlace) 0 M__are_places)) {f_row_sums : Addr} {fd_row_sums : FuncData} (D_row_sums : Dfn KK mg "row_sums" s_row_sums ["table"] f_row_sums fd_row_sums) (G_row_sums : FnOk P w KK mg base (L2.CX P w) 4 f_row_sums fd_row_sums ["table"] (spP (cmL c_BadTable c_BadView c_BadPlace) 3 M_row_sums)) {f_column_sums : Addr} {fd_column_sums : FuncData} (D_column_sums : Dfn KK mg "column_sums" s_column_sums ["table"] f_column_sums fd_column_sums) (G_column_sums : FnOk P w KK mg base (L2.CX P w) 4 f_column_sums fd_column_sums ["table"] (spP (cmL c_BadTable c_BadView c_BadPlace) 3 M_column_sums)) : FnOk P w KK mg base (L2.CX P w) 5 f fd ["table", "places"] (spP (cmL c_BadTable c_BadView c_BadPlace) 3 M_view_of) := by
  refine D.F.okX sc_view_of lenP (fun cdv A outer s H vs Q E hr h => ?_)
  refine ⟨_, (pss_cons (ps_expr (pe_callS G_need_table (hr.mono (by decide)) rfl D_need_table.g D_need_table.F.kp D_need_table.b (fun σ => passAt (takes_of rfl rfl rfl rfl) σ) (pa_cons (pv 0) pa_nil)))
    (pss_cons (ps_if (pt_not (pt_val (pe_call G__are_places (hr.mono (by decide)) rfl D__are_places.g D__are_places.F.kp D__are_places.b .nil pass0 (pa_cons (pv 1) (pa_cons (pv 0) pa_nil))))) (pss_one (ps_raise rfl (takes_of rfl rfl rfl rfl) (pmk_own PySem.F.excBase_ValueError T.e_BadPlace.x T.mg_BadPlace T.e_BadPlace.k (raises_own T.e_BadPlace.s T.e_BadPlace.t) rfl))) pss_nil)
    (pss_cons (ps_setLc (i := 2) (own := [("at", 3), ("row", 4)]) rfl sc_view_of.nd rfl rfl (sw_true rfl rfl rfl (by decide +kernel)) (k_pi_enum (K := KK) (by rfl) T.no_enumerate (pa_cons (pv 0) pa_nil)) (blkOk_by (N := n_view_of) (sc := defScope s_view_of) (by decide +kernel))
      (fun _ _ _ _ _ => (k_pg_tup (K := KK) (n := 2) rfl (pgs_cons (pg_name (i := 3) sc_view_of.nd rfl (.inr rfl)) (pgs_cons (pg_name (i := 4) sc_view_of.nd rfl (.inl rfl)) pgs_nil)))) (fun _ _ _ _ _ => pts_nil) (fun _ _ _ _ _ => (pe_lc (own := [("across", 5), ("count", 6)]) rfl sc_view_of.nd (k_pi_enum (K := KK) (by rfl) T.no_enumerate (pa_cons (pv 4) pa_nil)) (blk_in (N := n_view_of) (sc0 := defScope s_view_of) rfl (by decide +kernel))
      (fun _ _ _ _ _ => (k_pg_tup (K := KK) (n := 2) rfl (pgs_cons (pg_name (i := 5) sc_view_of.nd rfl (.inl rfl)) (pgs_cons (pg_name (i := 6) sc_view_of.nd rfl (.inl rfl)) pgs_nil)))) (fun _ _ _ _ _ => pts_nil) (fun _ _ _ _ _ => (pe_ifExp (pt_cmpR (k_inD (room_far hr)) (pe_tup (pa_cons (pv 3) (pa_cons (pv 5) pa_nil))) (pv 1) (by rfl)) pe_non (pv 6))))))
    (pss_one (ps_ret (pe_tup (pa_cons (pv 2) (pa_cons (pe_callS G_row_sums hr rfl D_row_sums.g D_row_sums.F.kp D_row_sums.b (fun σ => passAt (takes_of rfl rfl rfl rfl) σ) (pa_cons (pv 0) pa_nil)) (pa_cons (pe_callS G_column_sums hr rfl D_column_sums.g D_column_sums.F.kp D_column_sums.b (fun σ => passAt (takes_of rfl rfl rfl rfl) σ) (pa_cons (pv 0) pa_nil)) pa_nil))))))))), ?_⟩
  exact done_P (os := [0, 0, 3, 0, 0, 0, 0]) h rfl (by decide) (by decide)
    (fs_seq (fs_drop (fr_call (fa_cons fe_var fa_nil)))
    (fs_seq (fs_if (fb_not (fb_B (fe_call (fa_cons fe_var (fa_cons fe_var fa_nil))))) (fs_raise (c := "BadPlace") rfl) fs_next)
    (fs_seq (fs_asgN (i := 2) rfl (FN.r (fn_lc (vs := [3, 4]) (fi_enum (fa_cons fe_var fa_nil)) (ft_tup (n := 2) (fts_cons ft_name (fts_cons ft_name fts_nil))) fb_yes (fn_lc (vs := [5, 6]) (fi_enum (fa_cons fe_var fa_nil)) (ft_tup (n := 2) (fts_cons ft_name (fts_cons ft_name fts_nil))) fb_yes (fn_if (fb_test (fe_op ro_in (fe_tup (fa_cons fe_var (fa_cons fe_var fa_nil))) fe_var)) (fn_flat fe_non) (fn_flat fe_var))))))
    (fs_retM (fm_tup (fms_cons (fm_var (i := 2) (by decide)) (fms_cons (fm_k (fk_new (frn_call (fa_cons fe_var fa_nil)))) (fms_cons (fm_k (fk_new (frn_call (fa_cons fe_var fa_nil)))) fms_nil))))))))
theorem ok_hidden_places {f : Addr} {fd : FuncData} (T : Txt mg t_MOST c_BadPlace c_BadTable c_BadView c_VeilError) (D : Dfn KK mg "hidden_places" s_hidden_places ["view"] f fd) {f_need_view : Addr} {fd_need_view : FuncData} (D_need_view : Dfn KK mg "need_view" s_need_view ["thing"] f_need_view fd_need_view) (G_need_view : FnOk P w KK mg base (L2.CX P w) 5 f_need_view fd_need_view ["thing"] (spP (cmL c_BadTable c_BadView c_BadPlace) 0 M_need_view)) : FnOk P w KK mg base (L2.CX P w) 6 f fd ["view"] (spP (cmL c_BadTable c_BadView c_BadPlace) 3 M_hidden_places) := by
  refine D.F.okX sc_hidden_places lenP (fun cdv A outer s H vs Q E hr h => ?_)
  refine ⟨_, (pss_cons (ps_expr (pe_callS G_need_view hr rfl D_need_view.g D_need_view.F.kp D_need_view.b (fun σ => passAt (takes_of rfl rfl rfl rfl) σ) (pa_cons (pv 0) pa_nil)))
    (pss_one (ps_ret (pe_lc2 (own := [("at", 1), ("row", 2), ("across", 3), ("count", 4)]) (vs1 := [3, 4]) rfl sc_hidden_places.nd (k_pi_enum (K := KK) (by rfl) T.no_enumerate (pa_cons (pe_ix (k_ix (K := KK)) (pv 0) pe_int (fun _ _ => rfl)) pa_nil)) (blkOk_by (N := n_hidden_places) (sc := defScope s_hidden_places) (by decide +kernel)) (by decide)
      (fun _ _ _ _ _ => (k_pg_tup (K := KK) (n := 2) rfl (pgs_cons (pg_name (i := 1) sc_hidden_places.nd rfl (.inl rfl)) (pgs_cons (pg_name (i := 2) sc_hidden_places.nd rfl (.inl rfl)) pgs_nil)))) (fun _ _ _ _ _ => pts_nil) (fun _ _ _ _ _ => (k_pi_enum (K := KK) (by rfl) T.no_enumerate (pa_cons (pv 2) pa_nil))) (fun _ _ _ _ _ => (k_pg_tup (K := KK) (n := 2) rfl (pgs_cons (pg_name (i := 3) sc_hidden_places.nd rfl (.inl rfl)) (pgs_cons (pg_name (i := 4) sc_hidden_places.nd rfl (.inl rfl)) pgs_nil)))) (fun _ _ _ _ _ => pts_one (pt_cmpR op_isN (pv 4) pe_non (nomark _))) (fun _ _ _ _ _ => (pe_tup (pa_cons (pv 1) (pa_cons (pv 3) pa_nil)))))))), ?_⟩
  exact done_P (os := [0, 0, 0, 0, 0]) h rfl (by decide) (by decide)
    (fs_seq (fs_drop (fr_call (fa_cons fe_var fa_nil)))
    (fs_retN (FN.r (fn_lc2 (vs := [1, 2, 3, 4]) (vs1 := [3, 4]) (fi_enum (fa_cons (fe_op ro_ix fe_var fe_int) fa_nil)) (ft_tup (n := 2) (fts_cons ft_name (fts_cons ft_name fts_nil))) fb_yes (fi_enum (fa_cons fe_var fa_nil)) (ft_tup (n := 2) (fts_cons ft_name (fts_cons ft_name fts_nil))) (fb_test (fe_op ro_isN fe_var fe_non)) (fn_tup (fns_cons (fn_flat fe_var) (fns_cons (fn_flat fe_var) fns_nil)))))))
theorem ok_has_view {f : Addr} {fd : FuncData} (T : Txt mg t_MOST c_BadPlace c_BadTable c_BadView c_VeilError) (D : Dfn KK mg "has_view" s_has_view ["table", "view"] f fd) {f_need_table : Addr} {fd_need_table : FuncData} (D_need_table : Dfn KK mg "need_table" s_need_table ["thing"] f_need_table fd_need_table) (G_need_table : FnOk P w KK mg base (L2.CX P w) 3 f_need_table fd_need_table ["thing"] (spP (cmL c_BadTable c_BadView c_BadPlace) 0 M_need_table)) {f_need_view : Addr} {fd_need_view : FuncData} (D_need_view : Dfn KK mg "need_view" s_need_view ["thing"] f_need_view fd_need_view) (G_need_view : FnOk P w KK mg base (L2.CX P w) 5 f_need_view fd_need_view ["thing"] (spP (cmL c_BadTable c_BadView c_BadPlace) 0 M_need_view)) {f_view_of : Addr} {fd_view_of : FuncData} (D_view_of : Dfn KK mg "view_of" s_view_of ["table", "places"] f_view_of fd_view_of) (G_view_of : FnOk P w KK mg base (L2.CX P w) 5 f_view_of fd_view_of ["table", "places"] (spP (cmL c_BadTable c_BadView c_BadPlace) 3 M_view_of)) {f_hidden_places : Addr} {fd_hidden_places : FuncData} (D_hidden_places : Dfn KK mg "hidden_places" s_hidden_places ["view"] f_hidden_places fd_hidden_places) (G_hidden_places : FnOk P w KK mg base (L2.CX P w) 6 f_hidden_places fd_hidden_places ["view"] (spP (cmL c_BadTable c_BadView c_BadPlace) 3 M_hidden_places)) : FnOk P w KK mg base (L2.CX P w) 7 f fd ["table", "view"] (spP (cmL c_BadTable c_BadView c_BadPlace) 0 M_has_view) := by
  refine D.F.okX sc_has_view lenP (fun cdv A outer s H vs Q E hr h => ?_)
  refine ⟨_, (pss_cons (ps_expr (pe_callS G_need_table (hr.mono (by decide)) rfl D_need_table.g D_need_table.F.kp D_need_table.b (fun σ => passAt (takes_of rfl rfl rfl rfl) σ) (pa_cons (pv 0) pa_nil)))
    (pss_cons (ps_expr (pe_callS G_need_view (hr.mono (by decide)) rfl D_need_view.g D_need_view.F.kp D_need_view.b (fun σ => passAt (takes_of rfl rfl rfl rfl) σ) (pa_cons (pv 1) pa_nil)))
    (pss_cons (ps_set (i := 2) sc_has_view.nd rfl (.inl rfl) (pe_ix (k_ix (K := KK)) (pv 1) pe_int (fun _ _ => rfl)))
    (pss_cons (ps_if (PW.pt (pw_or (pt_cmpR (k_neD (K := KK) hr.units) (pe_callB (id := "len") (DL.k_len (K := KK)) (by rfl) T.no_len (by decide +kernel) (pa_cons (pv 0) pa_nil)) (pe_callB (id := "len") (DL.k_len (K := KK)) (by rfl) T.no_len (by decide +kernel) (pa_cons (pv 2) pa_nil)) (nomark _)) (pw_or1 (pt_cmpR (k_neD (K := KK) hr.units) (pe_callB (id := "len") (DL.k_len (K := KK)) (by rfl) T.no_len (by decide +kernel) (pa_cons (pe_ix (k_ix (K := KK)) (pv 0) pe_int (fun _ _ => rfl)) pa_nil)) (pe_callB (id := "len") (DL.k_len (K := KK)) (by rfl) T.no_len (by decide +kernel) (pa_cons (pe_ix (k_ix (K := KK)) (pv 2) pe_int (fun _ _ => rfl)) pa_nil)) (nomark _))))) (pss_one (ps_ret pe_bl)) pss_nil)
    (pss_one (ps_ret (pe_cmpR (k_eqD (K := KK) hr.units) (pe_callS G_view_of (hr.mono (by decide)) rfl D_view_of.g D_view_of.F.kp D_view_of.b (fun σ => passAt (takes_of rfl rfl rfl rfl) σ) (pa_cons (pv 0) (pa_cons (pe_callS G_hidden_places hr rfl D_hidden_places.g D_hidden_places.F.kp D_hidden_places.b (fun σ => passAt (takes_of rfl rfl rfl rfl) σ) (pa_cons (pv 1) pa_nil)) pa_nil))) (pv 1) (nomark _)))))))), ?_⟩
  exact done_P (os := [0, 0, 0]) h rfl (by decide) (by decide)
    (fs_seq (fs_drop (fr_call (fa_cons fe_var fa_nil)))
    (fs_seq (fs_drop (fr_call (fa_cons fe_var fa_nil)))
    (fs_seq (fs_asgZ (i := 2) rfl (FE.r (fe_op ro_ix fe_var fe_int)))
    (fs_seq (fs_if (fb_or (fb_test (fe_op ro_ne (fe_cb rc_len (fa_cons fe_var fa_nil)) (fe_cb rc_len (fa_cons fe_var fa_nil)))) (fb_test (fe_op ro_ne (fe_cb rc_len (fa_cons (fe_op ro_ix fe_var fe_int) fa_nil)) (fe_cb rc_len (fa_cons (fe_op ro_ix fe_var fe_int) fa_nil))))) (fs_retZ rfl (FE.r fe_bl)) fs_next)
    (fs_retZ rfl (FE.r (fe_op ro_eq (fe_callS (fa_cons fe_var (fa_cons (fe_callS (fa_cons fe_var fa_nil)) fa_nil))) fe_var)))))))
theorem ok__law_mix {f : Addr} {fd : FuncData} (T : Txt mg t_MOST c_BadPlace c_BadTable c_BadView c_VeilError) (D : Dfn KK mg "_law_mix" s__law_mix ["_law_script", "_law_k"] f fd) : FnOk P w KK mg base CX0 1 f fd ["_law_script", "_law_k"] (spP (cmL c_BadTable c_BadView c_BadPlace) 0 M__law_mix) := by
  refine D.F.ok sc__law_mix lenP (fun cdv A outer s H vs Q E hr h => ?_)
  refine ⟨_, (pss_cons (ps_set (i := 2) sc__law_mix.nd rfl (.inl rfl) pe_int)
    (pss_cons (ps_if (pt_cmpR op_gt (pe_callB (id := "len") (DL.k_len (K := KK)) (by rfl) T.no_len (by decide +kernel) (pa_cons (pv 0) pa_nil)) pe_int (nomark _)) (pss_one (ps_set (i := 2) sc__law_mix.nd rfl (.inl rfl) (pe_op (k_plus (K := KK)) (pe_ix (k_ix (K := KK)) (pv 0) (pe_op op_mod (pv 1) (pe_callB (id := "len") (DL.k_len (K := KK)) (by rfl) T.no_len (by decide +kernel) (pa_cons (pv 0) pa_nil))) (fun _ _ => rfl)) (pe_op op_fdiv (pv 1) (pe_callB (id := "len") (DL.k_len (K := KK)) (by rfl) T.no_len (by decide +kernel) (pa_cons (pv 0) pa_nil)))))) pss_nil)
    (pss_cons (ps_set (i := 3) sc__law_mix.nd rfl (.inl rfl) (pe_op op_mod (pe_op (k_times (K := KK)) (pe_op (k_plus (K := KK)) (pv 2) (pe_op (k_times (K := KK)) pe_int (pe_op (k_plus (K := KK)) (pv 1) pe_int))) pe_int) pe_int))
    (pss_one (ps_ret (pe_op op_mod (pe_op (k_times (K := KK)) (pv 3) (pv 3)) pe_int)))))), ?_⟩
  exact done_P (os := [0, 0, 0, 0]) h rfl (by decide) (by decide)
    (fs_seq (fs_asgZ (i := 2) rfl (FE.r fe_int))
    (fs_seq (fs_if (fb_test (fe_op ro_gt (fe_cb rc_len (fa_cons fe_var fa_nil)) fe_int)) (fs_asgZ (i := 2) rfl (FE.r (fe_op ro_plus (fe_op ro_ix fe_var (fe_op ro_mod fe_var (fe_cb rc_len (fa_cons fe_var fa_nil)))) (fe_op ro_div fe_var (fe_cb rc_len (fa_cons fe_var fa_nil)))))) fs_next)
    (fs_seq (fs_asgZ (i := 3) rfl (FE.r (fe_op ro_mod (fe_op ro_times (fe_op ro_plus fe_var (fe_op ro_times fe_int (fe_op ro_plus fe_var fe_int))) fe_int) fe_int)))
    (fs_retZ rfl (FE.r (fe_op ro_mod (fe_op ro_times fe_var fe_var) fe_int))))))
theorem ok__law_count {f : Addr} {fd : FuncData} (T : Txt mg t_MOST c_BadPlace c_BadTable c_BadView c_VeilError) (D : Dfn KK mg "_law_count" s__law_count ["_law_script", "_law_k"] f fd) {f__law_mix : Addr} {fd__law_mix : FuncData} (D__law_mix : Dfn KK mg "_law_mix" s__law_mix ["_law_script", "_law_k"] f__law_mix fd__law_mix) (G__law_mix : FnOk P w KK mg base CX0 1 f__law_mix fd__law_mix ["_law_script", "_law_k"] (spP (cmL c_BadTable c_BadView c_BadPlace) 0 M__law_mix)) : FnOk P w KK mg base CX0 2 f fd ["_law_script", "_law_k"] (spP (cmL c_BadTable c_BadView c_BadPlace) 0 M__law_count) := by
  refine D.F.ok sc__law_count lenP (fun cdv A outer s H vs Q E hr h => ?_)
  refine ⟨_, (pss_cons (ps_set (i := 2) sc__law_count.nd rfl (.inl rfl) (pe_call G__law_mix hr rfl D__law_mix.g D__law_mix.F.kp D__law_mix.b .nil pass0 (pa_cons (pv 0) (pa_cons (pv 1) pa_nil))))
    (pss_cons (ps_set (i := 3) sc__law_count.nd rfl (.inl rfl) (pe_op op_fdiv (pv 2) pe_int))
    (pss_cons (ps_if (pt_cmpR (k_eqD (K := KK) hr.units) (pe_op op_mod (pv 2) pe_int) pe_int (nomark _)) (pss_one (ps_ret pe_int)) pss_nil)
    (pss_cons (ps_set (i := 4) sc__law_count.nd rfl (.inl rfl) (pe_lst (pa_cons (pe_op op_mod (pv 3) pe_int) (pa_cons (pe_op op_mod (pv 3) pe_int) (pa_cons (pe_op op_mod (pv 3) pe_int) (pa_cons (pe_ix (k_ix (K := KK)) (pe_lst (pa_cons pe_int (pa_cons pe_int (pa_cons pe_int (pa_cons pe_int pa_nil))))) (pe_op op_mod (pv 3) pe_int) (fun _ _ => rfl)) (pa_cons (pe_op op_mod (pv 3) pe_int) (pa_cons (pe_op (k_plus (K := KK)) (pe_op (k_times (K := KK)) (pv 3) (pe_op op_pow pe_int pe_int)) (pe_op op_mod (pv 3) pe_int)) pa_nil))))))))
    (pss_one (ps_ret (pe_ix (k_ix (K := KK)) (pv 4) (pe_op op_mod (pe_call G__law_mix hr rfl D__law_mix.g D__law_mix.F.kp D__law_mix.b .nil pass0 (pa_cons (pv 0) (pa_cons pe_int pa_nil))) pe_int) (fun _ _ => rfl)))))))), ?_⟩
  exact done_P (os := [0, 0, 0, 0, 0]) h rfl (by decide) (by decide)
    (fs_seq (fs_asgZ (i := 2) rfl (FE.r (fe_call (fa_cons fe_var (fa_cons fe_var fa_nil)))))
    (fs_seq (fs_asgZ (i := 3) rfl (FE.r (fe_op ro_div fe_var fe_int)))
    (fs_seq (fs_if (fb_test (fe_op ro_eq (fe_op ro_mod fe_var fe_int) fe_int)) (fs_retZ rfl (FE.r fe_int)) fs_next)
    (fs_seq (fs_asgZ (i := 4) rfl (FE.r (fe_lst (fa_cons (fe_op ro_mod fe_var fe_int) (fa_cons (fe_op ro_mod fe_var fe_int) (fa_cons (fe_op ro_mod fe_var fe_int) (fa_cons (fe_op ro_ix (fe_lst (fa_cons fe_int (fa_cons fe_int (fa_cons fe_int (fa_cons fe_int fa_nil))))) (fe_op ro_mod fe_var fe_int)) (fa_cons (fe_op ro_mod fe_var fe_int) (fa_cons (fe_op ro_plus (fe_op ro_times fe_var (fe_op ro_pow fe_int fe_int)) (fe_op ro_mod fe_var fe_int)) fa_nil)))))))))
    (fs_retZ rfl (FE.r (fe_op ro_ix fe_var (fe_op ro_mod (fe_call (fa_cons fe_var (fa_cons fe_int fa_nil))) fe_int))))))))
theorem ok__law_table {f : Addr} {fd : FuncData} (T : Txt mg t_MOST c_BadPlace c_BadTable c_BadView c_VeilError) (D : Dfn KK mg "_law_table" s__law_table ["_law_script", "_law_high", "_law_wide"] f fd) {f__law_count : Addr} {fd__law_count : FuncData} (D__law_count : Dfn KK mg "_law_count" s__law_count ["_law_script", "_law_k"] f__law_count fd__law_count) (G__law_count : FnOk P w KK mg base CX0 2 f__law_count fd__law_count ["_law_script", "_law_k"] (spP (cmL c_BadTable c_BadView c_BadPlace) 0 M__law_count)) : FnOk P w KK mg base CX0 3 f fd ["_law_script", "_law_high", "_law_wide"] (spP (cmL c_BadTable c_BadView c_BadPlace) 3 M__law_table) := by
  refine D.F.ok sc__law_table lenP (fun cdv A outer s H vs Q E hr h => ?_)
  refine ⟨_, (pss_cons (ps_set (i := 3) sc__law_table.nd rfl (.inl rfl) (pe_lst pa_nil))
    (pss_cons (ps_for PassesOwn.never rfl (pi_range1 (by rfl) T.no_range (pa_cons (pv 1) pa_nil)) (pg_name (i := 4) sc__law_table.nd rfl (.inr rfl))
    (pss_one (ps_expr (pe_bm PySem.F.plainAttrs_list PySem.F.slot_list_append PySem.F.type_list_append mt_append (pv 3) (pa_cons (pe_lc (own := [("_law_column", 5)]) rfl sc__law_table.nd (pi_range1 (by rfl) T.no_range (pa_cons (pv 2) pa_nil)) (blkOk_by (N := n__law_table) (sc := defScope s__law_table) (by decide +kernel))
      (fun _ _ _ _ _ => (pg_name (i := 5) sc__law_table.nd rfl (.inl rfl))) (fun _ _ _ _ _ => pts_nil) (fun _ _ _ _ _ => (pe_call G__law_count hr rfl D__law_count.g D__law_count.F.kp D__law_count.b .nil pass0 (pa_cons (pv 0) (pa_cons (pe_op (k_plus (K := KK)) (pe_op (k_plus (K := KK)) pe_int (pe_op (k_times (K := KK)) (pv 2) (pv 4))) (pv 5)) pa_nil))))) pa_nil)))))
    (pss_one (ps_ret (pv 3))))), ?_⟩
  exact done_P (os := [0, 0, 0, 3, 0, 0]) h rfl (by decide) (by decide)
    (fs_seq (fs_asgN (i := 3) rfl (FN.r (fn_lst fns_nil)))
    (fs_seq (fs_for (fi_rng1 (fa_cons fe_var fa_nil)) ft_name (fs_app (i := 3) (c := 3) rfl (by decide) pth_var noer_ok (fk_new (FN.r (fn_lc (vs := [5]) (fi_rng1 (fa_cons fe_var fa_nil)) ft_name fb_yes (fn_flat (fe_call (fa_cons fe_var (fa_cons (fe_op ro_plus (fe_op ro_plus fe_int (fe_op ro_times fe_var fe_var)) fe_var) fa_nil)))))))))
    (fs_retM (fm_var (i := 3) (by decide)))))
theorem ok__law_all {f : Addr} {fd : FuncData} (T : Txt mg t_MOST c_BadPlace c_BadTable c_BadView c_VeilError) (D : Dfn KK mg "_law_all" s__law_all ["_law_table_here"] f fd) : FnOk P w KK mg base CX0 1 f fd ["_law_table_here"] (spP (cmL c_BadTable c_BadView c_BadPlace) 0 M__law_all) := by
  refine D.F.ok sc__law_all lenP (fun cdv A outer s H vs Q E hr h => ?_)
  refine ⟨_, (pss_cons (ps_set (i := 1) sc__law_all.nd rfl (.inl rfl) (pe_lst pa_nil))
    (pss_cons (ps_for PassesOwn.never rfl (pi_range1 (by rfl) T.no_range (pa_cons (pe_callB (id := "len") (DL.k_len (K := KK)) (by rfl) T.no_len (by decide +kernel) (pa_cons (pv 0) pa_nil)) pa_nil)) (pg_name (i := 2) sc__law_all.nd rfl (.inr rfl))
    (pss_one (ps_set (i := 1) sc__law_all.nd rfl (.inl rfl) (pe_op (k_plus (K := KK)) (pv 1) (pe_lc (own := [("_law_column", 3)]) rfl sc__law_all.nd (pi_range1 (by rfl) T.no_range (pa_cons (pe_callB (id := "len") (DL.k_len (K := KK)) (by rfl) T.no_len (by decide +kernel) (pa_cons (pe_ix (k_ix (K := KK)) (pv 0) pe_int (fun _ _ => rfl)) pa_nil)) pa_nil)) (blkOk_by (N := n__law_all) (sc := defScope s__law_all) (by decide +kernel))
      (fun _ _ _ _ _ => (pg_name (i := 3) sc__law_all.nd rfl (.inl rfl))) (fun _ _ _ _ _ => pts_nil) (fun _ _ _ _ _ => (pe_tup (pa_cons (pv 2) (pa_cons (pv 3) pa_nil)))))))))
    (pss_one (ps_ret (pv 1))))), ?_⟩
  exact done_P (os := [0, 0, 0, 0]) h rfl (by decide) (by decide)
    (fs_seq (fs_asgZ (i := 1) rfl (FE.r (fe_lst fa_nil)))
    (fs_seq (fs_for (fi_rng1 (fa_cons (fe_cb rc_len (fa_cons fe_var fa_nil)) fa_nil)) ft_name (fs_asgZ (i := 1) rfl (FE.r (fe_op ro_plus fe_var (fe_lc (vs := [3]) (fi_rng1 (fa_cons (fe_cb rc_len (fa_cons (fe_op ro_ix fe_var fe_int) fa_nil)) fa_nil)) ft_name fb_yes (fe_tup (fa_cons fe_var (fa_cons fe_var fa_nil))))))))
    (fs_retZ rfl (FE.r fe_var))))
theorem ok__law_places {f : Addr} {fd : FuncData} (T : Txt mg t_MOST c_BadPlace c_BadTable c_BadView c_VeilError) (D : Dfn KK mg "_law_places" s__law_places ["_law_script", "_law_table_here"] f fd) {f__law_mix : Addr} {fd__law_mix : FuncData} (D__law_mix : Dfn KK mg "_law_mix" s__law_mix ["_law_script", "_law_k"] f__law_mix fd__law_mix) (G__law_mix : FnOk P w KK mg base CX0 1 f__law_mix fd__law_mix ["_law_script", "_law_k"] (spP (cmL c_BadTable c_BadView c_BadPlace) 0 M__law_mix)) {f__law_all : Addr} {fd__law_all : FuncData} (D__law_all : Dfn KK mg "_law_all" s__law_all ["_law_table_here"] f__law_all fd__law_all) (G__law_all : FnOk P w KK mg base CX0 1 f__law_all fd__law_all ["_law_table_here"] (spP (cmL c_BadTable c_BadView c_BadPlace) 0 M__law_all)) : FnOk P w KK mg base CX0 2 f fd ["_law_script", "_law_table_here"] (spP (cmL c_BadTable c_BadView c_BadPlace) 0 M__law_places) := by
  refine D.F.ok sc__law_places lenP (fun cdv A outer s H vs Q E hr h => ?_)
  refine ⟨_, (pss_cons (ps_set (i := 2) sc__law_places.nd rfl (.inr rfl) (pe_op op_sub (pe_op op_mod (pe_call G__law_mix hr rfl D__law_mix.g D__law_mix.F.kp D__law_mix.b .nil pass0 (pa_cons (pv 0) (pa_cons pe_int pa_nil))) pe_int) pe_int))
    (pss_cons (ps_set (i := 3) sc__law_places.nd rfl (.inr rfl) (pe_call G__law_all hr rfl D__law_all.g D__law_all.F.kp D__law_all.b .nil pass0 (pa_cons (pv 1) pa_nil)))
    (pss_one (ps_ret (pe_lc (own := [("_law_k", 4)]) rfl sc__law_places.nd (pi_range1 (by rfl) T.no_range (pa_cons (pe_callB (id := "len") (DL.k_len (K := KK)) (by rfl) T.no_len (by decide +kernel) (pa_cons (pv 3) pa_nil)) pa_nil)) (blkOk_by (N := n__law_places) (sc := defScope s__law_places) (by decide +kernel))
      (fun _ _ _ _ _ => (pg_name (i := 4) sc__law_places.nd rfl (.inl rfl))) (fun _ _ _ _ _ => pts_one (pt_cmpR op_gt (pe_op op_mod (pe_call G__law_mix hr rfl D__law_mix.g D__law_mix.F.kp D__law_mix.b .nil pass0 (pa_cons (pv 0) (pa_cons (pe_op (k_plus (K := KK)) pe_int (pv 4)) pa_nil))) pe_int) (pv 2) (nomark _))) (fun _ _ _ _ _ => (pe_ix (k_ix (K := KK)) (pv 3) (pv 4) (fun _ _ => rfl)))))))), ?_⟩
  exact done_P (os := [0, 0, 0, 0, 0]) h rfl (by decide) (by decide)
    (fs_seq (fs_asgZ (i := 2) rfl (FE.r (fe_op ro_sub (fe_op ro_mod (fe_call (fa_cons fe_var (fa_cons fe_int fa_nil))) fe_int) fe_int)))
    (fs_seq (fs_asgZ (i := 3) rfl (FE.r (fe_call (fa_cons fe_var fa_nil))))
    (fs_retZ rfl (FE.r (fe_lc (vs := [4]) (fi_rng1 (fa_cons (fe_cb rc_len (fa_cons fe_var fa_nil)) fa_nil)) ft_name (fb_test (fe_op ro_gt (fe_op ro_mod (fe_call (fa_cons fe_var (fa_cons (fe_op ro_plus fe_int fe_var) fa_nil))) fe_int) fe_var)) (fe_op ro_ix fe_var fe_var))))))
theorem ok__law_column_sums {f : Addr} {fd : FuncData} (T : Txt mg t_MOST c_BadPlace c_BadTable c_BadView c_VeilError) (D : Dfn KK mg "_law_column_sums" s__law_column_sums ["_law_table_here"] f fd) : FnOk P w KK mg base CX0 1 f fd ["_law_table_here"] (spP (cmL c_BadTable c_BadView c_BadPlace) 3 M__law_column_sums) := by
  refine D.F.ok sc__law_column_sums lenP (fun cdv A outer s H vs Q E hr h => ?_)
  refine ⟨_, (pss_one (ps_ret (pe_lc (own := [("_law_column", 1)]) rfl sc__law_column_sums.nd (pi_range1 (by rfl) T.no_range (pa_cons (pe_callB (id := "len") (DL.k_len (K := KK)) (by rfl) T.no_len (by decide +kernel) (pa_cons (pe_ix (k_ix (K := KK)) (pv 0) pe_int (fun _ _ => rfl)) pa_nil)) pa_nil)) (blkOk_by (N := n__law_column_sums) (sc := defScope s__law_column_sums) (by decide +kernel))
      (fun _ _ _ _ _ => (pg_name (i := 1) sc__law_column_sums.nd rfl (.inr rfl))) (fun _ _ _ _ _ => pts_nil) (fun _ _ _ _ _ => (pe_callB (id := "sum") (k_sumX (K := KK) rfl) (by rfl) T.no_sum (by decide +kernel) (pa_cons (pe_lc (own := [("_law_row", 2)]) rfl sc__law_column_sums.nd (k_pi_any (K := KK) (pv 0)) (blk_in (N := n__law_column_sums) (sc0 := defScope s__law_column_sums) rfl (by decide +kernel))
      (fun _ _ _ _ _ => (pg_name (i := 2) sc__law_column_sums.nd rfl (.inl rfl))) (fun _ _ _ _ _ => pts_nil) (fun _ _ _ _ _ => (pe_ix (k_ix (K := KK)) (pv 2) (pv 1) (fun _ _ => rfl)))) pa_nil)))))), ?_⟩
  exact done_P (os := [0, 0, 0]) h rfl (by decide) (by decide)
    (fs_retN (FN.r (fn_lc (vs := [1]) (fi_rng1 (fa_cons (fe_cb rc_len (fa_cons (fe_op ro_ix fe_var fe_int) fa_nil)) fa_nil)) ft_name fb_yes (fn_flat (fe_cb rc_sum (fa_cons (fe_lc (vs := [2]) (fi_any fe_var) ft_name fb_yes (fe_op ro_ix fe_var fe_var)) fa_nil))))))
theorem ok__law_view {f : Addr} {fd : FuncData} (T : Txt mg t_MOST c_BadPlace c_BadTable c_BadView c_VeilError) (D : Dfn KK mg "_law_view" s__law_view ["_law_table_here", "_law_places_here"] f fd) {f__law_column_sums : Addr} {fd__law_column_sums : FuncData} (D__law_column_sums : Dfn KK mg "_law_column_sums" s__law_column_sums ["_law_table_here"] f__law_column_sums fd__law_column_sums) (G__law_column_sums : FnOk P w KK mg base CX0 1 f__law_column_sums fd__law_column_sums ["_law_table_here"] (spP (cmL c_BadTable c_BadView c_BadPlace) 3 M__law_column_sums)) : FnOk P w KK mg base CX0 2 f fd ["_law_table_here", "_law_places_here"] (spP (cmL c_BadTable c_BadView c_BadPlace) 3 M__law_view) := by
  refine D.F.ok sc__law_view lenP (fun cdv A outer s H vs Q E hr h => ?_)
  refine ⟨_, (pss_cons (ps_set (i := 2) sc__law_view.nd rfl (.inl rfl) (pe_lst pa_nil))
    (pss_cons (ps_for PassesOwn.never rfl (pi_range1 (by rfl) T.no_range (pa_cons (pe_callB (id := "len") (DL.k_len (K := KK)) (by rfl) T.no_len (by decide +kernel) (pa_cons (pv 0) pa_nil)) pa_nil)) (pg_name (i := 3) sc__law_view.nd rfl (.inr rfl))
    (pss_one (ps_expr (pe_bm PySem.F.plainAttrs_list PySem.F.slot_list_append PySem.F.type_list_append mt_append (pv 2) (pa_cons (pe_lc (own := [("_law_at", 4)]) rfl sc__law_view.nd (pi_range1 (by rfl) T.no_range (pa_cons (pe_callB (id := "len") (DL.k_len (K := KK)) (by rfl) T.no_len (by decide +kernel) (pa_cons (pe_ix (k_ix (K := KK)) (pv 0) pe_int (fun _ _ => rfl)) pa_nil)) pa_nil)) (blkOk_by (N := n__law_view) (sc := defScope s__law_view) (by decide +kernel))
      (fun _ _ _ _ _ => (pg_name (i := 4) sc__law_view.nd rfl (.inl rfl))) (fun _ _ _ _ _ => pts_nil) (fun _ _ _ _ _ => (pe_ix (k_ix (K := KK)) (pe_lst (pa_cons (pe_ix (k_ix (K := KK)) (pe_ix (k_ix (K := KK)) (pv 0) (pv 3) (fun _ _ => rfl)) (pv 4) (fun _ _ => rfl)) (pa_cons pe_non pa_nil))) (pe_callTy (T := "int") call_int1 (by rfl) T.no_int (by decide +kernel) (pa_cons (pe_cmpR (k_inD (room_far hr)) (pe_tup (pa_cons (pv 3) (pa_cons (pv 4) pa_nil))) (pv 1) (by rfl)) pa_nil)) (fun _ _ => rfl)))) pa_nil)))))
    (pss_one (ps_ret (pe_tup (pa_cons (pv 2) (pa_cons (pe_lc (own := [("_law_row", 3)]) rfl sc__law_view.nd (k_pi_any (K := KK) (pv 0)) (blkOk_by (N := n__law_view) (sc := defScope s__law_view) (by decide +kernel))
      (fun _ _ _ _ _ => (pg_name (i := 3) sc__law_view.nd rfl (.inl rfl))) (fun _ _ _ _ _ => pts_nil) (fun _ _ _ _ _ => (pe_callB (id := "sum") (k_sumX (K := KK) rfl) (by rfl) T.no_sum (by decide +kernel) (pa_cons (pv 3) pa_nil)))) (pa_cons (pe_call G__law_column_sums hr rfl D__law_column_sums.g D__law_column_sums.F.kp D__law_column_sums.b .nil pass0 (pa_cons (pv 0) pa_nil)) pa_nil)))))))), ?_⟩
  exact done_P (os := [0, 0, 3, 0, 0]) h rfl (by decide) (by decide)
    (fs_seq (fs_asgN (i := 2) rfl (FN.r (fn_lst fns_nil)))
    (fs_seq (fs_for (fi_rng1 (fa_cons (fe_cb rc_len (fa_cons fe_var fa_nil)) fa_nil)) ft_name (fs_app (i := 2) (c := 3) rfl (by decide) pth_var noer_ok (fk_new (FN.r (fn_lc (vs := [4]) (fi_rng1 (fa_cons (fe_cb rc_len (fa_cons (fe_op ro_ix fe_var fe_int) fa_nil)) fa_nil)) ft_name fb_yes (fn_flat (fe_op ro_ix (fe_lst (fa_cons (fe_op ro_ix (fe_op ro_ix fe_var fe_var) fe_var) (fa_cons fe_non fa_nil))) (fe_cb rc_int (fa_cons (fe_op ro_in (fe_tup (fa_cons fe_var (fa_cons fe_var fa_nil))) fe_var) fa_nil)))))))))
    (fs_retM (fm_tup (fms_cons (fm_var (i := 2) (by decide)) (fms_cons (fm_k (cm := fun _ => 0) (W := fun _ _ _ _ => False) (fk_new (FN.r (fn_lc (vs := [3]) (fi_any fe_var) ft_name fb_yes (fn_flat (fe_cb rc_sum (fa_cons fe_var fa_nil))))))) (fms_cons (fm_k (cm := fun _ => 0) (W := fun _ _ _ _ => False) (fk_new (FN.r (fn_call (fa_cons fe_var fa_nil))))) fms_nil)))))))
theorem ok__law_whole {f : Addr} {fd : FuncData} (T : Txt mg t_MOST c_BadPlace c_BadTable c_BadView c_VeilError) (D : Dfn KK mg "_law_whole" s__law_whole ["_law_thing"] f fd) : FnOk P w KK mg base CX0 1 f fd ["_law_thing"] (spP (cmL c_BadTable c_BadView c_BadPlace) 0 M__law_whole) := by
  refine D.F.ok sc__law_whole lenP (fun cdv A outer s H vs Q E hr h => ?_)
  refine ⟨_, (pss_one (ps_ret (pe_and (pe_callB (id := "isinstance") (k_isi (K := KK)) (by rfl) T.no_isinstance (by decide +kernel) (pa_cons (pv 0) (pa_cons (pe_bltn (v := .ty "int") (by rfl) T.no_int (by decide +kernel) rfl) pa_nil))) (pe_one (pe_not (pe_callB (id := "isinstance") (k_isi (K := KK)) (by rfl) T.no_isinstance (by decide +kernel) (pa_cons (pv 0) (pa_cons (pe_bltn (v := .ty "bool") (by rfl) T.no_bool (by decide +kernel) rfl) pa_nil)))))))), ?_⟩
  exact done_P (os := [0]) h rfl (by decide) (by decide)
    (fs_retZ rfl (FE.r (fe_and (fe_isi (T := "int") (by decide) fe_var) (fe_not (fe_isi (T := "bool") (by decide) fe_var)))))
theorem ok__law_has {f : Addr} {fd : FuncData} (T : Txt mg t_MOST c_BadPlace c_BadTable c_BadView c_VeilError) (D : Dfn KK mg "_law_has" s__law_has ["_law_table_here", "_law_view_here"] f fd) {f__law_whole : Addr} {fd__law_whole : FuncData} (D__law_whole : Dfn KK mg "_law_whole" s__law_whole ["_law_thing"] f__law_whole fd__law_whole) (G__law_whole : FnOk P w KK mg base CX0 1 f__law_whole fd__law_whole ["_law_thing"] (spP (cmL c_BadTable c_BadView c_BadPlace) 0 M__law_whole)) {f__law_column_sums : Addr} {fd__law_column_sums : FuncData} (D__law_column_sums : Dfn KK mg "_law_column_sums" s__law_column_sums ["_law_table_here"] f__law_column_sums fd__law_column_sums) (G__law_column_sums : FnOk P w KK mg base CX0 1 f__law_column_sums fd__law_column_sums ["_law_table_here"] (spP (cmL c_BadTable c_BadView c_BadPlace) 3 M__law_column_sums)) : FnOk P w KK mg base CX0 2 f fd ["_law_table_here", "_law_view_here"] (spP (cmL c_BadTable c_BadView c_BadPlace) 0 M__law_has) := by
  refine D.F.ok sc__law_has lenP (fun cdv A outer s H vs Q E hr h => ?_)
  refine ⟨_, (pss_cons (ps_if (PW.pt (pw_or (pt_not (pt_val (pe_callB (id := "isinstance") (k_isi (K := KK)) (by rfl) T.no_isinstance (by decide +kernel) (pa_cons (pv 0) (pa_cons (pe_bltn (v := .ty "list") (by rfl) T.no_list (by decide +kernel) rfl) pa_nil))))) (pw_or1 (pt_cmpR (k_neD (K := KK) hr.units) (pe_callB (id := "len") (DL.k_len (K := KK)) (by rfl) T.no_len (by decide +kernel) (pa_cons (pv 0) pa_nil)) (pe_callB (id := "len") (DL.k_len (K := KK)) (by rfl) T.no_len (by decide +kernel) (pa_cons (pe_ix (k_ix (K := KK)) (pv 1) pe_int (fun _ _ => rfl)) pa_nil)) (nomark _))))) (pss_one (ps_ret pe_bl)) pss_nil)
    (pss_cons (ps_for PassesOwn.never rfl (k_pi_zip (K := KK) (by rfl) T.no_zip (pa_cons (pv 0) (pa_cons (pe_ix (k_ix (K := KK)) (pv 1) pe_int (fun _ _ => rfl)) pa_nil))) (k_pg_tup (K := KK) (n := 2) rfl (pgs_cons (pg_name (i := 2) sc__law_has.nd rfl (.inl rfl)) (pgs_cons (pg_name (i := 3) sc__law_has.nd rfl (.inl rfl)) pgs_nil)))
    (pss_cons (ps_if (PW.pt (pw_or (pt_not (pt_val (pe_callB (id := "isinstance") (k_isi (K := KK)) (by rfl) T.no_isinstance (by decide +kernel) (pa_cons (pv 2) (pa_cons (pe_bltn (v := .ty "list") (by rfl) T.no_list (by decide +kernel) rfl) pa_nil))))) (pw_or1 (pt_cmpR (k_neD (K := KK) hr.units) (pe_callB (id := "len") (DL.k_len (K := KK)) (by rfl) T.no_len (by decide +kernel) (pa_cons (pv 2) pa_nil)) (pe_callB (id := "len") (DL.k_len (K := KK)) (by rfl) T.no_len (by decide +kernel) (pa_cons (pv 3) pa_nil)) (nomark _))))) (pss_one (ps_ret pe_bl)) pss_nil)
    (pss_one (ps_for PassesOwn.never rfl (k_pi_zip (K := KK) (by rfl) T.no_zip (pa_cons (pv 2) (pa_cons (pv 3) pa_nil))) (k_pg_tup (K := KK) (n := 2) rfl (pgs_cons (pg_name (i := 4) sc__law_has.nd rfl (.inl rfl)) (pgs_cons (pg_name (i := 5) sc__law_has.nd rfl (.inl rfl)) pgs_nil)))
    (pss_one (ps_if (PW.pt (pw_or (pt_not (pt_val (pe_call G__law_whole hr rfl D__law_whole.g D__law_whole.F.kp D__law_whole.b .nil pass0 (pa_cons (pv 4) pa_nil)))) (pw_or (pt_cmpR op_lt (pv 4) pe_int (nomark _)) (pw_or1 (PW.pt (pw_and (pt_cmpR op_notN (pv 5) pe_non (nomark _)) (pw_and1 (pt_cmpR (k_neD (K := KK) hr.units) (pv 5) (pv 4) (nomark _))))))))) (pss_one (ps_ret pe_bl)) pss_nil))))))
    (pss_one (ps_ret (pe_and (pe_cmpR (k_eqD (K := KK) hr.units) (pe_lc (own := [("_law_row", 2)]) rfl sc__law_has.nd (k_pi_any (K := KK) (pv 0)) (blkOk_by (N := n__law_has) (sc := defScope s__law_has) (by decide +kernel))
      (fun _ _ _ _ _ => (pg_name (i := 2) sc__law_has.nd rfl (.inl rfl))) (fun _ _ _ _ _ => pts_nil) (fun _ _ _ _ _ => (pe_callB (id := "sum") (k_sumX (K := KK) rfl) (by rfl) T.no_sum (by decide +kernel) (pa_cons (pv 2) pa_nil)))) (pe_ix (k_ix (K := KK)) (pv 1) pe_int (fun _ _ => rfl)) (nomark _)) (pe_one (pe_cmpR (k_eqD (K := KK) hr.units) (pe_call G__law_column_sums hr rfl D__law_column_sums.g D__law_column_sums.F.kp D__law_column_sums.b .nil pass0 (pa_cons (pv 0) pa_nil)) (pe_ix (k_ix (K := KK)) (pv 1) pe_int (fun _ _ => rfl)) (nomark _)))))))), ?_⟩
  exact done_P (os := [0, 0, 0, 0, 0, 0]) h rfl (by decide) (by decide)
    (fs_seq (fs_if (fb_or (fb_not (fb_B (fe_isi (T := "list") (by decide) fe_var))) (fb_test (fe_op ro_ne (fe_cb rc_len (fa_cons fe_var fa_nil)) (fe_cb rc_len (fa_cons (fe_op ro_ix fe_var fe_int) fa_nil))))) (fs_retZ rfl (FE.r fe_bl)) fs_next)
    (fs_seq (fs_for (fi_zip (fa_cons fe_var (fa_cons (fe_op ro_ix fe_var fe_int) fa_nil))) (ft_tup (n := 2) (fts_cons ft_name (fts_cons ft_name fts_nil))) (fs_seq (fs_if (fb_or (fb_not (fb_B (fe_isi (T := "list") (by decide) fe_var))) (fb_test (fe_op ro_ne (fe_cb rc_len (fa_cons fe_var fa_nil)) (fe_cb rc_len (fa_cons fe_var fa_nil))))) (fs_retZ rfl (FE.r fe_bl)) fs_next)
    (fs_for (fi_zip (fa_cons fe_var (fa_cons fe_var fa_nil))) (ft_tup (n := 2) (fts_cons ft_name (fts_cons ft_name fts_nil))) (fs_if (fb_or (fb_not (fb_B (fe_call (fa_cons fe_var fa_nil)))) (fb_or (fb_test (fe_op ro_lt fe_var fe_int)) (fb_and (fb_test (fe_op ro_notN fe_var fe_non)) (fb_test (fe_op ro_ne fe_var fe_var))))) (fs_retZ rfl (FE.r fe_bl)) fs_next))))
    (fs_retZ rfl (FE.r (fe_and (fe_op ro_eq (fe_lc (vs := [2]) (fi_any fe_var) ft_name fb_yes (fe_cb rc_sum (fa_cons fe_var fa_nil))) (fe_op ro_ix fe_var fe_int)) (fe_op ro_eq (fe_call (fa_cons fe_var fa_nil)) (fe_op ro_ix fe_var fe_int)))))))
theorem ok__law_rectangle {f : Addr} {fd : FuncData} (T : Txt mg t_MOST c_BadPlace c_BadTable c_BadView c_VeilError) (D : Dfn KK mg "_law_rectangle" s__law_rectangle ["_law_script", "_law_table_here", "_law_k"] f fd) {f__law_mix : Addr} {fd__law_mix : FuncData} (D__law_mix : Dfn KK mg "_law_mix" s__law_mix ["_law_script", "_law_k"] f__law_mix fd__law_mix) (G__law_mix : FnOk P w KK mg base CX0 1 f__law_mix fd__law_mix ["_law_script", "_law_k"] (spP (cmL c_BadTable c_BadView c_BadPlace) 0 M__law_mix)) : FnOk P w KK mg base CX0 2 f fd ["_law_script", "_law_table_here", "_law_k"] (spM 1 3 0 M__law_rectangle) := by
  refine D.F.ok sc__law_rectangle lenM (fun cdv A outer s H vs Q E hr h => ?_)
  refine ⟨_, (pss_cons (ps_set (i := 3) sc__law_rectangle.nd rfl (.inl rfl) (pe_op op_mod (pe_call G__law_mix hr rfl D__law_mix.g D__law_mix.F.kp D__law_mix.b .nil pass0 (pa_cons (pv 0) (pa_cons (pv 2) pa_nil))) (pe_callB (id := "len") (DL.k_len (K := KK)) (by rfl) T.no_len (by decide +kernel) (pa_cons (pv 1) pa_nil))))
    (pss_cons (ps_set (i := 4) sc__law_rectangle.nd rfl (.inl rfl) (pe_op op_mod (pe_call G__law_mix hr rfl D__law_mix.g D__law_mix.F.kp D__law_mix.b .nil pass0 (pa_cons (pv 0) (pa_cons (pe_op (k_plus (K := KK)) (pv 2) pe_int) pa_nil))) (pe_callB (id := "len") (DL.k_len (K := KK)) (by rfl) T.no_len (by decide +kernel) (pa_cons (pv 1) pa_nil))))
    (pss_cons (ps_set (i := 5) sc__law_rectangle.nd rfl (.inl rfl) (pe_op op_mod (pe_call G__law_mix hr rfl D__law_mix.g D__law_mix.F.kp D__law_mix.b .nil pass0 (pa_cons (pv 0) (pa_cons (pe_op (k_plus (K := KK)) (pv 2) pe_int) pa_nil))) (pe_callB (id := "len") (DL.k_len (K := KK)) (by rfl) T.no_len (by decide +kernel) (pa_cons (pe_ix (k_ix (K := KK)) (pv 1) pe_int (fun _ _ => rfl)) pa_nil))))
    (pss_cons (ps_set (i := 6) sc__law_rectangle.nd rfl (.inl rfl) (pe_op op_mod (pe_call G__law_mix hr rfl D__law_mix.g D__law_mix.F.kp D__law_mix.b .nil pass0 (pa_cons (pv 0) (pa_cons (pe_op (k_plus (K := KK)) (pv 2) pe_int) pa_nil))) (pe_callB (id := "len") (DL.k_len (K := KK)) (by rfl) T.no_len (by decide +kernel) (pa_cons (pe_ix (k_ix (K := KK)) (pv 1) pe_int (fun _ _ => rfl)) pa_nil))))
    (pss_cons (ps_set (i := 7) sc__law_rectangle.nd rfl (.inl rfl) (pe_callB (id := "min") (k_min3 (K := KK) rfl) (by rfl) T.no_min (by decide +kernel) (pa_cons (pe_ix (k_ix (K := KK)) (pe_ix (k_ix (K := KK)) (pv 1) (pv 3) (fun _ _ => rfl)) (pv 5) (fun _ _ => rfl)) (pa_cons (pe_ix (k_ix (K := KK)) (pe_ix (k_ix (K := KK)) (pv 1) (pv 4) (fun _ _ => rfl)) (pv 6) (fun _ _ => rfl)) (pa_cons (pe_op (k_plus (K := KK)) pe_int (pe_op op_mod (pe_call G__law_mix hr rfl D__law_mix.g D__law_mix.F.kp D__law_mix.b .nil pass0 (pa_cons (pv 0) (pa_cons (pe_op (k_plus (K := KK)) (pv 2) pe_int) pa_nil))) pe_int)) pa_nil)))))
    (pss_cons (ps_asg (pe_op op_sub (pe_ix (k_ix (K := KK)) (pe_ix (k_ix (K := KK)) (pv 1) (pv 3) (fun _ _ => rfl)) (pv 5) (fun _ _ => rfl)) (pv 7)) (pg_sub (pe_ix (k_ix (K := KK)) (pv 1) (pv 3) (fun _ _ => rfl)) (pv 5) set_list))
    (pss_cons (ps_asg (pe_op op_sub (pe_ix (k_ix (K := KK)) (pe_ix (k_ix (K := KK)) (pv 1) (pv 4) (fun _ _ => rfl)) (pv 6) (fun _ _ => rfl)) (pv 7)) (pg_sub (pe_ix (k_ix (K := KK)) (pv 1) (pv 4) (fun _ _ => rfl)) (pv 6) set_list))
    (pss_cons (ps_asg (pe_op (k_plus (K := KK)) (pe_ix (k_ix (K := KK)) (pe_ix (k_ix (K := KK)) (pv 1) (pv 3) (fun _ _ => rfl)) (pv 6) (fun _ _ => rfl)) (pv 7)) (pg_sub (pe_ix (k_ix (K := KK)) (pv 1) (pv 3) (fun _ _ => rfl)) (pv 6) set_list))
    (pss_one (ps_asg (pe_op (k_plus (K := KK)) (pe_ix (k_ix (K := KK)) (pe_ix (k_ix (K := KK)) (pv 1) (pv 4) (fun _ _ => rfl)) (pv 5) (fun _ _ => rfl)) (pv 7)) (pg_sub (pe_ix (k_ix (K := KK)) (pv 1) (pv 4) (fun _ _ => rfl)) (pv 5) set_list))))))))))), ?_⟩
  exact done_M (os := [0, 13, 0, 0, 0, 0, 0, 0]) (m := 1) (c := 3) (cm := (cmL c_BadTable c_BadView c_BadPlace)) (W := fun cls o _ H => E cls o H) h rfl rfl (by decide) (by decide) (by decide)
    (fs_seq (fs_asgF (i := 3) rfl (FE.r (fe_op ro_mod (fe_call (fa_cons fe_var (fa_cons fe_var fa_nil))) (fe_cb rc_len (fa_cons fe_var fa_nil)))))
    (fs_seq (fs_asgF (i := 4) rfl (FE.r (fe_op ro_mod (fe_call (fa_cons fe_var (fa_cons (fe_op ro_plus fe_var fe_int) fa_nil))) (fe_cb rc_len (fa_cons fe_var fa_nil)))))
    (fs_seq (fs_asgF (i := 5) rfl (FE.r (fe_op ro_mod (fe_call (fa_cons fe_var (fa_cons (fe_op ro_plus fe_var fe_int) fa_nil))) (fe_cb rc_len (fa_cons (fe_op ro_ix fe_var fe_int) fa_nil)))))
    (fs_seq (fs_asgF (i := 6) rfl (FE.r (fe_op ro_mod (fe_call (fa_cons fe_var (fa_cons (fe_op ro_plus fe_var fe_int) fa_nil))) (fe_cb rc_len (fa_cons (fe_op ro_ix fe_var fe_int) fa_nil)))))
    (fs_seq (fs_asgF (i := 7) rfl (FE.r (fe_cb rc_min3 (fa_cons (fe_op ro_ix (fe_op ro_ix fe_var fe_var) fe_var) (fa_cons (fe_op ro_ix (fe_op ro_ix fe_var fe_var) fe_var) (fa_cons (fe_op ro_plus fe_int (fe_op ro_mod (fe_call (fa_cons fe_var (fa_cons (fe_op ro_plus fe_var fe_int) fa_nil))) fe_int)) fa_nil))))))
    (fs_seq (fs_setP (i := 1) (c := 13) rfl (by decide) (pth_ix pth_var fe_var) fe_var (fk_flat (FE.r (fe_op ro_sub (fe_op ro_ix (fe_op ro_ix fe_var fe_var) fe_var) fe_var))))
    (fs_seq (fs_setP (i := 1) (c := 13) rfl (by decide) (pth_ix pth_var fe_var) fe_var (fk_flat (FE.r (fe_op ro_sub (fe_op ro_ix (fe_op ro_ix fe_var fe_var) fe_var) fe_var))))
    (fs_seq (fs_setP (i := 1) (c := 13) rfl (by decide) (pth_ix pth_var fe_var) fe_var (fk_flat (FE.r (fe_op ro_plus (fe_op ro_ix (fe_op ro_ix fe_var fe_var) fe_var) fe_var))))
    (fs_setP (i := 1) (c := 13) rfl (by decide) (pth_ix pth_var fe_var) fe_var (fk_flat (FE.r (fe_op ro_plus (fe_op ro_ix (fe_op ro_ix fe_var fe_var) fe_var) fe_var))))))))))))
theorem ok__law_other {f : Addr} {fd : FuncData} (T : Txt mg t_MOST c_BadPlace c_BadTable c_BadView c_VeilError) (D : Dfn KK mg "_law_other" s__law_other ["_law_script", "_law_table_here"] f fd) {f__law_mix : Addr} {fd__law_mix : FuncData} (D__law_mix : Dfn KK mg "_law_mix" s__law_mix ["_law_script", "_law_k"] f__law_mix fd__law_mix) (G__law_mix : FnOk P w KK mg base CX0 1 f__law_mix fd__law_mix ["_law_script", "_law_k"] (spP (cmL c_BadTable c_BadView c_BadPlace) 0 M__law_mix)) {f__law_rectangle : Addr} {fd__law_rectangle : FuncData} (D__law_rectangle : Dfn KK mg "_law_rectangle" s__law_rectangle ["_law_script", "_law_table_here", "_law_k"] f__law_rectangle fd__law_rectangle) (G__law_rectangle : FnOk P w KK mg base CX0 2 f__law_rectangle fd__law_rectangle ["_law_script", "_law_table_here", "_law_k"] (spM 1 3 0 M__law_rectangle)) : FnOk P w KK mg base CX0 3 f fd ["_law_script", "_law_table_here"] (spP (cmL c_BadTable c_BadView c_BadPlace) 0 M__law_other) := by
  refine D.F.ok sc__law_other lenP (fun cdv A outer s H vs Q E hr h => ?_)
  refine ⟨_, (pss_cons (ps_set (i := 2) sc__law_other.nd rfl (.inl rfl) (pe_op op_mod (pe_call G__law_mix (hr.mono (by decide)) rfl D__law_mix.g D__law_mix.F.kp D__law_mix.b .nil pass0 (pa_cons (pv 0) (pa_cons pe_int pa_nil))) pe_int))
    (pss_cons (ps_setLc (i := 3) (own := [("_law_row", 4)]) rfl sc__law_other.nd rfl rfl (sw_true rfl rfl rfl (by decide +kernel)) (k_pi_any (K := KK) (pv 1)) (blkOk_by (N := n__law_other) (sc := defScope s__law_other) (by decide +kernel))
      (fun _ _ _ _ _ => (pg_name (i := 4) sc__law_other.nd rfl (.inl rfl))) (fun _ _ _ _ _ => pts_nil) (fun _ _ _ _ _ => (pe_callTy (T := "list") (k_list (K := KK)) (by rfl) T.no_list (by decide +kernel) (pa_cons (pv 4) pa_nil))))
    (pss_cons (ps_if (pt_cmpR op_lt (pv 2) pe_int (nomark _)) (pss_one (ps_for PassesOwn.never rfl (pi_range1 (by rfl) T.no_range (pa_cons (pe_ix (k_ix (K := KK)) (pe_lst (pa_cons pe_int (pa_cons pe_int (pa_cons pe_int (pa_cons pe_int (pa_cons pe_int pa_nil)))))) (pv 2) (fun _ _ => rfl)) pa_nil)) (pg_name (i := 6) sc__law_other.nd rfl (.inl rfl))
    (pss_one (ps_expr (pe_call G__law_rectangle hr rfl D__law_rectangle.g D__law_rectangle.F.kp D__law_rectangle.b .nil pass0 (pa_cons (pv 0) (pa_cons (pv 3) (pa_cons (pe_op (k_plus (K := KK)) pe_int (pe_op (k_times (K := KK)) pe_int (pv 6))) pa_nil)))))))) pss_nil)
    (pss_cons (ps_set (i := 4) sc__law_other.nd rfl (.inl rfl) (pe_op op_mod (pe_call G__law_mix (hr.mono (by decide)) rfl D__law_mix.g D__law_mix.F.kp D__law_mix.b .nil pass0 (pa_cons (pv 0) (pa_cons pe_int pa_nil))) (pe_callB (id := "len") (DL.k_len (K := KK)) (by rfl) T.no_len (by decide +kernel) (pa_cons (pv 3) pa_nil))))
    (pss_cons (ps_set (i := 5) sc__law_other.nd rfl (.inl rfl) (pe_op op_mod (pe_call G__law_mix (hr.mono (by decide)) rfl D__law_mix.g D__law_mix.F.kp D__law_mix.b .nil pass0 (pa_cons (pv 0) (pa_cons pe_int pa_nil))) (pe_callB (id := "len") (DL.k_len (K := KK)) (by rfl) T.no_len (by decide +kernel) (pa_cons (pe_ix (k_ix (K := KK)) (pv 3) pe_int (fun _ _ => rfl)) pa_nil))))
    (pss_cons (ps_if (PW.pt (pw_and (pt_cmpR (k_eqD (K := KK) hr.units) (pv 2) pe_int (nomark _)) (pw_and1 (pt_cmpR (k_eqD (K := KK) hr.units) (pe_op op_mod (pe_call G__law_mix (hr.mono (by decide)) rfl D__law_mix.g D__law_mix.F.kp D__law_mix.b .nil pass0 (pa_cons (pv 0) (pa_cons pe_int pa_nil))) pe_int) pe_int (nomark _))))) (pss_one (ps_asg (pe_op op_mod (pe_op op_fdiv (pe_call G__law_mix (hr.mono (by decide)) rfl D__law_mix.g D__law_mix.F.kp D__law_mix.b .nil pass0 (pa_cons (pv 0) (pa_cons pe_int pa_nil))) pe_int) pe_int) (pg_sub (pe_ix (k_ix (K := KK)) (pv 3) (pv 4) (fun _ _ => rfl)) (pv 5) set_list))) (pss_one (ps_if (PW.pt (pw_and (pt_cmpR (k_eqD (K := KK) hr.units) (pv 2) pe_int (nomark _)) (pw_and1 (pt_cmpR op_gt (pe_ix (k_ix (K := KK)) (pe_ix (k_ix (K := KK)) (pv 3) (pv 4) (fun _ _ => rfl)) (pv 5) (fun _ _ => rfl)) pe_int (nomark _))))) (pss_cons (ps_set (i := 7) sc__law_other.nd rfl (.inl rfl) (pe_ix (k_ix (K := KK)) (pe_lst (pa_cons (pe_tup (pa_cons (pv 4) (pa_cons (pe_op op_sub (pv 5) pe_int) pa_nil))) (pa_cons (pe_tup (pa_cons (pe_op op_sub (pv 4) pe_int) (pa_cons (pv 5) pa_nil))) pa_nil))) (pe_op op_mod (pe_op op_fdiv (pe_call G__law_mix (hr.mono (by decide)) rfl D__law_mix.g D__law_mix.F.kp D__law_mix.b .nil pass0 (pa_cons (pv 0) (pa_cons pe_int pa_nil))) pe_int) pe_int) (fun _ _ => rfl)))
    (pss_cons (ps_asg (pe_op op_sub (pe_ix (k_ix (K := KK)) (pe_ix (k_ix (K := KK)) (pv 3) (pv 4) (fun _ _ => rfl)) (pv 5) (fun _ _ => rfl)) pe_int) (pg_sub (pe_ix (k_ix (K := KK)) (pv 3) (pv 4) (fun _ _ => rfl)) (pv 5) set_list))
    (pss_one (ps_asg (pe_op (k_plus (K := KK)) (pe_ix (k_ix (K := KK)) (pe_ix (k_ix (K := KK)) (pv 3) (pe_ix (k_ix (K := KK)) (pv 7) pe_int (fun _ _ => rfl)) (fun _ _ => rfl)) (pe_ix (k_ix (K := KK)) (pv 7) pe_int (fun _ _ => rfl)) (fun _ _ => rfl)) pe_int) (pg_sub (pe_ix (k_ix (K := KK)) (pv 3) (pe_ix (k_ix (K := KK)) (pv 7) pe_int (fun _ _ => rfl)) (fun _ _ => rfl)) (pe_ix (k_ix (K := KK)) (pv 7) pe_int (fun _ _ => rfl)) set_list))))) pss_nil)))
    (pss_cons (ps_if (PW.pt (pw_and (pt_cmpR (k_eqD (K := KK) hr.units) (pv 2) pe_int (nomark _)) (pw_and1 (pt_cmpR op_lt (pe_callB (id := "len") (DL.k_len (K := KK)) (by rfl) T.no_len (by decide +kernel) (pa_cons (pv 3) pa_nil)) pe_int (nomark _))))) (pss_one (ps_expr (pe_bm PySem.F.plainAttrs_list PySem.F.slot_list_append PySem.F.type_list_append mt_append (pv 3) (pa_cons (pe_op (k_times (K := KK)) (pe_lst (pa_cons pe_int pa_nil)) (pe_callB (id := "len") (DL.k_len (K := KK)) (by rfl) T.no_len (by decide +kernel) (pa_cons (pe_ix (k_ix (K := KK)) (pv 3) pe_int (fun _ _ => rfl)) pa_nil))) pa_nil)))) pss_nil)
    (pss_cons (ps_if (pt_cmpR (k_eqD (K := KK) hr.units) (pv 2) pe_int (nomark _)) (pss_one (ps_setLc (i := 3) (own := [("_law_column", 5)]) rfl sc__law_other.nd rfl rfl (sw_true rfl rfl rfl (by decide +kernel)) (pi_range1 (by rfl) T.no_range (pa_cons (pe_callB (id := "len") (DL.k_len (K := KK)) (by rfl) T.no_len (by decide +kernel) (pa_cons (pe_ix (k_ix (K := KK)) (pv 1) pe_int (fun _ _ => rfl)) pa_nil)) pa_nil)) (blkOk_by (N := n__law_other) (sc := defScope s__law_other) (by decide +kernel))
      (fun _ _ _ _ _ => (pg_name (i := 5) sc__law_other.nd rfl (.inr rfl))) (fun _ _ _ _ _ => pts_nil) (fun _ _ _ _ _ => (pe_lc (own := [("_law_row", 4)]) rfl sc__law_other.nd (k_pi_any (K := KK) (pv 1)) (blk_in (N := n__law_other) (sc0 := defScope s__law_other) rfl (by decide +kernel))
      (fun _ _ _ _ _ => (pg_name (i := 4) sc__law_other.nd rfl (.inl rfl))) (fun _ _ _ _ _ => pts_nil) (fun _ _ _ _ _ => (pe_ix (k_ix (K := KK)) (pv 4) (pv 5) (fun _ _ => rfl))))))) pss_nil)
    (pss_one (ps_ret (pv 3))))))))))), ?_⟩
  exact done_P (os := [0, 0, 0, 3, 0, 0, 0, 0]) h rfl (by decide) (by decide)
    (fs_seq (fs_asgZ (i := 2) rfl (FE.r (fe_op ro_mod (fe_call (fa_cons fe_var (fa_cons fe_int fa_nil))) fe_int)))
    (fs_seq (fs_asgN (i := 3) rfl (FN.r (fn_lc (vs := [4]) (fi_any fe_var) ft_name fb_yes (fn_list (fa_cons fe_var fa_nil)))))
    (fs_seq (fs_if (fb_test (fe_op ro_lt fe_var fe_int)) (fs_for (fi_rng1 (fa_cons (fe_op ro_ix (fe_lst (fa_cons fe_int (fa_cons fe_int (fa_cons fe_int (fa_cons fe_int (fa_cons fe_int fa_nil)))))) fe_var) fa_nil)) ft_name (fs_dropC (fc_call (i := 3) (c := 3) (by decide) (by decide) (has_bef has_own) (fam_bef (cm := fun _ => 0) (W := fun _ _ _ _ => False) (fk_hid (FE.r fe_var)) (fam_own (fam_nxt (cm := fun _ => 0) (W := fun _ _ _ _ => False) (fk_hid (FE.r (fe_op ro_plus fe_int (fe_op ro_times fe_int fe_var)))) fam_nil)))))) fs_next)
    (fs_seq (fs_asgF (i := 4) rfl (FE.r (fe_op ro_mod (fe_call (fa_cons fe_var (fa_cons fe_int fa_nil))) (fe_cb rc_len (fa_cons fe_var fa_nil)))))
    (fs_seq (fs_asgF (i := 5) rfl (FE.r (fe_op ro_mod (fe_call (fa_cons fe_var (fa_cons fe_int fa_nil))) (fe_cb rc_len (fa_cons (fe_op ro_ix fe_var fe_int) fa_nil)))))
    (fs_seq (fs_if (fb_and (fb_test (fe_op ro_eq fe_var fe_int)) (fb_test (fe_op ro_eq (fe_op ro_mod (fe_call (fa_cons fe_var (fa_cons fe_int fa_nil))) fe_int) fe_int))) (fs_setP (i := 3) (c := 3) rfl (by decide) (pth_ix pth_var fe_var) fe_var (fk_new (FN.r (fn_flat (fe_op ro_mod (fe_op ro_div (fe_call (fa_cons fe_var (fa_cons fe_int fa_nil))) fe_int) fe_int))))) (fs_if (fb_and (fb_test (fe_op ro_eq fe_var fe_int)) (fb_test (fe_op ro_gt (fe_op ro_ix (fe_op ro_ix fe_var fe_var) fe_var) fe_int))) (fs_seq (fs_asgZ (i := 7) rfl (FE.r (fe_op ro_ix (fe_lst (fa_cons (fe_tup (fa_cons fe_var (fa_cons (fe_op ro_sub fe_var fe_int) fa_nil))) (fa_cons (fe_tup (fa_cons (fe_op ro_sub fe_var fe_int) (fa_cons fe_var fa_nil))) fa_nil))) (fe_op ro_mod (fe_op ro_div (fe_call (fa_cons fe_var (fa_cons fe_int fa_nil))) fe_int) fe_int))))
    (fs_seq (fs_setP (i := 3) (c := 3) rfl (by decide) (pth_ix pth_var fe_var) fe_var (fk_flat (FE.r (fe_op ro_sub (fe_op ro_ix (fe_op ro_ix fe_var fe_var) fe_var) fe_int))))
    (fs_setP (i := 3) (c := 3) rfl (by decide) (pth_ix pth_var (fe_op ro_ix fe_var fe_int)) (fe_op ro_ix fe_var fe_int) (fk_flat (FE.r (fe_op ro_plus (fe_op ro_ix (fe_op ro_ix fe_var (fe_op ro_ix fe_var fe_int)) (fe_op ro_ix fe_var fe_int)) fe_int)))))) fs_next))
    (fs_seq (fs_if (fb_and (fb_test (fe_op ro_eq fe_var fe_int)) (fb_test (fe_op ro_lt (fe_cb rc_len (fa_cons fe_var fa_nil)) fe_int))) (fs_app (i := 3) (c := 3) rfl (by decide) pth_var noer_ok (fk_new (FN.r (fn_rep (fe_lst (fa_cons fe_int fa_nil)) (fe_cb rc_len (fa_cons (fe_op ro_ix fe_var fe_int) fa_nil)))))) fs_next)
    (fs_seq (fs_if (fb_test (fe_op ro_eq fe_var fe_int)) (fs_asgN (i := 3) rfl (FN.r (fn_lc (vs := [5]) (fi_rng1 (fa_cons (fe_cb rc_len (fa_cons (fe_op ro_ix fe_var fe_int) fa_nil)) fa_nil)) ft_name fb_yes (fn_lc (vs := [4]) (fi_any fe_var) ft_name fb_yes (fn_flat (fe_op ro_ix fe_var fe_var)))))) fs_next)
    (fs_retM (fm_var (i := 3) (by decide)))))))))))
theorem ok__law_refused {f : Addr} {fd : FuncData} (T : Txt mg t_MOST c_BadPlace c_BadTable c_BadView c_VeilError) (D : Dfn KK mg "_law_refused" s__law_refused ["_law_table_here", "_law_view_here"] f fd) {f_has_view : Addr} {fd_has_view : FuncData} (D_has_view : Dfn KK mg "has_view" s_has_view ["table", "view"] f_has_view fd_has_view) (G_has_view : FnOk P w KK mg base (L2.CX P w) 7 f_has_view fd_has_view ["table", "view"] (spP (cmL c_BadTable c_BadView c_BadPlace) 0 M_has_view)) : FnOk P w KK mg base CX0 8 f fd ["_law_table_here", "_law_view_here"] (spP (cmL c_BadTable c_BadView c_BadPlace) 0 M__law_refused) := by
  refine D.F.ok sc__law_refused lenP (fun cdv A outer s H vs Q E hr h => ?_)
  refine ⟨_, (pss_cons (k_tryN rfl rfl sc__law_refused.nd
    (fun W pn xe tk => (pss_one (ps_expr (pe_callS G_has_view hr rfl D_has_view.g D_has_view.F.kp D_has_view.b (fun σ => passAt tk σ) (pa_cons (pv 0) (pa_cons (pv 1) pa_nil))))))
    (.cons (i := 2) (ts := tsIs (fun C a => tRet (tOp (FX.rIx DL.KK) (tLst (tCons (tC (.str "table")) (tCons (tC (.str "both")) tNil))) (tCB rInt1 (tCons (tCB (rIsE DL.KK C a) (tCons (tVar 2) (tCons (tC (.ref c_BadView)) tNil))) tNil))))) rfl rfl ⟨rfl, by decide, Or.inl T.mg_BadTable⟩ (fun a oe cls dc pn hz hf => pss_tsIs (fun C a => tRet (tOp (FX.rIx DL.KK) (tLst (tCons (tC (.str "table")) (tCons (tC (.str "both")) tNil))) (tCB rInt1 (tCons (tCB (rIsE DL.KK C a) (tCons (tVar 2) (tCons (tC (.ref c_BadView)) tNil))) tNil)))) hz (fun C hC hz => pss_one (ps_ret (pe_ix (k_ix (K := KK)) (pe_lst (pa_cons pe_str (pa_cons pe_str pa_nil))) (pe_callTy (T := "int") call_int1 (by rfl) T.no_int (by decide +kernel) (pa_cons (pe_callB (id := "isinstance") (k_isE (K := DL.KK) hC hz hf List.mem_cons_self) (by rfl) T.no_isinstance (by decide +kernel) (pa_cons (pv 2) (pa_cons (pe_glob (v := .ref c_BadView) rfl T.mg_BadView rfl) pa_nil))) pa_nil)) (fun _ _ => rfl)))))
      (.cons (i := 2) (ts := tsIs (fun C a => tRet (tOp (FX.rIx DL.KK) (tLst (tCons (tC (.str "other")) (tCons (tC (.str "view")) tNil))) (tCB rInt1 (tCons (tCB (rIsE DL.KK C a) (tCons (tVar 2) (tCons (tC (.ref c_BadView)) tNil))) tNil))))) rfl rfl ⟨rfl, by decide, Or.inl T.mg_VeilError⟩ (fun a oe cls dc pn hz hf => pss_tsIs (fun C a => tRet (tOp (FX.rIx DL.KK) (tLst (tCons (tC (.str "other")) (tCons (tC (.str "view")) tNil))) (tCB rInt1 (tCons (tCB (rIsE DL.KK C a) (tCons (tVar 2) (tCons (tC (.ref c_BadView)) tNil))) tNil)))) hz (fun C hC hz => pss_one (ps_ret (pe_ix (k_ix (K := KK)) (pe_lst (pa_cons pe_str (pa_cons pe_str pa_nil))) (pe_callTy (T := "int") call_int1 (by rfl) T.no_int (by decide +kernel) (pa_cons (pe_callB (id := "isinstance") (k_isE (K := DL.KK) hC hz hf List.mem_cons_self) (by rfl) T.no_isinstance (by decide +kernel) (pa_cons (pv 2) (pa_cons (pe_glob (v := .ref c_BadView) rfl T.mg_BadView rfl) pa_nil))) pa_nil)) (fun _ _ => rfl)))))
      .nil)))
    (pss_one (ps_ret pe_str))), ?_⟩
  exact done_P (os := [0, 0, 0]) h rfl (by decide) (by decide)
    (fs_seq (fs_tryN (i := 2) rfl rfl (fun W' => (fs_drop (fr_call (fa_cons fe_var (fa_cons fe_var fa_nil))))) (fun c d h => by
        unfold H__law_refused at h
        split at h
        · rename_i e
          subst e
          cases h
          exact (.here T.m_BadTable_BadTable (fun a ds => su_is T.i_BadTable (su_ret (p_op ro_ix (p_ev ((fe_lst (fa_cons fe_str (fa_cons fe_str fa_nil))) _ _ rfl)) (p_cb rc_int (pa_cons' (p_is1 (fun u r => r) T.k_BadTable_BadView) pa_nil') rfl) rfl))))
        · skip
          split at h
          · rename_i e
            subst e
            cases h
            exact (.next T.m_BadView_BadTable (.here T.m_BadView_VeilError (fun a ds => su_is T.i_BadView (su_ret (p_op ro_ix (p_ev ((fe_lst (fa_cons fe_str (fa_cons fe_str fa_nil))) _ _ rfl)) (p_cb rc_int (pa_cons' (p_is1 (fun u r => r) T.k_BadView_BadView) pa_nil') rfl) rfl)))))
          · skip
            cases h))
    (fs_retZ rfl (FE.r fe_str)))
-- the law
theorem ok_law {f : Addr} {fd : FuncData} (T : Txt mg t_MOST c_BadPlace c_BadTable c_BadView c_VeilError) (D : Dfn KK mg "law" s_law ["_law_script"] f fd) {f__law_table : Addr} {fd__law_table : FuncData} (D__law_table : Dfn KK mg "_law_table" s__law_table ["_law_script", "_law_high", "_law_wide"] f__law_table fd__law_table) (G__law_table : FnOk P w KK mg base CX0 3 f__law_table fd__law_table ["_law_script", "_law_high", "_law_wide"] (spP (cmL c_BadTable c_BadView c_BadPlace) 3 M__law_table)) {f__law_mix : Addr} {fd__law_mix : FuncData} (D__law_mix : Dfn KK mg "_law_mix" s__law_mix ["_law_script", "_law_k"] f__law_mix fd__law_mix) (G__law_mix : FnOk P w KK mg base CX0 1 f__law_mix fd__law_mix ["_law_script", "_law_k"] (spP (cmL c_BadTable c_BadView c_BadPlace) 0 M__law_mix)) {f__law_places : Addr} {fd__law_places : FuncData} (D__law_places : Dfn KK mg "_law_places" s__law_places ["_law_script", "_law_table_here"] f__law_places fd__law_places) (G__law_places : FnOk P w KK mg base CX0 2 f__law_places fd__law_places ["_law_script", "_law_table_here"] (spP (cmL c_BadTable c_BadView c_BadPlace) 0 M__law_places)) {f__law_view : Addr} {fd__law_view : FuncData} (D__law_view : Dfn KK mg "_law_view" s__law_view ["_law_table_here", "_law_places_here"] f__law_view fd__law_view) (G__law_view : FnOk P w KK mg base CX0 2 f__law_view fd__law_view ["_law_table_here", "_law_places_here"] (spP (cmL c_BadTable c_BadView c_BadPlace) 3 M__law_view)) {f__law_other : Addr} {fd__law_other : FuncData} (D__law_other : Dfn KK mg "_law_other" s__law_other ["_law_script", "_law_table_here"] f__law_other fd__law_other) (G__law_other : FnOk P w KK mg base CX0 3 f__law_other fd__law_other ["_law_script", "_law_table_here"] (spP (cmL c_BadTable c_BadView c_BadPlace) 0 M__law_other)) {f__law_has : Addr} {fd__law_has : FuncData} (D__law_has : Dfn KK mg "_law_has" s__law_has ["_law_table_here", "_law_view_here"] f__law_has fd__law_has) (G__law_has : FnOk P w KK mg base CX0 2 f__law_has fd__law_has ["_law_table_here", "_law_view_here"] (spP (cmL c_BadTable c_BadView c_BadPlace) 0 M__law_has)) {f_has_view : Addr} {fd_has_view : FuncData} (D_has_view : Dfn KK mg "has_view" s_has_view ["table", "view"] f_has_view fd_has_view) (G_has_view : FnOk P w KK mg base (L2.CX P w) 7 f_has_view fd_has_view ["table", "view"] (spP (cmL c_BadTable c_BadView c_BadPlace) 0 M_has_view)) {f__law_refused : Addr} {fd__law_refused : FuncData} (D__law_refused : Dfn KK mg "_law_refused" s__law_refused ["_law_table_here", "_law_view_here"] f__law_refused fd__law_refused) (G__law_refused : FnOk P w KK mg base CX0 8 f__law_refused fd__law_refused ["_law_table_here", "_law_view_here"] (spP (cmL c_BadTable c_BadView c_BadPlace) 0 M__law_refused)) : FnOk P w KK mg base CX0 9 f fd ["_law_script"] spLaw := by
  refine D.F.ok sc_law (fun vs H Q E h => by obtain ⟨a, ns, rfl, _⟩ := h; rfl) (fun cdv A outer s H vs Q E hr h => ?_)
  refine ⟨_, (pss_cons (ps_set (i := 1) sc_law.nd rfl (.inl rfl) (pe_call G__law_table (hr.mono (by decide)) rfl D__law_table.g D__law_table.F.kp D__law_table.b .nil pass0 (pa_cons (pv 0) (pa_cons (pe_op (k_plus (K := KK)) pe_int (pe_op op_mod (pe_call G__law_mix (hr.mono (by decide)) rfl D__law_mix.g D__law_mix.F.kp D__law_mix.b .nil pass0 (pa_cons (pv 0) (pa_cons pe_int pa_nil))) pe_int)) (pa_cons (pe_op (k_plus (K := KK)) pe_int (pe_op op_mod (pe_call G__law_mix (hr.mono (by decide)) rfl D__law_mix.g D__law_mix.F.kp D__law_mix.b .nil pass0 (pa_cons (pv 0) (pa_cons pe_int pa_nil))) pe_int)) pa_nil)))))
    (pss_cons (ps_set (i := 2) sc_law.nd rfl (.inl rfl) (pe_call G__law_places (hr.mono (by decide)) rfl D__law_places.g D__law_places.F.kp D__law_places.b .nil pass0 (pa_cons (pv 0) (pa_cons (pv 1) pa_nil))))
    (pss_cons (ps_set (i := 3) sc_law.nd rfl (.inl rfl) (pe_call G__law_view (hr.mono (by decide)) rfl D__law_view.g D__law_view.F.kp D__law_view.b .nil pass0 (pa_cons (pv 1) (pa_cons (pv 2) pa_nil))))
    (pss_cons (ps_set (i := 4) sc_law.nd rfl (.inl rfl) (pe_call G__law_other (hr.mono (by decide)) rfl D__law_other.g D__law_other.F.kp D__law_other.b .nil pass0 (pa_cons (pv 0) (pa_cons (pv 1) pa_nil))))
    (pss_cons (ps_setLc (i := 5) (own := [("_law_row", 10)]) rfl sc_law.nd rfl rfl (sw_true rfl rfl rfl (by decide +kernel)) (k_pi_any (K := KK) (pv 4)) (blkOk_by (N := n_law) (sc := defScope s_law) (by decide +kernel))
      (fun _ _ _ _ _ => (pg_name (i := 10) sc_law.nd rfl (.inl rfl))) (fun _ _ _ _ _ => pts_nil) (fun _ _ _ _ _ => (pe_callTy (T := "list") (k_list (K := KK)) (by rfl) T.no_list (by decide +kernel) (pa_cons (pv 10) pa_nil))))
    (pss_cons (ps_set (i := 6) sc_law.nd rfl (.inl rfl) (pe_call G__law_has (hr.mono (by decide)) rfl D__law_has.g D__law_has.F.kp D__law_has.b .nil pass0 (pa_cons (pv 4) (pa_cons (pe_call G__law_view (hr.mono (by decide)) rfl D__law_view.g D__law_view.F.kp D__law_view.b .nil pass0 (pa_cons (pv 1) (pa_cons (pv 2) pa_nil))) pa_nil))))
    (pss_cons (ps_for PassesOwn.never rfl (pi_range1 (by rfl) T.no_range (pa_cons pe_int pa_nil)) (pg_name (i := 7) sc_law.nd rfl (.inl rfl))
    (pss_cons (ps_set (i := 9) sc_law.nd rfl (.inl rfl) (pe_callS (E := fun _ => E0) G_has_view (hr.mono (by decide)) rfl D_has_view.g D_has_view.F.kp D_has_view.b (fun σ pins H s e s' I h => passL pins σ H s e s' I h) (pa_cons (pv 5) (pa_cons (pv 3) pa_nil))))
    (pss_one (ps_if (PW.pt (pw_or (pt_not (pt_val (pe_callB (id := "isinstance") (k_isi (K := KK)) (by rfl) T.no_isinstance (by decide +kernel) (pa_cons (pv 9) (pa_cons (pe_bltn (v := .ty "bool") (by rfl) T.no_bool (by decide +kernel) rfl) pa_nil))))) (pw_or (pt_cmpR (k_neD (K := KK) hr.units) (pv 9) (pv 6) (nomark _)) (pw_or (pt_cmpR (k_neD (K := KK) hr.units) (pv 5) (pv 4) (nomark _)) (pw_or1 (pt_cmpR (k_neD (K := KK) hr.units) (pv 3) (pe_call G__law_view (hr.mono (by decide)) rfl D__law_view.g D__law_view.F.kp D__law_view.b .nil pass0 (pa_cons (pv 1) (pa_cons (pv 2) pa_nil))) (nomark _))))))) (pss_one (ps_ret pe_bl)) pss_nil))))
    (pss_cons (ps_set (i := 8) sc_law.nd rfl (.inl rfl) (pe_ix (k_ix (K := KK)) (pe_lst (pa_cons pe_non (pa_cons (pe_tup pa_nil) (pa_cons (pe_lst pa_nil) (pa_cons (pe_slice (k_sl (K := KK)) (pv 3) po_none (po_some pe_int)) pa_nil))))) (pe_op op_mod (pe_call G__law_mix (hr.mono (by decide)) rfl D__law_mix.g D__law_mix.F.kp D__law_mix.b .nil pass0 (pa_cons (pv 0) (pa_cons pe_int pa_nil))) pe_int) (fun _ _ => rfl)))
    (pss_one (ps_ret (pe_and (pe_cmpR (k_eqD (K := KK) hr.units) (pe_call G__law_refused hr rfl D__law_refused.g D__law_refused.F.kp D__law_refused.b .nil pass0 (pa_cons (pv 5) (pa_cons (pv 8) pa_nil))) pe_str (nomark _)) (pe_one (pe_cmpR (k_eqD (K := KK) hr.units) (pe_call G__law_refused hr rfl D__law_refused.g D__law_refused.F.kp D__law_refused.b .nil pass0 (pa_cons (pe_lst (pa_cons (pv 5) (pa_cons (pe_lst pa_nil) pa_nil))) (pa_cons (pv 8) pa_nil))) pe_str (nomark _)))))))))))))), ?_⟩
  exact law_done (W := fun _ _ _ _ => False) (cm := (cmL c_BadTable c_BadView c_BadPlace)) (os := [0, 0, 0, 0, 0, 0, 0, 0, 0, 0, 0]) h rfl (by decide) (by decide)
    (fs_seq (fs_asgZ (i := 1) rfl (FE.r (fe_call (fa_cons fe_var (fa_cons (fe_op ro_plus fe_int (fe_op ro_mod (fe_call (fa_cons fe_var (fa_cons fe_int fa_nil))) fe_int)) (fa_cons (fe_op ro_plus fe_int (fe_op ro_mod (fe_call (fa_cons fe_var (fa_cons fe_int fa_nil))) fe_int)) fa_nil))))))
    (fs_seq (fs_asgZ (i := 2) rfl (FE.r (fe_call (fa_cons fe_var (fa_cons fe_var fa_nil)))))
    (fs_seq (fs_asgZ (i := 3) rfl (FE.r (fe_call (fa_cons fe_var (fa_cons fe_var fa_nil)))))
    (fs_seq (fs_asgZ (i := 4) rfl (FE.r (fe_call (fa_cons fe_var (fa_cons fe_var fa_nil)))))
    (fs_seq (fs_asgZ (i := 5) rfl (FE.r (fe_lc (vs := [10]) (fi_any fe_var) ft_name fb_yes (fe_cb rc_list (fa_cons fe_var fa_nil)))))
    (fs_seq (fs_asgZ (i := 6) rfl (FE.r (fe_call (fa_cons fe_var (fa_cons (fe_call (fa_cons fe_var (fa_cons fe_var fa_nil))) fa_nil)))))
    (fs_seq (fs_for (fi_rng1 (fa_cons fe_int fa_nil)) ft_name (fs_seq (fs_asgZ (i := 9) rfl (FE.r (fe_callS (fa_cons fe_var (fa_cons fe_var fa_nil)))))
    (fs_if (fb_or (fb_not (fb_B (fe_isi (T := "bool") (by decide) fe_var))) (fb_or (fb_test (fe_op ro_ne fe_var fe_var)) (fb_or (fb_test (fe_op ro_ne fe_var fe_var)) (fb_test (fe_op ro_ne fe_var (fe_call (fa_cons fe_var (fa_cons fe_var fa_nil)))))))) (fs_retZ rfl (FE.r fe_bl)) fs_next)))
    (fs_seq (fs_asgZ (i := 8) rfl (FE.r (fe_op ro_ix (fe_lst (fa_cons fe_non (fa_cons (fe_tup fa_nil) (fa_cons (fe_lst fa_nil) (fa_cons (fe_slice fe_var fo_none (fo_int fe_int)) fa_nil))))) (fe_op ro_mod (fe_call (fa_cons fe_var (fa_cons fe_int fa_nil))) fe_int))))
    (fs_retZ rfl (FE.r (fe_and (fe_op ro_eq (fe_call (fa_cons fe_var (fa_cons fe_var fa_nil))) fe_str) (fe_op ro_eq (fe_call (fa_cons (fe_lst (fa_cons fe_var (fa_cons (fe_lst fa_nil) fa_nil))) (fa_cons fe_var fa_nil))) fe_str)))))))))))) law_true
end
/-! ### what the top has written; the law's own head -/
omit [Kn] in
theorem all_mk {l : PySem.W.OpenLaw} {w : World} {K : PySem.W.Frag} {h : Heap} {mg : Str → Option Value} {fa f0 f1 f2 f3 f4 f5 f6 f7 f8 f9 f10 f11 f12 f13 f14 f15 f16 f17 f18 f19 f20 f21 f22 f23 f24 f25 f26 f27 f28 f29 f30 : Addr} {od0 an0 od1 an1 od2 an2 od3 an3 od4 an4 od5 an5 od6 an6 od7 an7 od8 an8 od9 an9 od10 an10 od11 an11 od12 an12 od13 an13 od14 an14 od15 an15 od16 an16 od17 an17 od18 an18 od19 an19 od20 an20 od21 an21 od22 an22 od23 an23 od24 an24 od25 an25 od26 an26 od27 an27 od28 an28 od29 an29 od30 an30 : Option Addr} {sl0 sl1 sl2 sl3 sl4 sl5 sl6 sl7 sl8 sl9 sl10 sl11 sl12 sl13 sl14 sl15 sl16 sl17 sl18 sl19 sl20 sl21 sl22 sl23 sl24 sl25 sl26 sl27 sl28 sl29 sl30 : Array (Option Value)} {oc0 kV0 dc0 pm0 cd0 ct0 oc1 kV1 dc1 pm1 cd1 ct1 oc2 kV2 dc2 pm2 cd2 ct2 oc3 kV3 dc3 pm3 cd3 ct3 oc4 kV4 dc4 pm4 cd4 ct4 oc5 kV5 dc5 pm5 cd5 ct5 oc6 kV6 dc6 pm6 cd6 ct6 oc7 kV7 dc7 pm7 cd7 ct7 oc8 kV8 dc8 pm8 cd8 ct8 oc9 kV9 dc9 pm9 cd9 ct9 oc10 kV10 dc10 pm10 cd10 ct10 oc11 kV11 dc11 pm11 cd11 ct11 oc12 kV12 dc12 pm12 cd12 ct12 oc13 kV13 dc13 pm13 cd13 ct13 oc14 kV14 dc14 pm14 cd14 ct14 oc15 kV15 dc15 pm15 cd15 ct15 oc16 kV16 dc16 pm16 cd16 ct16 oc17 kV17 dc17 pm17 cd17 ct17 oc18 kV18 dc18 pm18 cd18 ct18 oc19 kV19 dc19 pm19 cd19 ct19 oc20 kV20 dc20 pm20 cd20 ct20 oc21 kV21 dc21 pm21 cd21 ct21 oc22 kV22 dc22 pm22 cd22 ct22 oc23 kV23 dc23 pm23 cd23 ct23 oc24 kV24 dc24 pm24 cd24 ct24 oc25 kV25 dc25 pm25 cd25 ct25 oc26 kV26 dc26 pm26 cd26 ct26 oc27 kV27 dc27 pm27 cd27 ct27 oc28 kV28 dc28 pm28 cd28 ct28 oc29 kV29 dc29 pm29 cd29 ct29 oc30 kV30 dc30 pm30 cd30 ct30 : Value} {t_MOST : Tok} {c_BadPlace : Addr} {c_BadTable : Addr} {c_BadView : Addr} {c_VeilError : Addr} (X : K.In h) (G : h.Ns mainGlobals mg) (hfa : mg "law" = some (.ref fa))
    (a0 : PySem.W.nsIn K mainGlobals "is_whole" = some (some (.ref f0))) (l0 : K.lookup f0 = some ⟨oc0, od0, .func (PySem.W.fnOf "is_whole" "is_whole" (defArgs s_is_whole) (defBody s_is_whole) (defScope s_is_whole) .none kV0 dc0 pm0 an0 cd0 ct0), sl0⟩) (c0 : PySem.W.codeIn K cd0 "is_whole" = true) (k0 : PySem.W.keepIn K (.ref f0) = true)
    (a1 : PySem.W.nsIn K mainGlobals "is_grid" = some (some (.ref f1))) (l1 : K.lookup f1 = some ⟨oc1, od1, .func (PySem.W.fnOf "is_grid" "is_grid" (defArgs s_is_grid) (defBody s_is_grid) (defScope s_is_grid) .none kV1 dc1 pm1 an1 cd1 ct1), sl1⟩) (c1 : PySem.W.codeIn K cd1 "is_grid" = true) (k1 : PySem.W.keepIn K (.ref f1) = true)
    (a2 : PySem.W.nsIn K mainGlobals "is_table" = some (some (.ref f2))) (l2 : K.lookup f2 = some ⟨oc2, od2, .func (PySem.W.fnOf "is_table" "is_table" (defArgs s_is_table) (defBody s_is_table) (defScope s_is_table) .none kV2 dc2 pm2 an2 cd2 ct2), sl2⟩) (c2 : PySem.W.codeIn K cd2 "is_table" = true) (k2 : PySem.W.keepIn K (.ref f2) = true)
    (a3 : PySem.W.nsIn K mainGlobals "is_place" = some (some (.ref f3))) (l3 : K.lookup f3 = some ⟨oc3, od3, .func (PySem.W.fnOf "is_place" "is_place" (defArgs s_is_place) (defBody s_is_place) (defScope s_is_place) .none kV3 dc3 pm3 an3 cd3 ct3), sl3⟩) (c3 : PySem.W.codeIn K cd3 "is_place" = true) (k3 : PySem.W.keepIn K (.ref f3) = true)
    (a4 : PySem.W.nsIn K mainGlobals "need_table" = some (some (.ref f4))) (l4 : K.lookup f4 = some ⟨oc4, od4, .func (PySem.W.fnOf "need_table" "need_table" (defArgs s_need_table) (defBody s_need_table) (defScope s_need_table) .none kV4 dc4 pm4 an4 cd4 ct4), sl4⟩) (c4 : PySem.W.codeIn K cd4 "need_table" = true) (k4 : PySem.W.keepIn K (.ref f4) = true)
    (a5 : PySem.W.nsIn K mainGlobals "row_sums" = some (some (.ref f5))) (l5 : K.lookup f5 = some ⟨oc5, od5, .func (PySem.W.fnOf "row_sums" "row_sums" (defArgs s_row_sums) (defBody s_row_sums) (defScope s_row_sums) .none kV5 dc5 pm5 an5 cd5 ct5), sl5⟩) (c5 : PySem.W.codeIn K cd5 "row_sums" = true) (k5 : PySem.W.keepIn K (.ref f5) = true)
    (a6 : PySem.W.nsIn K mainGlobals "column_sums" = some (some (.ref f6))) (l6 : K.lookup f6 = some ⟨oc6, od6, .func (PySem.W.fnOf "column_sums" "column_sums" (defArgs s_column_sums) (defBody s_column_sums) (defScope s_column_sums) .none kV6 dc6 pm6 an6 cd6 ct6), sl6⟩) (c6 : PySem.W.codeIn K cd6 "column_sums" = true) (k6 : PySem.W.keepIn K (.ref f6) = true)
    (a7 : PySem.W.nsIn K mainGlobals "_are_cells" = some (some (.ref f7))) (l7 : K.lookup f7 = some ⟨oc7, od7, .func (PySem.W.fnOf "_are_cells" "_are_cells" (defArgs s__are_cells) (defBody s__are_cells) (defScope s__are_cells) .none kV7 dc7 pm7 an7 cd7 ct7), sl7⟩) (c7 : PySem.W.codeIn K cd7 "_are_cells" = true) (k7 : PySem.W.keepIn K (.ref f7) = true)
    (a8 : PySem.W.nsIn K mainGlobals "_are_sums" = some (some (.ref f8))) (l8 : K.lookup f8 = some ⟨oc8, od8, .func (PySem.W.fnOf "_are_sums" "_are_sums" (defArgs s__are_sums) (defBody s__are_sums) (defScope s__are_sums) .none kV8 dc8 pm8 an8 cd8 ct8), sl8⟩) (c8 : PySem.W.codeIn K cd8 "_are_sums" = true) (k8 : PySem.W.keepIn K (.ref f8) = true)
    (a9 : PySem.W.nsIn K mainGlobals "_has_parts" = some (some (.ref f9))) (l9 : K.lookup f9 = some ⟨oc9, od9, .func (PySem.W.fnOf "_has_parts" "_has_parts" (defArgs s__has_parts) (defBody s__has_parts) (defScope s__has_parts) .none kV9 dc9 pm9 an9 cd9 ct9), sl9⟩) (c9 : PySem.W.codeIn K cd9 "_has_parts" = true) (k9 : PySem.W.keepIn K (.ref f9) = true)
    (a10 : PySem.W.nsIn K mainGlobals "_left" = some (some (.ref f10))) (l10 : K.lookup f10 = some ⟨oc10, od10, .func (PySem.W.fnOf "_left" "_left" (defArgs s__left) (defBody s__left) (defScope s__left) .none kV10 dc10 pm10 an10 cd10 ct10), sl10⟩) (c10 : PySem.W.codeIn K cd10 "_left" = true) (k10 : PySem.W.keepIn K (.ref f10) = true)
    (a11 : PySem.W.nsIn K mainGlobals "_rests" = some (some (.ref f11))) (l11 : K.lookup f11 = some ⟨oc11, od11, .func (PySem.W.fnOf "_rests" "_rests" (defArgs s__rests) (defBody s__rests) (defScope s__rests) .none kV11 dc11 pm11 an11 cd11 ct11), sl11⟩) (c11 : PySem.W.codeIn K cd11 "_rests" = true) (k11 : PySem.W.keepIn K (.ref f11) = true)
    (a12 : PySem.W.nsIn K mainGlobals "is_view" = some (some (.ref f12))) (l12 : K.lookup f12 = some ⟨oc12, od12, .func (PySem.W.fnOf "is_view" "is_view" (defArgs s_is_view) (defBody s_is_view) (defScope s_is_view) .none kV12 dc12 pm12 an12 cd12 ct12), sl12⟩) (c12 : PySem.W.codeIn K cd12 "is_view" = true) (k12 : PySem.W.keepIn K (.ref f12) = true)
    (a13 : PySem.W.nsIn K mainGlobals "need_view" = some (some (.ref f13))) (l13 : K.lookup f13 = some ⟨oc13, od13, .func (PySem.W.fnOf "need_view" "need_view" (defArgs s_need_view) (defBody s_need_view) (defScope s_need_view) .none kV13 dc13 pm13 an13 cd13 ct13), sl13⟩) (c13 : PySem.W.codeIn K cd13 "need_view" = true) (k13 : PySem.W.keepIn K (.ref f13) = true)
    (a14 : PySem.W.nsIn K mainGlobals "_are_places" = some (some (.ref f14))) (l14 : K.lookup f14 = some ⟨oc14, od14, .func (PySem.W.fnOf "_are_places" "_are_places" (defArgs s__are_places) (defBody s__are_places) (defScope s__are_places) .none kV14 dc14 pm14 an14 cd14 ct14), sl14⟩) (c14 : PySem.W.codeIn K cd14 "_are_places" = true) (k14 : PySem.W.keepIn K (.ref f14) = true)
    (a15 : PySem.W.nsIn K mainGlobals "view_of" = some (some (.ref f15))) (l15 : K.lookup f15 = some ⟨oc15, od15, .func (PySem.W.fnOf "view_of" "view_of" (defArgs s_view_of) (defBody s_view_of) (defScope s_view_of) .none kV15 dc15 pm15 an15 cd15 ct15), sl15⟩) (c15 : PySem.W.codeIn K cd15 "view_of" = true) (k15 : PySem.W.keepIn K (.ref f15) = true)
    (a16 : PySem.W.nsIn K mainGlobals "hidden_places" = some (some (.ref f16))) (l16 : K.lookup f16 = some ⟨oc16, od16, .func (PySem.W.fnOf "hidden_places" "hidden_places" (defArgs s_hidden_places) (defBody s_hidden_places) (defScope s_hidden_places) .none kV16 dc16 pm16 an16 cd16 ct16), sl16⟩) (c16 : PySem.W.codeIn K cd16 "hidden_places" = true) (k16 : PySem.W.keepIn K (.ref f16) = true)
    (a17 : PySem.W.nsIn K mainGlobals "has_view" = some (some (.ref f17))) (l17 : K.lookup f17 = some ⟨oc17, od17, .func (PySem.W.fnOf "has_view" "has_view" (defArgs s_has_view) (defBody s_has_view) (defScope s_has_view) .none kV17 dc17 pm17 an17 cd17 ct17), sl17⟩) (c17 : PySem.W.codeIn K cd17 "has_view" = true) (k17 : PySem.W.keepIn K (.ref f17) = true)
    (a18 : PySem.W.nsIn K mainGlobals "_law_mix" = some (some (.ref f18))) (l18 : K.lookup f18 = some ⟨oc18, od18, .func (PySem.W.fnOf "_law_mix" "_law_mix" (defArgs s__law_mix) (defBody s__law_mix) (defScope s__law_mix) .none kV18 dc18 pm18 an18 cd18 ct18), sl18⟩) (c18 : PySem.W.codeIn K cd18 "_law_mix" = true) (k18 : PySem.W.keepIn K (.ref f18) = true)
    (a19 : PySem.W.nsIn K mainGlobals "_law_count" = some (some (.ref f19))) (l19 : K.lookup f19 = some ⟨oc19, od19, .func (PySem.W.fnOf "_law_count" "_law_count" (defArgs s__law_count) (defBody s__law_count) (defScope s__law_count) .none kV19 dc19 pm19 an19 cd19 ct19), sl19⟩) (c19 : PySem.W.codeIn K cd19 "_law_count" = true) (k19 : PySem.W.keepIn K (.ref f19) = true)
    (a20 : PySem.W.nsIn K mainGlobals "_law_table" = some (some (.ref f20))) (l20 : K.lookup f20 = some ⟨oc20, od20, .func (PySem.W.fnOf "_law_table" "_law_table" (defArgs s__law_table) (defBody s__law_table) (defScope s__law_table) .none kV20 dc20 pm20 an20 cd20 ct20), sl20⟩) (c20 : PySem.W.codeIn K cd20 "_law_table" = true) (k20 : PySem.W.keepIn K (.ref f20) = true)
    (a21 : PySem.W.nsIn K mainGlobals "_law_all" = some (some (.ref f21))) (l21 : K.lookup f21 = some ⟨oc21, od21, .func (PySem.W.fnOf "_law_all" "_law_all" (defArgs s__law_all) (defBody s__law_all) (defScope s__law_all) .none kV21 dc21 pm21 an21 cd21 ct21), sl21⟩) (c21 : PySem.W.codeIn K cd21 "_law_all" = true) (k21 : PySem.W.keepIn K (.ref f21) = true)
    (a22 : PySem.W.nsIn K mainGlobals "_law_places" = some (some (.ref f22))) (l22 : K.lookup f22 = some ⟨oc22, od22, .func (PySem.W.fnOf "_law_places" "_law_places" (defArgs s__law_places) (defBody s__law_places) (defScope s__law_places) .none kV22 dc22 pm22 an22 cd22 ct22), sl22⟩) (c22 : PySem.W.codeIn K cd22 "_law_places" = true) (k22 : PySem.W.keepIn K (.ref f22) = true)
    (a23 : PySem.W.nsIn K mainGlobals "_law_column_sums" = some (some (.ref f23))) (l23 : K.lookup f23 = some ⟨oc23, od23, .func (PySem.W.fnOf "_law_column_sums" "_law_column_sums" (defArgs s__law_column_sums) (defBody s__law_column_sums) (defScope s__law_column_sums) .none kV23 dc23 pm23 an23 cd23 ct23), sl23⟩) (c23 : PySem.W.codeIn K cd23 "_law_column_sums" = true) (k23 : PySem.W.keepIn K (.ref f23) = true)
    (a24 : PySem.W.nsIn K mainGlobals "_law_view" = some (some (.ref f24))) (l24 : K.lookup f24 = some ⟨oc24, od24, .func (PySem.W.fnOf "_law_view" "_law_view" (defArgs s__law_view) (defBody s__law_view) (defScope s__law_view) .none kV24 dc24 pm24 an24 cd24 ct24), sl24⟩) (c24 : PySem.W.codeIn K cd24 "_law_view" = true) (k24 : PySem.W.keepIn K (.ref f24) = true)
    (a25 : PySem.W.nsIn K mainGlobals "_law_whole" = some (some (.ref f25))) (l25 : K.lookup f25 = some ⟨oc25, od25, .func (PySem.W.fnOf "_law_whole" "_law_whole" (defArgs s__law_whole) (defBody s__law_whole) (defScope s__law_whole) .none kV25 dc25 pm25 an25 cd25 ct25), sl25⟩) (c25 : PySem.W.codeIn K cd25 "_law_whole" = true) (k25 : PySem.W.keepIn K (.ref f25) = true)
    (a26 : PySem.W.nsIn K mainGlobals "_law_has" = some (some (.ref f26))) (l26 : K.lookup f26 = some ⟨oc26, od26, .func (PySem.W.fnOf "_law_has" "_law_has" (defArgs s__law_has) (defBody s__law_has) (defScope s__law_has) .none kV26 dc26 pm26 an26 cd26 ct26), sl26⟩) (c26 : PySem.W.codeIn K cd26 "_law_has" = true) (k26 : PySem.W.keepIn K (.ref f26) = true)
    (a27 : PySem.W.nsIn K mainGlobals "_law_rectangle" = some (some (.ref f27))) (l27 : K.lookup f27 = some ⟨oc27, od27, .func (PySem.W.fnOf "_law_rectangle" "_law_rectangle" (defArgs s__law_rectangle) (defBody s__law_rectangle) (defScope s__law_rectangle) .none kV27 dc27 pm27 an27 cd27 ct27), sl27⟩) (c27 : PySem.W.codeIn K cd27 "_law_rectangle" = true) (k27 : PySem.W.keepIn K (.ref f27) = true)
    (a28 : PySem.W.nsIn K mainGlobals "_law_other" = some (some (.ref f28))) (l28 : K.lookup f28 = some ⟨oc28, od28, .func (PySem.W.fnOf "_law_other" "_law_other" (defArgs s__law_other) (defBody s__law_other) (defScope s__law_other) .none kV28 dc28 pm28 an28 cd28 ct28), sl28⟩) (c28 : PySem.W.codeIn K cd28 "_law_other" = true) (k28 : PySem.W.keepIn K (.ref f28) = true)
    (a29 : PySem.W.nsIn K mainGlobals "_law_refused" = some (some (.ref f29))) (l29 : K.lookup f29 = some ⟨oc29, od29, .func (PySem.W.fnOf "_law_refused" "_law_refused" (defArgs s__law_refused) (defBody s__law_refused) (defScope s__law_refused) .none kV29 dc29 pm29 an29 cd29 ct29), sl29⟩) (c29 : PySem.W.codeIn K cd29 "_law_refused" = true) (k29 : PySem.W.keepIn K (.ref f29) = true)
    (a30 : PySem.W.nsIn K mainGlobals "law" = some (some (.ref f30))) (l30 : K.lookup f30 = some ⟨oc30, od30, .func (PySem.W.fnOf "law" "law" (defArgs s_law) (defBody s_law) (defScope s_law) .none kV30 dc30 pm30 an30 cd30 ct30), sl30⟩) (c30 : PySem.W.codeIn K cd30 "law" = true) (k30 : PySem.W.keepIn K (.ref f30) = true)
    (z0_0 : PySem.W.nsIn K mainGlobals "all" = some none)
    (z1_0 : PySem.W.nsIn K mainGlobals "any" = some none)
    (z2_0 : PySem.W.nsIn K mainGlobals "bool" = some none)
    (z3_0 : PySem.W.nsIn K mainGlobals "enumerate" = some none)
    (z4_0 : PySem.W.nsIn K mainGlobals "int" = some none)
    (z5_0 : PySem.W.nsIn K mainGlobals "isinstance" = some none)
    (z6_0 : PySem.W.nsIn K mainGlobals "len" = some none)
    (z7_0 : PySem.W.nsIn K mainGlobals "list" = some none)
    (z8_0 : PySem.W.nsIn K mainGlobals "min" = some none)
    (z9_0 : PySem.W.nsIn K mainGlobals "range" = some none)
    (z10_0 : PySem.W.nsIn K mainGlobals "set" = some none)
    (z11_0 : PySem.W.nsIn K mainGlobals "sum" = some none)
    (z12_0 : PySem.W.nsIn K mainGlobals "tuple" = some none)
    (z13_0 : PySem.W.nsIn K mainGlobals "type" = some none)
    (z14_0 : PySem.W.nsIn K mainGlobals "zip" = some none)
    (z15_0 : PySem.W.nsIn K mainGlobals "MOST" = some (some (.int 8 t_MOST)))
    (z16_0 : PySem.W.nsIn K mainGlobals "BadPlace" = some (some (.ref c_BadPlace)))
    (z17_0 : PySem.W.nsIn K mainGlobals "BadTable" = some (some (.ref c_BadTable)))
    (z18_0 : PySem.W.nsIn K mainGlobals "BadView" = some (some (.ref c_BadView)))
    (z19_0 : PySem.W.nsIn K mainGlobals "VeilError" = some (some (.ref c_VeilError)))
    (z20_0 : PySem.W.excIn K c_BadTable [.type "ValueError", .type "Exception", .type "BaseException", .type "object"] "ValueError.__new__" = true)
    (z20_1 : PySem.W.keepIn K (.ref c_BadTable) = true)
    (z20_2 : PySem.W.subIn K (.ref c_BadTable) (.type "BaseException") = some true)
    (z20_3 : PySem.W.typeIn K (.ref c_BadTable) = some (.type "type"))
    (z21_0 : PySem.W.excIn K c_BadView [.type "ValueError", .type "Exception", .type "BaseException", .type "object"] "ValueError.__new__" = true)
    (z21_1 : PySem.W.keepIn K (.ref c_BadView) = true)
    (z21_2 : PySem.W.subIn K (.ref c_BadView) (.type "BaseException") = some true)
    (z21_3 : PySem.W.typeIn K (.ref c_BadView) = some (.type "type"))
    (z22_0 : PySem.W.excIn K c_BadPlace [.type "ValueError", .type "Exception", .type "BaseException", .type "object"] "ValueError.__new__" = true)
    (z22_1 : PySem.W.keepIn K (.ref c_BadPlace) = true)
    (z22_2 : PySem.W.subIn K (.ref c_BadPlace) (.type "BaseException") = some true)
    (z22_3 : PySem.W.typeIn K (.ref c_BadPlace) = some (.type "type"))
    (z23_0 : PySem.W.findIn K (.ref c_BadTable) "__getattribute__" = some (some (.builtin "BaseException.__getattribute__")))
    (z23_1 : PySem.W.findIn K (.ref c_BadTable) "__getattr__" = some none)
    (z23_2 : PySem.W.subIn K (.ref c_BadTable) (.type "BaseException") = some true)
    (z23_3 : PySem.W.hasDictIn K c_BadTable = true)
    (z23_4 : PySem.W.findIn K (.ref c_BadTable) "__class__" = some (some (.builtin "object.__class__")))
    (z23_5 : PySem.W.specialIn K (.builtin "object.__class__") "__get__" = some (some (.builtin "getset_descriptor.__get__")))
    (z23_6 : PySem.W.takesIn K (.builtin "object.__class__") = some true)
    (z23_7 : PySem.W.mroIn K c_BadTable (.type "object") = some true)
    (z24_0 : PySem.W.findIn K (.ref c_BadView) "__getattribute__" = some (some (.builtin "BaseException.__getattribute__")))
    (z24_1 : PySem.W.findIn K (.ref c_BadView) "__getattr__" = some none)
    (z24_2 : PySem.W.subIn K (.ref c_BadView) (.type "BaseException") = some true)
    (z24_3 : PySem.W.hasDictIn K c_BadView = true)
    (z24_4 : PySem.W.findIn K (.ref c_BadView) "__class__" = some (some (.builtin "object.__class__")))
    (z24_5 : PySem.W.specialIn K (.builtin "object.__class__") "__get__" = some (some (.builtin "getset_descriptor.__get__")))
    (z24_6 : PySem.W.takesIn K (.builtin "object.__class__") = some true)
    (z24_7 : PySem.W.mroIn K c_BadView (.type "object") = some true)
    (z25_0 : PySem.W.exmOne K (.ref c_BadTable) (.ref c_BadTable) = some true)
    (z26_0 : PySem.W.kitOne K (.ref c_BadTable) (.ref c_BadView) = some false)
    (z27_0 : PySem.W.exmOne K (.ref c_BadView) (.ref c_BadTable) = some false)
    (z28_0 : PySem.W.exmOne K (.ref c_BadView) (.ref c_VeilError) = some true)
    (z29_0 : PySem.W.kitOne K (.ref c_BadView) (.ref c_BadView) = some true) :
    ∃ fd : FuncData, (∀ (s : Shared) (v : Value), BindsTo s fd ⟨[v], []⟩ [("_law_script", v)]) ∧ ∀ base : Heap, K.In base → base.Ns mainGlobals mg → FnOk l.prog w K mg base CX0 9 fa fd ["_law_script"] (@spLaw ⟨K⟩) := by
  letI : Kn := ⟨K⟩
  have e := hfa.symm.trans (PySem.W.mg_of X G a30)
  cases e
  have T : Txt mg t_MOST c_BadPlace c_BadTable c_BadView c_VeilError := ⟨PySem.W.mg_none_of X G z0_0, PySem.W.mg_none_of X G z1_0, PySem.W.mg_none_of X G z2_0, PySem.W.mg_none_of X G z3_0, PySem.W.mg_none_of X G z4_0, PySem.W.mg_none_of X G z5_0, PySem.W.mg_none_of X G z6_0, PySem.W.mg_none_of X G z7_0, PySem.W.mg_none_of X G z8_0, PySem.W.mg_none_of X G z9_0, PySem.W.mg_none_of X G z10_0, PySem.W.mg_none_of X G z11_0, PySem.W.mg_none_of X G z12_0, PySem.W.mg_none_of X G z13_0, PySem.W.mg_none_of X G z14_0, PySem.W.mg_of X G z15_0, PySem.W.mg_of X G z16_0, PySem.W.mg_of X G z17_0, PySem.W.mg_of X G z18_0, PySem.W.mg_of X G z19_0, ⟨z20_0, z20_1, z20_2, z20_3⟩, ⟨z21_0, z21_1, z21_2, z21_3⟩, ⟨z22_0, z22_1, z22_2, z22_3⟩, ⟨z23_0, z23_1, z23_2, z23_3, z23_4, z23_5, z23_6, z23_7⟩, ⟨z24_0, z24_1, z24_2, z24_3, z24_4, z24_5, z24_6, z24_7⟩, z25_0, z26_0, z27_0, z28_0, z29_0⟩
  have F0 := fun_mk (st := s_is_whole) l0 c0 k0
  have D0 : Dfn KK mg "is_whole" s_is_whole ["thing", "least"] f0 _ := ⟨F0, F0.binds (ps := ["thing", "least"]) fun _ _ _ _ _ _ us hl => match us, hl with | [_, _], _ => rfl, PySem.W.mg_of X G a0⟩
  have F1 := fun_mk (st := s_is_grid) l1 c1 k1
  have D1 : Dfn KK mg "is_grid" s_is_grid ["thing"] f1 _ := ⟨F1, F1.binds (ps := ["thing"]) fun _ _ _ _ _ _ us hl => match us, hl with | [_], _ => rfl, PySem.W.mg_of X G a1⟩
  have F2 := fun_mk (st := s_is_table) l2 c2 k2
  have D2 : Dfn KK mg "is_table" s_is_table ["thing"] f2 _ := ⟨F2, F2.binds (ps := ["thing"]) fun _ _ _ _ _ _ us hl => match us, hl with | [_], _ => rfl, PySem.W.mg_of X G a2⟩
  have F3 := fun_mk (st := s_is_place) l3 c3 k3
  have D3 : Dfn KK mg "is_place" s_is_place ["thing", "grid"] f3 _ := ⟨F3, F3.binds (ps := ["thing", "grid"]) fun _ _ _ _ _ _ us hl => match us, hl with | [_, _], _ => rfl, PySem.W.mg_of X G a3⟩
  have F4 := fun_mk (st := s_need_table) l4 c4 k4
  have D4 : Dfn KK mg "need_table" s_need_table ["thing"] f4 _ := ⟨F4, F4.binds (ps := ["thing"]) fun _ _ _ _ _ _ us hl => match us, hl with | [_], _ => rfl, PySem.W.mg_of X G a4⟩
  have F5 := fun_mk (st := s_row_sums) l5 c5 k5
  have D5 : Dfn KK mg "row_sums" s_row_sums ["table"] f5 _ := ⟨F5, F5.binds (ps := ["table"]) fun _ _ _ _ _ _ us hl => match us, hl with | [_], _ => rfl, PySem.W.mg_of X G a5⟩
  have F6 := fun_mk (st := s_column_sums) l6 c6 k6
  have D6 : Dfn KK mg "column_sums" s_column_sums ["table"] f6 _ := ⟨F6, F6.binds (ps := ["table"]) fun _ _ _ _ _ _ us hl => match us, hl with | [_], _ => rfl, PySem.W.mg_of X G a6⟩
  have F7 := fun_mk (st := s__are_cells) l7 c7 k7
  have D7 : Dfn KK mg "_are_cells" s__are_cells ["thing"] f7 _ := ⟨F7, F7.binds (ps := ["thing"]) fun _ _ _ _ _ _ us hl => match us, hl with | [_], _ => rfl, PySem.W.mg_of X G a7⟩
  have F8 := fun_mk (st := s__are_sums) l8 c8 k8
  have D8 : Dfn KK mg "_are_sums" s__are_sums ["thing", "many"] f8 _ := ⟨F8, F8.binds (ps := ["thing", "many"]) fun _ _ _ _ _ _ us hl => match us, hl with | [_, _], _ => rfl, PySem.W.mg_of X G a8⟩
  have F9 := fun_mk (st := s__has_parts) l9 c9 k9
  have D9 : Dfn KK mg "_has_parts" s__has_parts ["thing"] f9 _ := ⟨F9, F9.binds (ps := ["thing"]) fun _ _ _ _ _ _ us hl => match us, hl with | [_], _ => rfl, PySem.W.mg_of X G a9⟩
  have F10 := fun_mk (st := s__left) l10 c10 k10
  have D10 : Dfn KK mg "_left" s__left ["lines", "sums"] f10 _ := ⟨F10, F10.binds (ps := ["lines", "sums"]) fun _ _ _ _ _ _ us hl => match us, hl with | [_, _], _ => rfl, PySem.W.mg_of X G a10⟩
  have F11 := fun_mk (st := s__rests) l11 c11 k11
  have D11 : Dfn KK mg "_rests" s__rests ["parts"] f11 _ := ⟨F11, F11.binds (ps := ["parts"]) fun _ _ _ _ _ _ us hl => match us, hl with | [_], _ => rfl, PySem.W.mg_of X G a11⟩
  have F12 := fun_mk (st := s_is_view) l12 c12 k12
  have D12 : Dfn KK mg "is_view" s_is_view ["thing"] f12 _ := ⟨F12, F12.binds (ps := ["thing"]) fun _ _ _ _ _ _ us hl => match us, hl with | [_], _ => rfl, PySem.W.mg_of X G a12⟩
  have F13 := fun_mk (st := s_need_view) l13 c13 k13
  have D13 : Dfn KK mg "need_view" s_need_view ["thing"] f13 _ := ⟨F13, F13.binds (ps := ["thing"]) fun _ _ _ _ _ _ us hl => match us, hl with | [_], _ => rfl, PySem.W.mg_of X G a13⟩
  have F14 := fun_mk (st := s__are_places) l14 c14 k14
  have D14 : Dfn KK mg "_are_places" s__are_places ["thing", "table"] f14 _ := ⟨F14, F14.binds (ps := ["thing", "table"]) fun _ _ _ _ _ _ us hl => match us, hl with | [_, _], _ => rfl, PySem.W.mg_of X G a14⟩
  have F15 := fun_mk (st := s_view_of) l15 c15 k15
  have D15 : Dfn KK mg "view_of" s_view_of ["table", "places"] f15 _ := ⟨F15, F15.binds (ps := ["table", "places"]) fun _ _ _ _ _ _ us hl => match us, hl with | [_, _], _ => rfl, PySem.W.mg_of X G a15⟩
  have F16 := fun_mk (st := s_hidden_places) l16 c16 k16
  have D16 : Dfn KK mg "hidden_places" s_hidden_places ["view"] f16 _ := ⟨F16, F16.binds (ps := ["view"]) fun _ _ _ _ _ _ us hl => match us, hl with | [_], _ => rfl, PySem.W.mg_of X G a16⟩
  have F17 := fun_mk (st := s_has_view) l17 c17 k17
  have D17 : Dfn KK mg "has_view" s_has_view ["table", "view"] f17 _ := ⟨F17, F17.binds (ps := ["table", "view"]) fun _ _ _ _ _ _ us hl => match us, hl with | [_, _], _ => rfl, PySem.W.mg_of X G a17⟩
  have F18 := fun_mk (st := s__law_mix) l18 c18 k18
  have D18 : Dfn KK mg "_law_mix" s__law_mix ["_law_script", "_law_k"] f18 _ := ⟨F18, F18.binds (ps := ["_law_script", "_law_k"]) fun _ _ _ _ _ _ us hl => match us, hl with | [_, _], _ => rfl, PySem.W.mg_of X G a18⟩
  have F19 := fun_mk (st := s__law_count) l19 c19 k19
  have D19 : Dfn KK mg "_law_count" s__law_count ["_law_script", "_law_k"] f19 _ := ⟨F19, F19.binds (ps := ["_law_script", "_law_k"]) fun _ _ _ _ _ _ us hl => match us, hl with | [_, _], _ => rfl, PySem.W.mg_of X G a19⟩
  have F20 := fun_mk (st := s__law_table) l20 c20 k20
  have D20 : Dfn KK mg "_law_table" s__law_table ["_law_script", "_law_high", "_law_wide"] f20 _ := ⟨F20, F20.binds (ps := ["_law_script", "_law_high", "_law_wide"]) fun _ _ _ _ _ _ us hl => match us, hl with | [_, _, _], _ => rfl, PySem.W.mg_of X G a20⟩
  have F21 := fun_mk (st := s__law_all) l21 c21 k21
  have D21 : Dfn KK mg "_law_all" s__law_all ["_law_table_here"] f21 _ := ⟨F21, F21.binds (ps := ["_law_table_here"]) fun _ _ _ _ _ _ us hl => match us, hl with | [_], _ => rfl, PySem.W.mg_of X G a21⟩
  have F22 := fun_mk (st := s__law_places) l22 c22 k22
  have D22 : Dfn KK mg "_law_places" s__law_places ["_law_script", "_law_table_here"] f22 _ := ⟨F22, F22.binds (ps := ["_law_script", "_law_table_here"]) fun _ _ _ _ _ _ us hl => match us, hl with | [_, _], _ => rfl, PySem.W.mg_of X G a22⟩
  have F23 := fun_mk (st := s__law_column_sums) l23 c23 k23
  have D23 : Dfn KK mg "_law_column_sums" s__law_column_sums ["_law_table_here"] f23 _ := ⟨F23, F23.binds (ps := ["_law_table_here"]) fun _ _ _ _ _ _ us hl => match us, hl with | [_], _ => rfl, PySem.W.mg_of X G a23⟩
  have F24 := fun_mk (st := s__law_view) l24 c24 k24
  have D24 : Dfn KK mg "_law_view" s__law_view ["_law_table_here", "_law_places_here"] f24 _ := ⟨F24, F24.binds (ps := ["_law_table_here", "_law_places_here"]) fun _ _ _ _ _ _ us hl => match us, hl with | [_, _], _ => rfl, PySem.W.mg_of X G a24⟩
  have F25 := fun_mk (st := s__law_whole) l25 c25 k25
  have D25 : Dfn KK mg "_law_whole" s__law_whole ["_law_thing"] f25 _ := ⟨F25, F25.binds (ps := ["_law_thing"]) fun _ _ _ _ _ _ us hl => match us, hl with | [_], _ => rfl, PySem.W.mg_of X G a25⟩
  have F26 := fun_mk (st := s__law_has) l26 c26 k26
  have D26 : Dfn KK mg "_law_has" s__law_has ["_law_table_here", "_law_view_here"] f26 _ := ⟨F26, F26.binds (ps := ["_law_table_here", "_law_view_here"]) fun _ _ _ _ _ _ us hl => match us, hl with | [_, _], _ => rfl, PySem.W.mg_of X G a26⟩
  have F27 := fun_mk (st := s__law_rectangle) l27 c27 k27
  have D27 : Dfn KK mg "_law_rectangle" s__law_rectangle ["_law_script", "_law_table_here", "_law_k"] f27 _ := ⟨F27, F27.binds (ps := ["_law_script", "_law_table_here", "_law_k"]) fun _ _ _ _ _ _ us hl => match us, hl with | [_, _, _], _ => rfl, PySem.W.mg_of X G a27⟩
  have F28 := fun_mk (st := s__law_other) l28 c28 k28
  have D28 : Dfn KK mg "_law_other" s__law_other ["_law_script", "_law_table_here"] f28 _ := ⟨F28, F28.binds (ps := ["_law_script", "_law_table_here"]) fun _ _ _ _ _ _ us hl => match us, hl with | [_, _], _ => rfl, PySem.W.mg_of X G a28⟩
  have F29 := fun_mk (st := s__law_refused) l29 c29 k29
  have D29 : Dfn KK mg "_law_refused" s__law_refused ["_law_table_here", "_law_view_here"] f29 _ := ⟨F29, F29.binds (ps := ["_law_table_here", "_law_view_here"]) fun _ _ _ _ _ _ us hl => match us, hl with | [_, _], _ => rfl, PySem.W.mg_of X G a29⟩
  have F30 := fun_mk (st := s_law) l30 c30 k30
  have D30 : Dfn KK mg "law" s_law ["_law_script"] fa _ := ⟨F30, F30.binds (ps := ["_law_script"]) fun _ _ _ _ _ _ us hl => match us, hl with | [_], _ => rfl, PySem.W.mg_of X G a30⟩
  refine ⟨PySem.W.fnOf "law" "law" (defArgs s_law) (defBody s_law) (defScope s_law) .none kV30 dc30 pm30 an30 cd30 ct30, fun s v => .of_eq rfl, fun base _ _ => ?_⟩
  have G0 : FnOk l.prog w KK mg base CX0 1 f0 _ ["thing", "least"] (spP (cmL c_BadTable c_BadView c_BadPlace) 0 M_is_whole) := ok_is_whole T D0 
  have G1 : FnOk l.prog w KK mg base CX0 1 f1 _ ["thing"] (spP (cmL c_BadTable c_BadView c_BadPlace) 0 M_is_grid) := ok_is_grid T D1 
  have G2 : FnOk l.prog w KK mg base CX0 2 f2 _ ["thing"] (spP (cmL c_BadTable c_BadView c_BadPlace) 0 M_is_table) := ok_is_table T D2 D1 G1 D0 G0
  have G3 : FnOk l.prog w KK mg base CX0 2 f3 _ ["thing", "grid"] (spP (cmL c_BadTable c_BadView c_BadPlace) 0 M_is_place) := ok_is_place T D3 D0 G0
  have G4 : FnOk l.prog w KK mg base (L2.CX l.prog w) 3 f4 _ ["thing"] (spP (cmL c_BadTable c_BadView c_BadPlace) 0 M_need_table) := ok_need_table T D4 D2 G2
  have G5 : FnOk l.prog w KK mg base (L2.CX l.prog w) 4 f5 _ ["table"] (spP (cmL c_BadTable c_BadView c_BadPlace) 3 M_row_sums) := ok_row_sums T D5 D4 G4
  have G6 : FnOk l.prog w KK mg base (L2.CX l.prog w) 4 f6 _ ["table"] (spP (cmL c_BadTable c_BadView c_BadPlace) 3 M_column_sums) := ok_column_sums T D6 D4 G4
  have G7 : FnOk l.prog w KK mg base CX0 2 f7 _ ["thing"] (spP (cmL c_BadTable c_BadView c_BadPlace) 0 M__are_cells) := ok__are_cells T D7 D1 G1 D0 G0
  have G8 : FnOk l.prog w KK mg base CX0 2 f8 _ ["thing", "many"] (spP (cmL c_BadTable c_BadView c_BadPlace) 0 M__are_sums) := ok__are_sums T D8 D0 G0
  have G9 : FnOk l.prog w KK mg base CX0 3 f9 _ ["thing"] (spP (cmL c_BadTable c_BadView c_BadPlace) 0 M__has_parts) := ok__has_parts T D9 D7 G7 D8 G8
  have G10 : FnOk l.prog w KK mg base CX0 1 f10 _ ["lines", "sums"] (spP (cmL c_BadTable c_BadView c_BadPlace) 3 M__left) := ok__left T D10 
  have G11 : FnOk l.prog w KK mg base CX0 2 f11 _ ["parts"] (spP (cmL c_BadTable c_BadView c_BadPlace) 3 M__rests) := ok__rests T D11 D10 G10
  have G12 : FnOk l.prog w KK mg base CX0 4 f12 _ ["thing"] (spP (cmL c_BadTable c_BadView c_BadPlace) 0 M_is_view) := ok_is_view T D12 D9 G9 D11 G11
  have G13 : FnOk l.prog w KK mg base (L2.CX l.prog w) 5 f13 _ ["thing"] (spP (cmL c_BadTable c_BadView c_BadPlace) 0 M_need_view) := ok_need_view T D13 D12 G12
  have G14 : FnOk l.prog w KK mg base CX0 3 f14 _ ["thing", "table"] (spP (cmL c_BadTable c_BadView c_BadPlace) 0 M__are_places) := ok__are_places T D14 D3 G3
  have G15 : FnOk l.prog w KK mg base (L2.CX l.prog w) 5 f15 _ ["table", "places"] (spP (cmL c_BadTable c_BadView c_BadPlace) 3 M_view_of) := ok_view_of T D15 D4 G4 D14 G14 D5 G5 D6 G6
  have G16 : FnOk l.prog w KK mg base (L2.CX l.prog w) 6 f16 _ ["view"] (spP (cmL c_BadTable c_BadView c_BadPlace) 3 M_hidden_places) := ok_hidden_places T D16 D13 G13
  have G17 : FnOk l.prog w KK mg base (L2.CX l.prog w) 7 f17 _ ["table", "view"] (spP (cmL c_BadTable c_BadView c_BadPlace) 0 M_has_view) := ok_has_view T D17 D4 G4 D13 G13 D15 G15 D16 G16
  have G18 : FnOk l.prog w KK mg base CX0 1 f18 _ ["_law_script", "_law_k"] (spP (cmL c_BadTable c_BadView c_BadPlace) 0 M__law_mix) := ok__law_mix T D18 
  have G19 : FnOk l.prog w KK mg base CX0 2 f19 _ ["_law_script", "_law_k"] (spP (cmL c_BadTable c_BadView c_BadPlace) 0 M__law_count) := ok__law_count T D19 D18 G18
  have G20 : FnOk l.prog w KK mg base CX0 3 f20 _ ["_law_script", "_law_high", "_law_wide"] (spP (cmL c_BadTable c_BadView c_BadPlace) 3 M__law_table) := ok__law_table T D20 D19 G19
  have G21 : FnOk l.prog w KK mg base CX0 1 f21 _ ["_law_table_here"] (spP (cmL c_BadTable c_BadView c_BadPlace) 0 M__law_all) := ok__law_all T D21 
  have G22 : FnOk l.prog w KK mg base CX0 2 f22 _ ["_law_script", "_law_table_here"] (spP (cmL c_BadTable c_BadView c_BadPlace) 0 M__law_places) := ok__law_places T D22 D18 G18 D21 G21
  have G23 : FnOk l.prog w KK mg base CX0 1 f23 _ ["_law_table_here"] (spP (cmL c_BadTable c_BadView c_BadPlace) 3 M__law_column_sums) := ok__law_column_sums T D23 
  have G24 : FnOk l.prog w KK mg base CX0 2 f24 _ ["_law_table_here", "_law_places_here"] (spP (cmL c_BadTable c_BadView c_BadPlace) 3 M__law_view) := ok__law_view T D24 D23 G23
  have G25 : FnOk l.prog w KK mg base CX0 1 f25 _ ["_law_thing"] (spP (cmL c_BadTable c_BadView c_BadPlace) 0 M__law_whole) := ok__law_whole T D25 
  have G26 : FnOk l.prog w KK mg base CX0 2 f26 _ ["_law_table_here", "_law_view_here"] (spP (cmL c_BadTable c_BadView c_BadPlace) 0 M__law_has) := ok__law_has T D26 D25 G25 D23 G23
  have G27 : FnOk l.prog w KK mg base CX0 2 f27 _ ["_law_script", "_law_table_here", "_law_k"] (spM 1 3 0 M__law_rectangle) := ok__law_rectangle T D27 D18 G18
  have G28 : FnOk l.prog w KK mg base CX0 3 f28 _ ["_law_script", "_law_table_here"] (spP (cmL c_BadTable c_BadView c_BadPlace) 0 M__law_other) := ok__law_other T D28 D18 G18 D27 G27
  have G29 : FnOk l.prog w KK mg base CX0 8 f29 _ ["_law_table_here", "_law_view_here"] (spP (cmL c_BadTable c_BadView c_BadPlace) 0 M__law_refused) := ok__law_refused T D29 D17 G17
  exact ok_law T D30 D20 G20 D18 G18 D22 G22 D24 G24 D28 G28 D26 G26 D17 G17 D29 G29
end Vl
open PySem PySem.W PyProof.Rows
set_option maxHeartbeats 0 in
theorem PySem.Challenge.cw_veiled_k06_views_had_holds : PySem.Challenge.rw_veiled_k06_views_had.Holds := by
  w_on; o_law; k_head; (case hw => w_witness2)
  k_fill
  refine L2.walk_of (l := PySem.Challenge.rw_veiled_k06_views_had) (n := 63) (k := 9) (x := "_law_script") (CX := fun _ => L2.CX0) (sp := fun w => @Vl.spLaw ⟨_⟩) rfl (by decide) rfl ⟨rfl, by decide, by decide⟩ (fun w h Y => PySem.W.kIn_of Y) ?F (fun _ _ a ns hl _ hS => ⟨a, ns, rfl, hS, hl, fun _ => rfl⟩) (fun _ _ _ _ _ h => h)
  case F =>
    intro w mg fa h KX G hmg
    refine' Vl.all_mk KX G hmg ?a0 ?l0 ?c0 ?k0 ?a1 ?l1 ?c1 ?k1 ?a2 ?l2 ?c2 ?k2 ?a3 ?l3 ?c3 ?k3 ?a4 ?l4 ?c4 ?k4 ?a5 ?l5 ?c5 ?k5 ?a6 ?l6 ?c6 ?k6 ?a7 ?l7 ?c7 ?k7 ?a8 ?l8 ?c8 ?k8 ?a9 ?l9 ?c9 ?k9 ?a10 ?l10 ?c10 ?k10 ?a11 ?l11 ?c11 ?k11 ?a12 ?l12 ?c12 ?k12 ?a13 ?l13 ?c13 ?k13 ?a14 ?l14 ?c14 ?k14 ?a15 ?l15 ?c15 ?k15 ?a16 ?l16 ?c16 ?k16 ?a17 ?l17 ?c17 ?k17 ?a18 ?l18 ?c18 ?k18 ?a19 ?l19 ?c19 ?k19 ?a20 ?l20 ?c20 ?k20 ?a21 ?l21 ?c21 ?k21 ?a22 ?l22 ?c22 ?k22 ?a23 ?l23 ?c23 ?k23 ?a24 ?l24 ?c24 ?k24 ?a25 ?l25 ?c25 ?k25 ?a26 ?l26 ?c26 ?k26 ?a27 ?l27 ?c27 ?k27 ?a28 ?l28 ?c28 ?k28 ?a29 ?l29 ?c29 ?k29 ?a30 ?l30 ?c30 ?k30 ?z0_0 ?z1_0 ?z2_0 ?z3_0 ?z4_0 ?z5_0 ?z6_0 ?z7_0 ?z8_0 ?z9_0 ?z10_0 ?z11_0 ?z12_0 ?z13_0 ?z14_0 ?z15_0 ?z16_0 ?z17_0 ?z18_0 ?z19_0 ?z20_0 ?z20_1 ?z20_2 ?z20_3 ?z21_0 ?z21_1 ?z21_2 ?z21_3 ?z22_0 ?z22_1 ?z22_2 ?z22_3 ?z23_0 ?z23_1 ?z23_2 ?z23_3 ?z23_4 ?z23_5 ?z23_6 ?z23_7 ?z24_0 ?z24_1 ?z24_2 ?z24_3 ?z24_4 ?z24_5 ?z24_6 ?z24_7 ?z25_0 ?z26_0 ?z27_0 ?z28_0 ?z29_0
    (case a0 => k_is); (case l0 => k_is); (case c0 => k_is); (case k0 => k_is); (case a1 => k_is); (case l1 => k_is); (case c1 => k_is); (case k1 => k_is); (case a2 => k_is); (case l2 => k_is); (case c2 => k_is); (case k2 => k_is); (case a3 => k_is); (case l3 => k_is); (case c3 => k_is); (case k3 => k_is); (case a4 => k_is); (case l4 => k_is); (case c4 => k_is); (case k4 => k_is); (case a5 => k_is); (case l5 => k_is); (case c5 => k_is); (case k5 => k_is); (case a6 => k_is); (case l6 => k_is); (case c6 => k_is); (case k6 => k_is); (case a7 => k_is); (case l7 => k_is); (case c7 => k_is); (case k7 => k_is); (case a8 => k_is); (case l8 => k_is); (case c8 => k_is); (case k8 => k_is); (case a9 => k_is); (case l9 => k_is); (case c9 => k_is); (case k9 => k_is); (case a10 => k_is); (case l10 => k_is); (case c10 => k_is); (case k10 => k_is); (case a11 => k_is); (case l11 => k_is); (case c11 => k_is); (case k11 => k_is); (case a12 => k_is); (case l12 => k_is); (case c12 => k_is); (case k12 => k_is); (case a13 => k_is); (case l13 => k_is); (case c13 => k_is); (case k13 => k_is); (case a14 => k_is); (case l14 => k_is); (case c14 => k_is); (case k14 => k_is); (case a15 => k_is); (case l15 => k_is); (case c15 => k_is); (case k15 => k_is); (case a16 => k_is); (case l16 => k_is); (case c16 => k_is); (case k16 => k_is); (case a17 => k_is); (case l17 => k_is); (case c17 => k_is); (case k17 => k_is); (case a18 => k_is); (case l18 => k_is); (case c18 => k_is); (case k18 => k_is); (case a19 => k_is); (case l19 => k_is); (case c19 => k_is); (case k19 => k_is); (case a20 => k_is); (case l20 => k_is); (case c20 => k_is); (case k20 => k_is); (case a21 => k_is); (case l21 => k_is); (case c21 => k_is); (case k21 => k_is); (case a22 => k_is); (case l22 => k_is); (case c22 => k_is); (case k22 => k_is); (case a23 => k_is); (case l23 => k_is); (case c23 => k_is); (case k23 => k_is); (case a24 => k_is); (case l24 => k_is); (case c24 => k_is); (case k24 => k_is); (case a25 => k_is); (case l25 => k_is); (case c25 => k_is); (case k25 => k_is); (case a26 => k_is); (case l26 => k_is); (case c26 => k_is); (case k26 => k_is); (case a27 => k_is); (case l27 => k_is); (case c27 => k_is); (case k27 => k_is); (case a28 => k_is); (case l28 => k_is); (case c28 => k_is); (case k28 => k_is); (case a29 => k_is); (case l29 => k_is); (case c29 => k_is); (case k29 => k_is); (case a30 => k_is); (case l30 => k_is); (case c30 => k_is); (case k30 => k_is); (case z0_0 => k_is); (case z1_0 => k_is); (case z2_0 => k_is); (case z3_0 => k_is); (case z4_0 => k_is); (case z5_0 => k_is); (case z6_0 => k_is); (case z7_0 => k_is); (case z8_0 => k_is); (case z9_0 => k_is); (case z10_0 => k_is); (case z11_0 => k_is); (case z12_0 => k_is); (case z13_0 => k_is); (case z14_0 => k_is); (case z15_0 => k_is); (case z16_0 => k_is); (case z17_0 => k_is); (case z18_0 => k_is); (case z19_0 => k_is); (case z20_0 => k_exc); (case z20_1 => k_is); (case z20_2 => k_is); (case z20_3 => k_is); (case z21_0 => k_exc); (case z21_1 => k_is); (case z21_2 => k_is); (case z21_3 => k_is); (case z22_0 => k_exc); (case z22_1 => k_is); (case z22_2 => k_is); (case z22_3 => k_is); (case z23_0 => k_is); (case z23_1 => k_is); (case z23_2 => k_is); (case z23_3 => k_is); (case z23_4 => k_is); (case z23_5 => k_is); (case z23_6 => k_is); (case z23_7 => k_is); (case z24_0 => k_is); (case z24_1 => k_is); (case z24_2 => k_is); (case z24_3 => k_is); (case z24_4 => k_is); (case z24_5 => k_is); (case z24_6 => k_is); (case z24_7 => k_is); (case z25_0 => kts_exm); (case z26_0 => kit_is); (case z27_0 => kts_exm); (case z28_0 => kts_exm); (case z29_0 => kit_is)
