import PyProof.Rows.All
import Wide.All
import OpenK.AllK
import Wide.FinOn
import HandS.ForMost
import HandS.Wide
import HandS.IsInst
import HandS.Walk
import HandS.Defaults
import HandS.Head0
import HandS.Head1
import HandS.Head2
import HandS.HeadEnd
import HandS.HeadHook1
import HandS.HeadHook2
import HandS.OwnEq
import HandS.Property
import HandS.ClsMeth
import HandS.HeadNt
import HandS.Gcd
import HandS.CallLocal
import HandS.Codes
import KE.KOpsOwn
import KE.KCallOwn
import KE.KFmtOwn
import PyProof.InstNe
import PyProof.Rows.RuleN_abs
import HandS.Style
import HandS.Head3
import HandS.SortRule
import PySem.Challenge.RW_wonbyturns_k07_whole_fractions_between
set_option Elab.async false
set_option linter.all false
set_option maxRecDepth 100000
set_option maxHeartbeats 4000000
/-! k07: fractions between -/
/-! My own rules beside the layer, and the reading's steps by name. -/
namespace Ow
open PySem PySem.Spec PyProof.Rows L2

/-! ### operations that the layer's rules do not reach -/
section
variable {X : Cx}
/-- a power of a great base -/
def CPowW (i j : Int) : Prop := 0 ≤ j ∧ (Builtin.Int.intBits i : Int) * j ≤ 2 ^ 27
theorem op_powW : OpR X (binaryOp .Pow) (rI CPowW fun i j => .int (i ^ j.toNat)) := opI fun _ _ _ _ _ _ _ hc q => pow_int hc.1 hc.2 q
/-- repr of a truth value -/
def rReprB : List V → Hp → VK → Prop := fun xs H Q => ∃ k : Bool, xs = [.bl k] ∧ Q (.str (if k then "True" else "False")) H
theorem c_reprB : CallR X (.builtin "repr") rReprB := by
  intro pins s σ H xs us Q I r h
  obtain ⟨k, rfl, q⟩ := h
  obtain ⟨u, rfl, rx⟩ := vals1 r
  cases (show u = Value.bool k from rx)
  exact PySem.P.repr_of_bool ⟨.str _, H, I.tok _, ⟨_, rfl⟩, q⟩
/-- the chrs of a text, one by one -/
def chrs (z : Str) : List V := z.cps.toList.map fun c => V.str ⟨#[c]⟩
/-- list(text) -/
def rListS : List V → Hp → VK → Prop := fun xs H Q => ∃ z : Str, xs = [.str z] ∧ z.cps.size ≤ 100000 ∧ ∀ p, H p = none → Q (.ref p) (upd H p (.lst (chrs z)))
theorem vals_chrs : ∀ (l : List Nat) (us : List Value), us.length = l.length → (∀ i, (h : i < l.length) → ∃ c t, l[i]? = some c ∧ us[i]? = some (Value.str ⟨#[c]⟩ t)) → Vals (l.map fun c => V.str ⟨#[c]⟩) us
  | [], [], _, _ => .nil
  | [], _ :: _, h, _ => by simp at h
  | _ :: _, [], h, _ => by simp at h
  | c :: l, u :: us, h, k => by
    obtain ⟨c', t, e1, e2⟩ := k 0 (by simp)
    simp at e1 e2
    subst e1
    subst e2
    refine .cons ⟨t, rfl⟩ (vals_chrs l us (by simpa using h) fun i hi => ?_)
    obtain ⟨c2, t2, e3, e4⟩ := k (i + 1) (by simpa using hi)
    exact ⟨c2, t2, by simpa using e3, by simpa using e4⟩
theorem c_listS (hc : X.calm = true) : CallR X (.type "list") rListS := by
  intro pins s σ H xs us Q I r h
  obtain ⟨z, rfl, hz, q⟩ := h
  obtain ⟨u, rfl, t, rfl⟩ := vals1 r
  have hh : X.A.handled = none := I.ok.hd hc
  refine call_list_str hh z t (fun h' tk acc' c' kp e it => ?_) (Nat.le_trans hz (by decide))
  refine ⟨.ref s.heap.objs.size, _, I.laid (t' := tk) kp (Nat.le_refl _) (show ObjOk X.prog X.w _ h' _ (.lst (chrs z)) from ?_), rfl, q _ (I.hok.fresh (Nat.le_refl _))⟩
  refine ⟨by unfold chrs; rw [List.length_map, Array.length_toList]; exact Nat.le_trans hz (by decide), acc'.toList, c', ?_, e⟩
  refine vals_chrs z.cps.toList acc'.toList (by rw [Array.length_toList, Array.length_toList, it.1]) fun i hi => ?_
  have hi2 : i < acc'.size := by
    rw [it.1]
    simpa using hi
  obtain ⟨c, u, e1, e2⟩ := it.2 i acc'[i] (by simp [hi2])
  exact ⟨c, u, by simpa using e1, by simp [hi2, e2]⟩
end

/-! ### readings by name: each is the reading's own sense, so that a step is found by its head -/
section
variable {σ : L2.St} {H : Hp} {Q : VK} {ta tb te : TE} {tr ts : TA} {n b c : L2.St → Hp → Prop} {rt : VK} {K : PySem.W.Frag}
theorem y_seq {t u : TS} (h : t ⟨u ⟨n, rt, b, c⟩, rt, b, c⟩ σ H) : tSeq t u ⟨n, rt, b, c⟩ σ H := h
theorem y_next (h : n σ H) : tNext ⟨n, rt, b, c⟩ σ H := h
theorem y_asg {g : TG} (h : te σ H fun x H1 => g x σ H1 n) : tAsg te g ⟨n, rt, b, c⟩ σ H := h
theorem y_name {i : Nat} {v : V} {R : L2.St → Hp → Prop} (h : R (σ.set i (some v)) H) : gName i v σ H R := h
theorem y_sub {to ti : TE} {t : TSet} {v : V} {R : L2.St → Hp → Prop} (h : to σ H fun o H1 => ti σ H1 fun i H2 => t o i v H2 fun H3 => R σ H3) : gSub to ti t v σ H R := h
theorem y_ret (h : te σ H rt) : tRet te ⟨n, rt, b, c⟩ σ H := h
theorem y_drop (h : te σ H fun _ H1 => n σ H1) : tDrop te ⟨n, rt, b, c⟩ σ H := h
theorem y_ifs {tc : TT} {t u : TS} (h : tc σ H fun k H1 => if k = true then t ⟨n, rt, b, c⟩ σ H1 else u ⟨n, rt, b, c⟩ σ H1) : tIfS tc t u ⟨n, rt, b, c⟩ σ H := h
theorem y_for {wi : TI} {g : TG} {t : TS} (h : wi σ H fun J H1 => ∃ W : Nat → Nat → L2.St → Hp → Prop, (∃ m, W 0 m σ H1) ∧ ∀ i m σ H, W i m σ H →
  (J.stop i H ∧ n σ H) ∨ (J.go i H ∧ ∃ N : L2.St → Hp → Prop, (∀ σ' H', N σ' H' → ∃ m', m' < m ∧ W (i + 1) m' σ' H') ∧ ∀ x H', J.yld i H x H' → g x σ H' fun σ2 H2 => t ⟨N, rt, n, N⟩ σ2 H2)) : tFor wi g t ⟨n, rt, b, c⟩ σ H := h
theorem y_var {i : Nat} {v : V} (e : σ[i]? = some (some v)) (h : Q v H) : tVar i σ H Q := ⟨v, e, h⟩
theorem y_var2 {i : Nat} (h : ∃ v, σ[i]? = some (some v) ∧ Q v H) : tVar i σ H Q := h
theorem y_con {v : V} (h : Q v H) : tC v σ H Q := h
theorem y_op {r : R2} (h : ta σ H fun x H1 => tb σ H1 fun y H2 => r x y H2 Q) : tOp r ta tb σ H Q := h
theorem y_un {r : V → Hp → VK → Prop} (h : ta σ H fun x H1 => r x H1 Q) : tUn r ta σ H Q := h
theorem y_nil {R : List V → Hp → Prop} (h : R [] H) : tNil σ H R := h
theorem y_cons {R : List V → Hp → Prop} (h : ta σ H fun x H1 => tr σ H1 fun xs H2 => R (x :: xs) H2) : tCons ta tr σ H R := h
theorem y_cb {r : List V → Hp → VK → Prop} (h : tr σ H fun vs H1 => r vs H1 Q) : tCB r tr σ H Q := h
theorem y_I0 {g : Int → Int → V} {i j : Int} (h : Q (g i j) H) : rI0 g (.int i) (.int j) H Q := ⟨i, j, rfl, rfl, h⟩
theorem y_I {C : Int → Int → Prop} {g : Int → Int → V} {i j : Int} (e : C i j) (h : Q (g i j) H) : rI C g (.int i) (.int j) H Q := ⟨i, j, rfl, rfl, e, h⟩
theorem y_test {R : Bool → Hp → Prop} (h : te σ H fun x H' => ∃ k, x = .bl k ∧ R k H') : tTest te σ H R := h
theorem y_B {R : Bool → Hp → Prop} (h : te σ H fun x H' => ∃ k, x = .bl k ∧ R k H') : tB te σ H R := h
theorem y_bl {k : Bool} {R : Bool → Prop} (h : R k) : ∃ k', V.bl k = .bl k' ∧ R k' := ⟨k, rfl, h⟩
theorem y_not {t : TT} {R : Bool → Hp → Prop} (h : t σ H fun k H1 => R (!k) H1) : tNot t σ H R := h
theorem y_and {t u : TT} {R : Bool → Hp → Prop} (h : t σ H fun k H1 => if k = true then u σ H1 R else R false H1) : tAnd t u σ H R := h
theorem y_or {t u : TT} {R : Bool → Hp → Prop} (h : t σ H fun k H1 => if k = true then R true H1 else u σ H1 R) : tOr t u σ H R := h
theorem y_if {t : TT} (h : t σ H fun k H1 => if k = true then ta σ H1 Q else tb σ H1 Q) : tIf t ta tb σ H Q := h
theorem y_chain {r r' : R2} (h : ta σ H fun x H1 => tb σ H1 fun y H2 => r x y H2 fun z H3 => ∃ k, z = .bl k ∧ (if k = true then te σ H3 fun w' H4 => r' y w' H4 Q else Q (.bl false) H3)) : tChain r r' ta tb te σ H Q := h
theorem y_andV (h : ta σ H fun x H1 => ∃ k, x = .bl k ∧ if k = true then tb σ H1 Q else Q (.bl false) H1) : tAndV ta tb σ H Q := h
theorem y_orV (h : ta σ H fun x H1 => ∃ k, x = .bl k ∧ if k = true then Q (.bl true) H1 else tb σ H1 Q) : tOrV ta tb σ H Q := h
theorem y_yes {R : Bool → Hp → Prop} (h : R true H) : tYes σ H R := h
theorem y_lst {t : TA} (h : t σ H fun xs H1 => xs.length ≤ sizeLine ∧ ∀ p, H1 p = none → Q (.ref p) (upd H1 p (.lst xs))) : tLst t σ H Q := h
theorem y_tup {t : TA} (h : t σ H fun xs H1 => xs.length ≤ sizeLine ∧ ∀ p, H1 p = none → Q (.ref p) (upd H1 p (.tup xs))) : tTup t σ H Q := h
theorem y_eqI {i j : Int} (h : Q (.bl (decide (i = j))) H) : rEq (.int i) (.int j) H Q := ⟨rfl, by
  have e : decide (V.int i = V.int j) = decide (i = j) := by
    rw [decide_eq_decide]
    exact ⟨fun z => V.int.inj z, fun z => by rw [z]⟩
  rw [e]
  exact h⟩
theorem y_neI {i j : Int} (h : Q (.bl (!decide (i = j))) H) : rNe (.int i) (.int j) H Q := ⟨rfl, by
  have e : decide (V.int i = V.int j) = decide (i = j) := by
    rw [decide_eq_decide]
    exact ⟨fun z => V.int.inj z, fun z => by rw [z]⟩
  rw [e]
  exact h⟩
theorem y_eqS {i j : Str} (h : Q (.bl (decide (i = j))) H) : rEq (.str i) (.str j) H Q := ⟨rfl, by
  have e : decide (V.str i = V.str j) = decide (i = j) := by
    rw [decide_eq_decide]
    exact ⟨fun z => V.str.inj z, fun z => by rw [z]⟩
  rw [e]
  exact h⟩
theorem y_neS {i j : Str} (h : Q (.bl (!decide (i = j))) H) : rNe (.str i) (.str j) H Q := ⟨rfl, by
  have e : decide (V.str i = V.str j) = decide (i = j) := by
    rw [decide_eq_decide]
    exact ⟨fun z => V.str.inj z, fun z => by rw [z]⟩
  rw [e]
  exact h⟩
/-- calls, by values -/
def rIntI : List V → Hp → VK → Prop := fun xs H Q => (∃ i, xs = [.int i] ∧ Q (.int i) H) ∨ ∃ k, xs = [.bl k] ∧ Q (.int (if k then 1 else 0)) H
theorem c_int {X : Cx} : CallR X (.type "int") rIntI := call_int1
theorem y_intI {i : Int} (h : Q (.int i) H) : rIntI [.int i] H Q := .inl ⟨i, rfl, h⟩
theorem y_intB {k : Bool} (h : Q (.int (if k then 1 else 0)) H) : rIntI [.bl k] H Q := .inr ⟨k, rfl, h⟩
def rAbs : List V → Hp → VK → Prop := fun xs H Q => ∃ i, xs = [.int i] ∧ Q (.int (if i < 0 then -i else i)) H
theorem c_abs {X : Cx} : CallR X (.builtin "abs") rAbs := call_abs
theorem y_abs {i : Int} (h : Q (.int (i.natAbs : Int)) H) : rAbs [.int i] H Q := ⟨i, rfl, by
  have e : (if i < 0 then -i else i) = (i.natAbs : Int) := by split <;> omega
  rw [e]
  exact h⟩
def rMax2 : List V → Hp → VK → Prop := fun xs H Q => ∃ i j, xs = [.int i, .int j] ∧ Q (.int (if j > i then j else i)) H
theorem c_max2 {X : Cx} (hc : X.calm = true) : CallR X (.builtin "max") rMax2 := call_max2 hc
theorem y_max2 {i j : Int} (h : Q (.int (max i j)) H) : rMax2 [.int i, .int j] H Q := ⟨i, j, rfl, by
  have e : (if j > i then j else i) = max i j := by split <;> omega
  rw [e]
  exact h⟩
def rMin2 : List V → Hp → VK → Prop := fun xs H Q => ∃ i j, xs = [.int i, .int j] ∧ Q (.int (if j < i then j else i)) H
theorem c_min2 {X : Cx} (hc : X.calm = true) : CallR X (.builtin "min") rMin2 := call_min2 hc
theorem y_min2 {i j : Int} (h : Q (.int (min i j)) H) : rMin2 [.int i, .int j] H Q := ⟨i, j, rfl, by
  have e : (if j < i then j else i) = min i j := by split <;> omega
  rw [e]
  exact h⟩
def rLenQ (K : PySem.W.Frag) : List V → Hp → VK → Prop := fun xs H Q => ∃ p ys, xs = [.ref p] ∧ (SqL K H p ys ∨ SqT K H p ys) ∧ Q (.int ys.length) H
theorem c_lenQ {X : Cx} {K : PySem.W.Frag} (h : X.K = K := by rfl) : CallR X (.builtin "len") (rLenQ K) := h ▸ call_len_seq
theorem y_lenL {p : Addr} {ys : List V} (e : SqL K H p ys) (h : Q (.int ys.length) H) : rLenQ K [.ref p] H Q := ⟨p, ys, rfl, .inl e, h⟩
theorem y_lenT {p : Addr} {ys : List V} (e : SqT K H p ys) (h : Q (.int ys.length) H) : rLenQ K [.ref p] H Q := ⟨p, ys, rfl, .inr e, h⟩
def rLenS : List V → Hp → VK → Prop := fun xs H Q => ∃ z, xs = [.str z] ∧ z.length ≤ sizeLine ∧ Q (.int z.length) H
theorem c_lenS {X : Cx} : CallR X (.builtin "len") rLenS := call_len_str
theorem y_lenS {z : Str} (e : z.length ≤ 100000) (h : Q (.int z.length) H) : rLenS [.str z] H Q := ⟨z, rfl, Nat.le_trans e (by decide), h⟩
theorem y_reprB {k : Bool} (h : Q (.str (if k then "True" else "False")) H) : rReprB [.bl k] H Q := ⟨k, rfl, h⟩
theorem y_listS {z : Str} (e : z.cps.size ≤ 100000) (h : ∀ p, H p = none → Q (.ref p) (upd H p (.lst (chrs z)))) : rListS [.str z] H Q := ⟨z, rfl, e, h⟩
def rListQ (K : PySem.W.Frag) : List V → Hp → VK → Prop := fun xs H Q => ∃ p ys, xs = [.ref p] ∧ (SqL K H p ys ∨ SqT K H p ys) ∧ ∀ l, H l = none → Q (.ref l) (upd H l (.lst ys))
theorem c_listQ {X : Cx} {K : PySem.W.Frag} (h : X.K = K := by rfl) : CallR X (.type "list") (rListQ K) := h ▸ call_list_of
theorem y_listL {p : Addr} {ys : List V} (e : SqL K H p ys) (h : ∀ l, H l = none → Q (.ref l) (upd H l (.lst ys))) : rListQ K [.ref p] H Q := ⟨p, ys, rfl, .inl e, h⟩
theorem y_listT {p : Addr} {ys : List V} (e : SqT K H p ys) (h : ∀ l, H l = none → Q (.ref l) (upd H l (.lst ys))) : rListQ K [.ref p] H Q := ⟨p, ys, rfl, .inr e, h⟩
theorem y_ixL {p : Addr} {xs : List V} {i : Int} {v : V} (e : SqL K H p xs) (a : atI xs i = some v) (h : Q v H) : rIxL K (.ref p) (.int i) H Q := ⟨p, xs, i, v, rfl, rfl, e, a, h⟩
theorem y_setL {p : Addr} {xs : List V} {k : Int} {j : Nat} {v : V} {R : Hp → Prop} (e : H p = some (.lst xs)) (a : ixN xs.length k = some j) (h : R (upd H p (.lst (xs.set j v)))) : rSetL (.ref p) (.int k) v H R := ⟨p, xs, k, j, rfl, rfl, e, a, h⟩
theorem y_rng1 {t : TA} {R : It → Hp → Prop} (h : t σ H fun vs H1 => ∃ j : Int, vs = [.int j] ∧ -(2 ^ 62) ≤ j ∧ j < 2 ^ 62 ∧ R (Itr 0 j.toNat) H1) : iRng1 t σ H R := h
theorem y_iStr {R : It → Hp → Prop} (h : te σ H fun v H1 => ∃ x, v = .str x ∧ R (Its x) H1) : iStr te σ H R := h
theorem y_iList {R : It → Hp → Prop} (h : te σ H fun x H1 => ∃ a, x = .ref a ∧ (∃ xs, SqL K H1 a xs) ∧ R (Itl K a) H1) : iList K te σ H R := h
end

/-! ### a def that is called: where it stands, how its arguments bind, what it promises -/
structure Cal (P : Program) (w : World) (K : PySem.W.Frag) (mg : Str → Option Value) (base : Heap) (k : Nat) (x : Str) (ps : List Str) (sp : Sp) : Prop where
  ex : ∃ (f : Addr) (fd : FuncData), FnOk P w K mg base CX0 k f fd ps sp ∧ mg x = some (.ref f) ∧ PySem.W.keepIn K (.ref f) = true ∧ Binds K fd ps []
/-- its call: the arguments, then its promise -/
def tFn (sp : Sp) (t : TA) : TE := fun σ H Q => t σ H fun vs H1 => sp vs H1 Q E0
theorem y_fn {σ : L2.St} {H : Hp} {Q : VK} {sp : Sp} {t : TA} (h : t σ H fun vs H1 => sp vs H1 Q E0) : tFn sp t σ H Q := h
theorem pe_fn {X : Cx} {k : Nat} {x : Str} {ps : List Str} {sp : Sp} {p pos : Pos} {e : Expr} {es : List Expr} {t : TA} (c : Cal X.prog X.w X.K X.mg X.base k x ps sp) (hr : Room k X.A) (hg : Gl X x) (ha : PA X (e :: es) t) (hdb : (x == ("__debug__" : Str)) = false := by decide)
    (he : starEach (e :: es) X.env = (false, eval e X.env) :: starEach es X.env := by rfl) (hpl : (backTo pos (starEach es X.env)).any (·.1) = false := by rfl) : PE X (.Call (.Name x p) (e :: es) [] pos) (tFn sp t) := by
  obtain ⟨f, fd, F, hm, hk, hb⟩ := c.ex
  have h := pe_call (p := p) (pos := pos) F hr hg hm hk hb .nil pass0 ha hdb he hpl
  have e : tCall sp [] E0 t = tFn sp t := by
    funext σ H Q
    show t σ H (fun vs H1 => sp (vs ++ []) H1 Q E0) = t σ H fun vs H1 => sp vs H1 Q E0
    congr 1
    funext vs H1
    rw [List.append_nil]
  rw [← e]
  exact h
theorem pe_globI {X : Cx} {x : Str} {i : Int} {pos : Pos} (hg : Gl X x) (hm : ∃ t, X.mg x = some (.int i t)) (hd : (x == ("__debug__" : Str)) = false := by decide) : PE X (.Name x pos) (tC (.int i)) := by
  obtain ⟨t, e⟩ := hm
  exact pe_glob hg e ⟨t, rfl⟩ hd

/-! ### heaps: all that stands but d stands as before -/
def Fr (d : Addr) (H H' : Hp) : Prop := ∀ b o, H b = some o → b ≠ d → H' b = some o
theorem Fr.refl (d : Addr) (H : Hp) : Fr d H H := fun _ _ h _ => h
theorem Fr.trans {d : Addr} {H H1 H2 : Hp} (a : Fr d H H1) (b : Fr d H1 H2) : Fr d H H2 := fun x o h n => b x o (a x o h n) n
theorem Fr.self {d : Addr} {H : Hp} {o : HO} : Fr d H (upd H d o) := fun b u h n => by
  rw [upd_ne n]
  exact h
theorem Fr.new {d p : Addr} {H : Hp} {o : HO} (e : H p = none) : Fr d H (upd H p o) := fun b u h n => by
  rw [upd_ne (ne_of_none h e)]
  exact h
/-- an object that the first heap does not know may change -/
theorem Fr.mut {d p : Addr} {H H1 : Hp} {o : HO} (a : Fr d H H1) (e : H p = none) : Fr d H (upd H1 p o) := fun b u h n => by
  rw [upd_ne (ne_of_none h e)]
  exact a b u h n
theorem Fr.of_same {d : Addr} {H H' : Hp} (a : Same H H') : Fr d H H' := fun b o h _ => a b o h
theorem Fr.lst {d a : Addr} {H H' : Hp} {K : PySem.W.Frag} {xs : List V} (f : Fr d H H') (n : a ≠ d) (h : SqL K H a xs) : SqL K H' a xs := by
  rcases h with (h | ⟨o, h⟩) | h
  · exact .inl (.inl (f _ _ h n))
  · exact .inl (.inr ⟨o, f _ _ h n⟩)
  · exact .inr h
theorem Fr.tup {d a : Addr} {H H' : Hp} {K : PySem.W.Frag} {xs : List V} (f : Fr d H H') (n : a ≠ d) (h : SqT K H a xs) : SqT K H' a xs := by
  rcases h with (h | ⟨o, h⟩) | h
  · exact .inl (.inl (f _ _ h n))
  · exact .inl (.inr ⟨o, f _ _ h n⟩)
  · exact .inr h
/-- what was there ahead of d is there behind -/
theorem same_fr {H0 H H' : Hp} {d : Addr} (s : Same H0 H) (f : Fr d H H') (e : H0 d = none) : Same H0 H' := fun b o h => f b o (s b o h) (ne_of_none h e)
theorem same_new {H : Hp} {p : Addr} {o : HO} (h : H p = none) : Same H (upd H p o) := fun b x e => by
  rw [upd_ne (ne_of_none e h)]
  exact e
theorem same_mut {H H1 : Hp} {p : Addr} {o : HO} (a : Same H H1) (h : H p = none) : Same H (upd H1 p o) := fun b x e => by
  rw [upd_ne (ne_of_none e h)]
  exact a b x e
theorem free_fr {d p : Addr} {H H' : Hp} (f : Fr d H H') (e : H' p = none) (n : p ≠ d) : H p = none := by
  cases q : H p with
  | none => rfl
  | some o =>
    rw [f p o q n] at e
    cases e
theorem sql {K : PySem.W.Frag} {H : Hp} {a : Addr} {xs : List V} (h : H a = some (.lst xs)) : SqL K H a xs := .inl (.inl h)
theorem sqt {K : PySem.W.Frag} {H : Hp} {a : Addr} {xs : List V} (h : H a = some (.tup xs)) : SqT K H a xs := .inl (.inl h)
/-! ### the dice: a list of three numbers that stands at d -/
def DiceAt (H : Hp) (d : Addr) : Prop := ∃ g e c : Int, H d = some (.lst [.int g, .int e, .int c])
theorem DiceAt.new {H : Hp} {d p : Addr} {o : HO} (h : DiceAt H d) (e : H p = none) : DiceAt (upd H p o) d := by
  obtain ⟨g, x, c, h⟩ := h
  exact ⟨g, x, c, by rw [upd_ne (ne_of_none h e)]; exact h⟩
theorem DiceAt.mut {H : Hp} {d p : Addr} {o : HO} (h : DiceAt H d) (e : p ≠ d) : DiceAt (upd H p o) d := by
  obtain ⟨g, x, c, h⟩ := h
  exact ⟨g, x, c, by rw [upd_ne e.symm]; exact h⟩
theorem DiceAt.same {H H' : Hp} {d : Addr} (h : DiceAt H d) (s : Same H H') : DiceAt H' d := by
  obtain ⟨g, x, c, h⟩ := h
  exact ⟨g, x, c, s _ _ h⟩
theorem DiceAt.ne {H : Hp} {d p : Addr} (h : DiceAt H d) (e : H p = none) : p ≠ d := by
  obtain ⟨g, x, c, h⟩ := h
  exact fun z => by
    rw [z, h] at e
    cases e
def spDice (K : PySem.W.Frag) : Sp := fun vs H Q _ => ∃ (a : Addr) (i : Int) (ns : List Int), vs = [.ref a, .int i] ∧ SqL K H a (ns.map V.int) ∧ 0 ≤ i ∧ i ≤ 1000 ∧ ∀ d H', H d = none → DiceAt H' d → Same H H' → Q (.ref d) H'
def spRoll : Sp := fun vs H Q _ => ∃ (d : Addr) (t : Int), vs = [.ref d, .int t] ∧ DiceAt H d ∧ 0 < t ∧ t.natAbs < 2 ^ 4000 ∧ ∀ n H', 0 ≤ n → n < t → DiceAt H' d → Fr d H H' → Q (.int n) H'
def spPick (K : PySem.W.Frag) : Sp := fun vs H Q _ => ∃ (d l : Addr) (ys : List V), vs = [.ref d, .ref l] ∧ DiceAt H d ∧ SqL K H l ys ∧ l ≠ d ∧ 0 < ys.length ∧ ys.length ≤ 100000 ∧ ∀ v H', v ∈ ys → DiceAt H' d → Fr d H H' → Q v H'
theorem big_div {t : Int} (h : 0 < t) (b : t.natAbs < 2 ^ 4000) {i : Int} : CDivW i t := wide_div h b (by decide) (by decide)
theorem getD_at {α : Type} {l : List α} {n : Int} (h0 : 0 ≤ n) (h1 : n < l.length) : ∃ x, l[n.toNat]? = some x ∧ x ∈ l := by
  have hn : n.toNat < l.length := by omega
  exact ⟨l[n.toNat], by simp [hn], List.getElem_mem hn⟩
theorem at_nat {xs : List V} {n : Int} {v : V} (h0 : 0 ≤ n) (h : xs[n.toNat]? = some v) : atI xs n = some v := at_of (j := n.toNat) (by omega) h
/-- both ways of an if without else come together: J is what follows, for any state of the form F x -/
theorem y_join {α : Type} {σ : L2.St} {H : Hp} {k : Bool} {t : TS} {n b c : L2.St → Hp → Prop} {rt : VK} (F : α → L2.St) (x : α) (e : σ = F x) (hJ : ∀ x, n (F x) H) (h : k = true → (∀ x, n (F x) H) → t ⟨n, rt, b, c⟩ σ H) :
    if k = true then t ⟨n, rt, b, c⟩ σ H else tNext ⟨n, rt, b, c⟩ σ H := by
  cases k with
  | true => exact iteT (h rfl hJ)
  | false => exact iteF (show n σ H by rw [e]; exact hJ x)
theorem y_ite {k : Bool} {A B : Prop} (h1 : k = true → A) (h2 : k = false → B) : if k = true then A else B := by
  cases k with
  | true => exact iteT (h1 rfl)
  | false => exact iteF (h2 rfl)
/-! ### rules with the written part by its own name (a comprehension's block has it by another) -/
section
variable {X : Cx} {K : PySem.W.Frag}
theorem x_list (h : X.K = K := by rfl) : IxR X (rIxL K) := h ▸ ix_list
theorem x_tup (h : X.K = K := by rfl) : IxR X (rIxT K) := h ▸ ix_tup
theorem w_list {tg l : Expr} {tl : TE} (hl : PE X l tl) (h : X.K = K := by rfl) : PI X tg l (iList K tl) := h ▸ pi_list hl
theorem w_tup {tg l : Expr} {tl : TE} (hl : PE X l tl) (h : X.K = K := by rfl) : PI X tg l (iTup K tl) := h ▸ pi_tup hl
theorem c_isi (h : X.K = K := by rfl) : CallR X (.builtin "isinstance") (rIsi K) := h ▸ call_isi
theorem c_all (hc : X.calm = true) (h : X.K = K := by rfl) : CallR X (.builtin "all") (rAll K) := h ▸ cr_all hc
theorem o_eqD (hu : X.A.units + 64 < cLine) (h : X.K = K := by rfl) : OpR X (compareOp .Eq) (rEqD K) := h ▸ op_eqD hu
theorem o_neD (hu : X.A.units + 64 < cLine) (h : X.K = K := by rfl) : OpR X (compareOp .NotEq) (rNeD K) := h ▸ op_neD hu
theorem e_bm {o e : Expr} {es : List Expr} {to : TE} {t : TA} {name : Str} {apos cpos : Pos} {T id : String} {r : V → List V → Hp → VK → Prop} (pa : PlainAttrs T) (slot : Slot T name id) (hty : typeOf (.builtin id) = pure (.type "method_descriptor")) (hm : MtR X id r) (ho : PE X o to) (ha : PA X (e :: es) t) (h : X.K = K := by rfl)
    (hbase : attributeBase o name X.env (eval o X.env) = eval o X.env := by rfl)
    (hfew : ((backTo cpos (starEach (e :: es) X.env)).all (fun x => !x.1) && (backToKw cpos (keywordEach [] X.env)).all (fun x => x.1.isSome)
      && decide ((e :: es).length + ([] : List Keyword).length + (if ([] : List Keyword).isEmpty then 0 else 1) < 30)) = true := by rfl)
    (hline : (apos.endLine == cpos.line) = true := by rfl) (hs : starEach (e :: es) X.env = (false, eval e X.env) :: starEach es X.env := by rfl) (hplain : (backTo cpos (starEach es X.env)).any (·.1) = false := by rfl) :
    PE X (.Call (.Attribute o name apos) (e :: es) [] cpos) (tBM K T r to t) := h ▸ pe_bm pa slot hty hm ho ha hbase hfew hline hs hplain
theorem y_bm {σ : L2.St} {H : Hp} {Q : VK} {T : String} {r : V → List V → Hp → VK → Prop} {to : TE} {t : TA} (h : to σ H fun x H1 => tyV K T x H1 ∧ t σ H1 fun xs H2 => r x xs H2 Q) : tBM K T r to t σ H Q := h
theorem y_m1 {σ : L2.St} {H : Hp} {Q : VK} {r : V → List V → Hp → VK → Prop} {to te : TE} (h : to σ H fun x H1 => (∃ a, x = .str a) ∧ te σ H1 fun y H2 => r x [y] H2 Q) : tM1 r to te σ H Q := h
theorem ty_l {H : Hp} {p : Addr} {xs : List V} (h : H p = some (.lst xs)) : tyV K "list" (.ref p) H := .inl ⟨rfl, _, .inl (.inl h)⟩
end
theorem y_lc {σ : L2.St} {H : Hp} {Q : VK} {wi : TI} {g : TG} {tt : TT} {te : TE} {vs : List Nat} (h : wi σ H fun J H1 => ∀ D, H1 D = none → ∃ W : Nat → Nat → Hp → Prop, (∃ m, W 0 m (upd H1 D (.lst []))) ∧ ∀ i m H, W i m H →
  (J.stop i H ∧ Q (.ref D) H) ∨ (J.go i H ∧ ∃ Nx : Hp → Prop, (∀ H', Nx H' → ∃ m', m' < m ∧ W (i + 1) m' H') ∧ ∀ x H', J.yld i H x H' → g x (wipe σ vs) H' fun σ2 H2 => wipe σ2 vs = wipe σ vs ∧ tt σ2 H2 fun b H3 =>
    if b = true then te σ2 H3 fun y H4 => ∃ acc, H4 D = some (.lst acc) ∧ acc.length < sizeLine ∧ Nx (upd H4 D (.lst (acc ++ [y]))) else Nx H3)) : tLc wi g tt te vs σ H Q := h
theorem ix_seq {i : Int} {n : Nat} (h0 : 0 ≤ i) (h1 : i < n) : seqIndex? i n = some i.toNat := by
  unfold seqIndex?
  have e : ¬ i < 0 := by omega
  simp [e, h0, h1]
theorem big_of {t : Int} (h : t.natAbs ≤ 1000000) : t.natAbs < 2 ^ 4000 := Nat.lt_of_le_of_lt h (by decide +kernel)
theorem sz_le {n : Nat} (h : n ≤ 100000) : n ≤ sizeLine := Nat.le_trans h (by decide)
theorem sz_lt {n : Nat} (h : n < 100000) : n < sizeLine := Nat.lt_of_lt_of_le h (by decide)
theorem y_isi {H : Hp} {Q : VK} {K : PySem.W.Frag} {x : V} {t : Value} {T : String} {k : Bool} (ty : TyX K H x t) (e : PySem.W.kitOne K t (.type T) = some k) (h : Q (.bl k) H) : rIsi K [x, .ty T] H Q := ⟨x, .ty T, t, .type T, k, rfl, .ty T, ty, e, h⟩
/-! ### join of texts -/
def rJoin (K : PySem.W.Frag) : V → List V → Hp → VK → Prop := fun x xs H Q => ∃ a p, ∃ ys : List Str, x = .str a ∧ xs = [.ref p] ∧ (SqL K H p (ys.map V.str) ∨ SqT K H p (ys.map V.str)) ∧ (ys.map (·.length)).sum + ys.length * a.length ≤ 16777216 ∧ Q (.str (Txt.join a ys)) H
theorem e_join {X : Cx} {K : PySem.W.Frag} {o e : Expr} {to te : TE} {apos pos : Pos} (ho : PE X o to) (he : PE X e te) (h : X.K = K := by rfl) (hs : starEach [e] X.env = [(false, eval e X.env)] := by rfl) (hbase : attributeBase o "join" X.env (eval o X.env) = eval o X.env := by rfl) (hline : (apos.endLine == pos.line) = true := by rfl) :
    PE X (.Call (.Attribute o "join" apos) [e] [] pos) (tM1 (rJoin K) to te) := by
  subst h
  exact pe_join ho he hs hbase hline
theorem tl_flat : ∀ ps : List (List Nat), TL.joinL [] ps = ps.flatten
  | [] => rfl
  | [p] => by simp [TL.joinL]
  | p :: q :: r => by
    show p ++ ([] ++ TL.joinL [] (q :: r)) = _
    rw [tl_flat (q :: r), List.nil_append]
    rfl
theorem join_nil (ys : List Str) : (Txt.join "" ys).cps.toList = (ys.map fun y => y.cps.toList).flatten := by
  have e : Txt.join "" ys = Str.join "" ys := StrLaws.glued_eq_join "" ys
  rw [e]
  have h := TL.tl_join "" ys
  have z : TL.tl "" = [] := by decide +kernel
  rw [z, tl_flat] at h
  exact h
theorem y_t {k : Bool} {A B : Prop} (e : k = true) (h : A) : if k = true then A else B := by
  rw [e]
  exact iteT h
theorem y_f {k : Bool} {A B : Prop} (e : k = false) (h : B) : if k = true then A else B := by
  rw [e]
  exact iteF h
/-- a for over a range, what stands behind it told part by part -/
theorem y_forR {lo : Int} {m : Nat} {g : TG} {t : TS} {n b c : L2.St → Hp → Prop} {rt : VK} {σ : L2.St} {H : Hp} (Pv : Nat → L2.St → Hp → Prop) (h0 : Pv 0 σ H)
    (hs : ∀ i σ H, i < m → Pv i σ H → g (.int (lo + i)) σ H fun σ2 H2 => t ⟨Pv (i + 1), rt, n, Pv (i + 1)⟩ σ2 H2) (hd : ∀ σ H, Pv m σ H → n σ H) :
    ∃ W : Nat → Nat → L2.St → Hp → Prop, (∃ m, W 0 m σ H) ∧ ∀ i k σ H, W i k σ H →
      ((Itr lo m).stop i H ∧ n σ H) ∨ ((Itr lo m).go i H ∧ ∃ N : L2.St → Hp → Prop, (∀ σ' H', N σ' H' → ∃ m', m' < k ∧ W (i + 1) m' σ' H') ∧ ∀ x H', (Itr lo m).yld i H x H' → g x σ H' fun σ2 H2 => t ⟨N, rt, n, N⟩ σ2 H2) :=
  for_range (D := ⟨n, rt, b, c⟩) Pv h0 hs hd
theorem y_rU {g : Int → V} {i : Int} {H : Hp} {Q : VK} (h : Q (g i) H) : rU g (.int i) H Q := ⟨i, rfl, h⟩
theorem y_ixT {p : Addr} {xs : List V} {i : Int} {v : V} {H : Hp} {Q : VK} {K : PySem.W.Frag} (e : SqT K H p xs) (a : atI xs i = some v) (h : Q v H) : rIxT K (.ref p) (.int i) H Q := ⟨p, xs, i, v, rfl, rfl, e, a, h⟩
/-- x = e; rest: the rest once, for all that P says of the value -/
theorem y_seqAsg {te : TE} {i : Nat} {u : TS} {n b c : L2.St → Hp → Prop} {rt : VK} {σ : L2.St} {H : Hp} (P : V → Hp → Prop) (rest : ∀ v H1, P v H1 → u ⟨n, rt, b, c⟩ (σ.set i (some v)) H1)
    (h : (∀ v H1, P v H1 → u ⟨n, rt, b, c⟩ (σ.set i (some v)) H1) → te σ H (fun v H1 => u ⟨n, rt, b, c⟩ (σ.set i (some v)) H1)) : tSeq (tAsg te (gName i)) u ⟨n, rt, b, c⟩ σ H := h rest
end Ow
/-! Operators upon instances of the text's own classes: the special method's promise. -/
namespace Ow
open PySem PySem.Spec PyProof.Rows L2
section
variable {X : Cx} {CX : CXT} {k : Nat} {C f : Addr} {fd : FuncData} {ps : List Str} {sp : Sp} {E : XK}
/-- a def called from within a built-in, with room -/
theorem run_sub {A : Around} {pins : List (Addr × Obj)} {s : Shared} {σ : L2.St} {H : Hp} {Q : VK} {us : List Value} {vs : List V} (F : FnOk X.prog X.w X.K X.mg X.base CX k f fd ps sp) (sb : Sub X k A) (hb : Binds X.K fd ps []) (hx : Passes CX X E)
    (I : Inv X pins σ H s) (r : Vals vs us) (h : sp vs H Q E) : wpAny (model X.prog X.w) A (call (.ref f) us) (EP X pins σ Q) X.xe s := by
  have e0 : Env0 X.prog X.w X.K X.mg X.base A X.stack s H := by
    have e := I.env0
    exact ⟨by rw [sb.fr]; exact e.frames, e.mod, e.bs, e.bsz, e.funs, e.frf, e.hok, e.bare⟩
  have hl := F.len _ _ _ _ h
  have hl2 : us.length = ps.length := by rw [← r.length]; exact hl
  refine wpAny_call (codeAny_mono (F.run A X.stack s H ⟨us, []⟩ us vs Q E sb.room e0 (by
    have := hb s us I.kIn (by simpa using hl2)
    simpa using this) r h) fun r s' hq => ?_)
  cases r with
  | error e => exact hx pins σ H s e s' I hq
  | ok fl =>
    cases fl with
    | ret w =>
      obtain ⟨z, H', I', rz, q⟩ := I.after hq
      exact ⟨z, H', I', rz, q⟩
    | next => exact False.elim hq
    | brk => exact False.elim hq
    | cont => exact False.elim hq
theorem sub_here (hr : Room k X.A) : Sub X k X.A := ⟨hr, rfl⟩
theorem back_of {Q : Value → Shared → Prop} {z : V} {v : Value} {s' : Shared} (r : RelV z v) (h : Q v s') : PySem.W.CmpBack Q v s' := by
  cases v with
  | notImplemented =>
    exfalso
    cases z <;> first
      | (cases (show Value.notImplemented = _ from r); done)
      | (obtain ⟨t, e⟩ := (show ∃ t, Value.notImplemented = _ from r); cases e)
  | _ => exact h
/-- the class (or one above it) has the name as the def at f -/
structure Spc (K : PySem.W.Frag) (C : Addr) (m : Str) (f : Addr) : Prop where
  at_ : PySem.W.findIn K (.ref C) m = some (some (.ref f))
  fn : PySem.W.isFn K (.ref f) = true
/-- both operands instances of the class -/
def rOwn2 (C : Addr) (sp : Sp) : R2 := fun x y H Q => ∃ a b dx dy fs gs, x = .ref a ∧ y = .ref b ∧ H a = some (.ins C dx fs) ∧ H b = some (.ins C dy gs) ∧ sp [.ref a, .ref b] H Q E0
/-- the right operand an int -/
def rOwnI (C : Addr) (sp : Sp) : R2 := fun x y H Q => ∃ a dx fs i, x = .ref a ∧ y = .int i ∧ H a = some (.ins C dx fs) ∧ sp [.ref a, .int i] H Q E0
def rOwn1 (C : Addr) (sp : Sp) : V → Hp → VK → Prop := fun x H Q => ∃ a dx fs, x = .ref a ∧ H a = some (.ins C dx fs) ∧ sp [.ref a] H Q E0
theorem inst_at {pins : List (Addr × Obj)} {s : Shared} {σ : L2.St} {H : Hp} {a dx : Addr} {fs : List (Str × V)} (I : Inv X pins σ H s) (ha : H a = some (.ins C dx fs)) : ∃ ox od, PySem.W.InstAt s.heap a ox C (some od) := by
  obtain ⟨mA, J, _⟩ := ins_get I.hok ha
  obtain ⟨od, J, _⟩ := J.look
  exact ⟨_, _, J⟩
theorem o_own2 {op : Operator} (F : FnOk X.prog X.w X.K X.mg X.base CX0 k f fd ps sp) (hr : Room k X.A) (hb : Binds X.K fd ps []) (hc : PySem.W.selfFirst X.K C = true) (M : Spc X.K C (PySem.dunder op.info.2) f) : OpR X (binaryOp op) (rOwn2 C sp) := by
  intro pins s σ H x y v u Q I rx ry h
  obtain ⟨a, b, dx, dy, fs, gs, rfl, rfl, ha, hb', hs⟩ := h
  cases rx
  cases ry
  obtain ⟨ox, od, J⟩ := inst_at I ha
  obtain ⟨oy, oe, J'⟩ := inst_at I hb'
  obtain ⟨m, hF⟩ := I.fr
  refine PySem.W.binop_K hF I.ok.mod.kin J J'.type hc M.at_ M.fn ?_
  refine wpAny_mono (run_sub (vs := [.ref a, .ref b]) F (sub_here hr) hb pass0 I (.cons rfl (.cons rfl .nil)) hs) (fun v s' hv => ?_) fun _ _ e => e
  obtain ⟨z, H', I', rz, q⟩ := hv
  exact back_of rz ⟨z, H', I', rz, q⟩
/-- what is asked of int and the class, for an operator -/
structure IntSide (K : PySem.W.Frag) (C : Addr) (nm : String) : Prop where
  hr : PySem.W.findIn K (.ref C) (dunderR nm) = some none
  h1 : ∃ fo, PySem.W.findIn K (.type "int") (PySem.dunder nm) = some fo
  h2 : ∃ ro, PySem.W.findIn K (.type "int") (dunderR nm) = some ro
  sub : PySem.W.subIn K (.type "int") (.ref C) = some false
theorem o_ownI {op : Operator} (F : FnOk X.prog X.w X.K X.mg X.base CX0 k f fd ps sp) (hr : Room k X.A) (hb : Binds X.K fd ps []) (hc : PySem.W.selfFirst X.K C = true) (M : Spc X.K C (PySem.dunder op.info.2) f) (S : IntSide X.K C op.info.2) : OpR X (binaryOp op) (rOwnI C sp) := by
  intro pins s σ H x y v u Q I rx ry h
  obtain ⟨a, dx, fs, i, rfl, rfl, ha, hs⟩ := h
  cases rx
  obtain ⟨t, rfl⟩ := (show ∃ t, u = Value.int i t from ry)
  obtain ⟨ox, od, J⟩ := inst_at I ha
  obtain ⟨m, hF⟩ := I.fr
  obtain ⟨fo, h1⟩ := S.h1
  obtain ⟨ro, h2⟩ := S.h2
  refine PySem.W.ksp_binT (T := "int") hF I.ok.mod.kin J rfl hc M.at_ M.fn S.hr (.inl rfl) h1 h2 S.sub ?_
  refine wpAny_mono (run_sub (vs := [.ref a, .int i]) F (sub_here hr) hb pass0 I (.cons rfl (.cons ⟨t, rfl⟩ .nil)) hs) (fun v s' hv => ?_) fun _ _ e => e
  obtain ⟨z, H', I', rz, q⟩ := hv
  exact back_of rz ⟨z, H', I', rz, q⟩
theorem o_ownNeg (F : FnOk X.prog X.w X.K X.mg X.base CX0 k f fd ps sp) (hr : Room k X.A) (hb : Binds X.K fd ps []) (M : Spc X.K C "__neg__" f) : UnR X (unaryOp .USub) (rOwn1 C sp) := by
  intro pins s σ H x v Q I rx h
  obtain ⟨a, dx, fs, rfl, ha, hs⟩ := h
  cases rx
  obtain ⟨ox, od, J⟩ := inst_at I ha
  obtain ⟨m, hF⟩ := I.fr
  exact PySem.W.ksp_neg hF I.ok.mod.kin J M.at_ M.fn (run_sub (vs := [.ref a]) F (sub_here hr) hb pass0 I (.cons rfl .nil) hs)
/-- a == b, a an instance, b any value whose type is told and is first in nothing -/
def rOwnEq (C : Addr) (sp : Sp) : R2 := fun x y H Q => ∃ a b dx dy fs gs, x = .ref a ∧ y = .ref b ∧ H a = some (.ins C dx fs) ∧ H b = some (.ins C dy gs) ∧ sp [.ref a, .ref b] H Q E0
theorem o_ownEq (F : FnOk X.prog X.w X.K X.mg X.base CX0 k f fd ps sp) (hr : Room k X.A) (hb : Binds X.K fd ps []) (M : Spc X.K C "__eq__" f) : OpR X (compareOp .Eq) (rOwn2 C sp) := by
  intro pins s σ H x y v u Q I rx ry h
  obtain ⟨a, b, dx, dy, fs, gs, rfl, rfl, ha, hb', hs⟩ := h
  cases rx
  cases ry
  obtain ⟨ox, od, J⟩ := inst_at I ha
  obtain ⟨oy, oe, J'⟩ := inst_at I hb'
  obtain ⟨m, hF⟩ := I.fr
  show wpAny _ _ (richCompare .Eq (.ref a) (.ref b)) _ _ _
  refine PySem.W.cmp_K (op := .Eq) (tb := .ref C) hr.units0 hF I.ok.mod.kin J J'.type (by simp [PySem.W.notFirst]) M.at_ M.fn ?_
  refine wpAny_mono (run_sub (vs := [.ref a, .ref b]) F (sub_here hr) hb pass0 I (.cons rfl (.cons rfl .nil)) hs) (fun v s' hv => ?_) fun _ _ e => e
  obtain ⟨z, H', I', rz, q⟩ := hv
  exact back_of rz ⟨z, H', I', rz, q⟩
/-- a special method that is a built-in -/
theorem ifBound_B {M : Model} {A : Around} {E : Value → Shared → Prop} {s : Shared} {K : PySem.W.Frag} {x C : Addr} {ox : Obj} {od : Option Obj} {name : Str} {id : String} {args : List Value} {Q : Option Value → Shared → Prop} (Y : K.In s.heap) (I : PySem.W.InstAt s.heap x ox C od) (hs : PySem.W.findIn K (.ref C) name = some (some (.builtin id)))
    (hb : ∀ self, bindSpecial (.builtin id) self = pure (.builtin id, [self])) (h : wpAny M A (call (.builtin id) (.ref x :: args)) (fun v => Q (some v)) E s) : wpAny M A (callSpecialIfBound? (.ref x) name args) Q E s := by
  simp only [callSpecialIfBound?, bindSpecialIfBound?]
  refine wpAny_holding (wpAny_bind (wpAny_bind (wpAny_bind (I.type.here ((PySem.W.looks_findIn Y hs).here ?_)))))
  refine wpAny_bind (wpAny_askSetting (wpAny_ite ?_))
  have fin : wpAny M A (call (.builtin id) ([.ref x] ++ args) >>= fun v => pure (some v)) Q E s := wpAny_bind (wpAny_mono h (fun v s' h' => wpAny_pure h') fun _ _ h' => h')
  split
  · exact wpAny_bind ((PySem.W.Looks.of_pure (hb _)).here (wpAny_pure (by exact fin)))
  · exact wpAny_tryCatch (wpAny_bind ((PySem.W.Looks.of_pure (hb _)).here (wpAny_pure (by exact fin))))
/-- != by object's own: the own == turned; what the promise gives is a truth value -/
def rOwnNe (C : Addr) (sp : Sp) : R2 := fun x y H Q => ∃ a b dx dy fs gs, x = .ref a ∧ y = .ref b ∧ H a = some (.ins C dx fs) ∧ H b = some (.ins C dy gs) ∧ sp [.ref a, .ref b] H (fun v H' => ∃ t, v = .bl t ∧ Q (.bl (!t)) H') E0
theorem o_ownNe (F : FnOk X.prog X.w X.K X.mg X.base CX0 k f fd ps sp) (hr : Room (k + 1) X.A) (hb : Binds X.K fd ps []) (M : Spc X.K C "__eq__" f) (hn : PySem.W.findIn X.K (.ref C) "__ne__" = some (some (.builtin "object.__ne__"))) (hm : PySem.W.mroIn X.K C (.type "object") = some true) :
    OpR X (compareOp .NotEq) (rOwnNe C sp) := by
  intro pins s σ H x y v u Q I rx ry h
  obtain ⟨a, b, dx, dy, fs, gs, rfl, rfl, ha, hb', hs⟩ := h
  cases rx
  cases ry
  obtain ⟨ox, od, J⟩ := inst_at I ha
  obtain ⟨oy, oe, J'⟩ := inst_at I hb'
  show wpAny _ _ (richCompare .NotEq (.ref a) (.ref b)) _ _ _
  have hu : X.A.units < cLine := hr.units0
  have hu1 : X.A.in1.units < cLine := hr.in1.units0
  have one : wpAny (model X.prog X.w) X.A (tryCompare (.ref a) "__ne__" (.ref b)) (fun r s' => ∃ v, r = some v ∧ EP X pins σ Q v s') X.xe s := by
    unfold tryCompare
    refine wpAny_bind (ifBound_B I.kIn J hn PySem.F.slot_object_ne.bind ?_)
    refine wpAny_call (codeAny_call_builtin PySem.F.slot_object_ne.plain PySem.F.cmpEntry_ne (PySem.W.check_slot (i := "object.__ne__") (owner := "object") (n := "__ne__") PySem.F.cmpKind_ne PySem.F.cmpSplit_ne (J.type.andThen (PySem.W.looks_mroIn I.kIn hm)) (PySem.F.cmpArgs_ne _ _) ?_))
    unfold Builtin.«object.__ne__»
    refine wpAny_bind (m := slotArgs "__ne__" 1 _) (wpAny_pure ?_)
    refine wpAny_bind (m := cRoomFor _ _) (wpAny_cRoomFor hu1 ?_)
    refine wpAny_bind (m := callSpecialIfBound? (.ref a) (Str.ofString "__eq__") _) (PySem.W.ifBound_K I.kIn J M.at_ M.fn (wpAny_mono (run_sub (vs := [.ref a, .ref b]) F (sub_here hr).in1 hb pass0 I (.cons rfl (.cons rfl .nil)) hs) (fun v s' hv => ?_) fun _ _ e => e))
    obtain ⟨z, H', I', rz, t, rfl, q⟩ := hv
    cases (show v = Value.bool t from rz)
    refine wpAny_bind (wpAny_truthy_bool ?_)
    first
      | exact wpAny_pure (wpAny_pure ⟨_, rfl, .bl (!t), H', I', rfl, q⟩)
      | (show wpAny _ _ (ret (Value.bool !t)) _ _ _; exact wpAny_pure (wpAny_pure ⟨_, rfl, .bl (!t), H', I', rfl, q⟩))
      | (refine wpAny_bind (wpAny_pure ?_); exact wpAny_pure (wpAny_pure ⟨_, rfl, .bl (!t), H', I', rfl, q⟩))
  unfold richCompare
  simp only [oneThing_ref]
  refine wpAny_holding (wpAny_bind (wpAny_cRoomFor hu ?_))
  refine wpAny_bind (J.type.here (wpAny_bind (J'.type.here ?_)))
  rw [show (Value.ref C != Value.ref C) = false from by simp]
  simp only [Bool.false_eq_true, if_false]
  refine wpAny_bind (wpAny_pure ?_)
  simp only [Bool.false_eq_true, if_false]
  refine wpAny_bind (wpAny_mono one (fun r s' z => ?_) fun _ _ e => e)
  obtain ⟨v, rfl, hq⟩ := z
  exact wpAny_pure hq
end
section
variable {X : Cx} {C : Addr} {K : PySem.W.Frag}
/-- o.f as a target among others -/
def gFld (K : PySem.W.Frag) (to : TE) (f : Str) : TG := fun v σ H Q => to σ H fun x H1 => ∃ a C dx fs, x = .ref a ∧ H1 a = some (.ins C dx fs) ∧ Cls K C ∧ NoAttr K C f ∧ fs.length < 1000 ∧ Q σ (upd H1 a (.ins C dx (putF f v fs)))
theorem pg_fld {o : Expr} {to : TE} {f : Str} {pos : Pos} (ho : PE X o to) (hk : X.K = K := by rfl) : PG X (.Attribute o f pos) (gFld K to f) := by
  subst hk
  refine ⟨fun pins s σ H v u Q I r h => ?_⟩
  rw [assign_Attribute]
  refine wpAny_bind (wpAny_holding (thn (ho.run pins s σ H _ I h) fun ov s1 ⟨x, H1, I1, r1, a, C, dx, fs, ex, ea, c, n, l, q⟩ => ?_))
  subst ex
  obtain rfl : ov = Value.ref a := r1
  refine wpAny_bind (wpAny_standAt (wpAny_bind (wpAny_holding (setattr_ok I1 ea c n l r fun s2 I2 => ?_))))
  exact wpAny_release ⟨σ, _, I2, q⟩
/-- an instance of the class that a local name holds: cls(..) within a classmethod -/
def tMakeL (i : Nat) (C : Addr) (sp : Sp) (t : TA) : TE := fun σ H Q => σ[i]? = some (some (.ref C)) ∧ t σ H fun vs H1 => ∀ x dx, H1 x = none → H1 dx = none → dx ≠ x →
  sp (.ref x :: vs) (upd (upd H1 dx (.own x)) x (.ins C dx [])) (fun v H2 => v = .non ∧ Q (.ref x) H2) E0
theorem pe_makeL {k i : Nat} {f : Addr} {fd : FuncData} {ps : List Str} {sp : Sp} {x : Str} {p pos : Pos} {e : Expr} {es : List Expr} {t : TA} (M : Mk X.K C f) (F : FnOk X.prog X.w X.K X.mg X.base CX0 k f fd ps sp) (hr : Room (k + 1) X.A) (hN : X.N[i]? = some x) (hv : Vis X.env.scope x) (hb : Binds X.K fd ps [])
    (ha : PA X (e :: es) t) (hdb : (x == ("__debug__" : Str)) = false := by decide) (hcd : (x == ("__classdict__" : Str)) = false := by decide)
    (he : starEach (e :: es) X.env = (false, eval e X.env) :: starEach es X.env := by rfl) (hpl : (backTo pos (starEach es X.env)).any (·.1) = false := by rfl) :
    PE X (.Call (.Name x p) (e :: es) [] pos) (tMakeL i C sp t) := by
  refine ⟨fun pins s σ H Q I h => ?_⟩
  obtain ⟨hs, ht⟩ := h
  refine wpAny_Call_Name_kw (thn ((pe_var (pos := p) hN hv hdb hcd).run pins s σ H (fun v H1 => v = .ref C ∧ H1 = H) I ⟨.ref C, hs, rfl, rfl⟩) fun u s1 ⟨v, H1, I1, r1, q1⟩ => ?_)
  obtain ⟨rfl, rfl⟩ := q1
  cases r1
  refine PySem.W.callWith_K (h₀ := X.base) I.ok.mod.kin M.kp (thn (ha.run pos pins s1 σ _ _ I1 ht) fun us s2 ⟨vs, H2, I2, r, q⟩ => ⟨I2.kIn, ?_⟩) he hpl
  exact run_make M F hr hb .nil pass0 I2 r (by
    intro x dx h1 h2 h3
    have := q x dx h1 h2 h3
    rw [List.append_nil]
    exact this)
end
end Ow
/-! Facts of the text's own classes, told by the head as one Bool. -/
namespace Ow
open PySem PySem.Spec PyProof.Rows L2
/-- o.m(e, ..): the method's promise -/
structure Mth (P : Program) (w : World) (K : PySem.W.Frag) (mg : Str → Option Value) (base : Heap) (k : Nat) (C : Addr) (m : Str) (ps : List Str) (sp : Sp) : Prop where
  ex : ∃ (f : Addr) (fd : FuncData), FnOk P w K mg base CX0 k f fd ps sp ∧ Meth K C m f ∧ Binds K fd ps []
/-- e.m, a property: the getter's promise -/
structure Prp (P : Program) (w : World) (K : PySem.W.Frag) (mg : Str → Option Value) (base : Heap) (k : Nat) (C : Addr) (m : Str) (sp : Sp) : Prop where
  ex : ∃ (p g : Addr) (fd : FuncData), FnOk P w K mg base CX0 k g fd ["self"] sp ∧ PropOf K C m p g ∧ Binds K fd ["self"] []
/-- C.m(e, ..), a classmethod -/
structure Cmt (P : Program) (w : World) (K : PySem.W.Frag) (mg : Str → Option Value) (base : Heap) (k : Nat) (C : Addr) (m : Str) (sp : Sp) : Prop where
  ex : ∃ (p g : Addr), ClX.CMet K C (.type "type") m p g ∧ ClX.CRead K C (.type "type") ∧ FnR P w K mg base CX0 k g sp
/-- C(e, ..): __init__'s promise; n: how many arguments are given, dv: those that fill up -/
structure Mkr (P : Program) (w : World) (K : PySem.W.Frag) (mg : Str → Option Value) (base : Heap) (k : Nat) (x : Str) (C : Addr) (sp : Sp) (dvs : List V) : Prop where
  ex : ∃ (f : Addr) (fd : FuncData) (ps : List Str) (ds : List Value), FnOk P w K mg base CX0 k f fd ps sp ∧ Mk K C f ∧ mg x = some (.ref C) ∧ Binds K fd ps ds ∧ Vals dvs ds
section
variable {X : Cx} {C : Addr} {k : Nat} {m x : Str} {ps : List Str} {sp : Sp} {dvs : List V} {o e : Expr} {es : List Expr} {to ta : TE} {t : TA} {pos apos p : Pos}
def tMth (C : Addr) (m : Str) (sp : Sp) (to : TE) (t : TA) : TE := fun σ H Q => to σ H fun x H1 => ∃ a dx fs, x = .ref a ∧ H1 a = some (.ins C dx fs) ∧ fs.lookup m = none ∧ t σ H1 fun vs H2 => sp (x :: vs) H2 Q E0
theorem e_mth {pl : Sem Bool} (c : Mth X.prog X.w X.K X.mg X.base k C m ps sp) (T : Cls X.K C) (hr : Room k X.A) (ho : PE X o to) (ha : PA X (e :: es) t)
    (hst : starEach (e :: es) X.env = (false, eval e X.env) :: starEach es X.env := by rfl) (hpl : (backTo pos (starEach es X.env)).any (·.1) = false := by rfl)
    (ht : eval (.Call (.Attribute o m apos) (e :: es) [] pos) X.env = (do
      let ov ← eval o X.env
      standAt apos.atName; let (f, first) ← holding [ov] (getMethod ov m pl); callWith pos f first (backTo pos (starEach (e :: es) X.env)) (backToKw pos (keywordEach [] X.env))) := by rfl) :
    PE X (.Call (.Attribute o m apos) (e :: es) [] pos) (tMth C m sp to t) := by
  obtain ⟨f, fd, F, hm, hb⟩ := c.ex
  have h := pe_meth (apos := apos) (pos := pos) (pl := pl) ho T hm F hr hb .nil pass0 ha hst hpl ht
  have e1 : tMeth C m sp [] E0 to t = tMth C m sp to t := by
    funext σ H Q
    show to σ H (fun x H1 => ∃ a dx fs, x = .ref a ∧ H1 a = some (.ins C dx fs) ∧ fs.lookup m = none ∧ t σ H1 fun vs H2 => sp (x :: (vs ++ [])) H2 Q E0) = to σ H (fun x H1 => ∃ a dx fs, x = .ref a ∧ H1 a = some (.ins C dx fs) ∧ fs.lookup m = none ∧ t σ H1 fun vs H2 => sp (x :: vs) H2 Q E0)
    simp only [List.append_nil]
  rw [← e1]
  exact h
def tPrp (C : Addr) (sp : Sp) (ta : TE) : TE := fun σ H Q => ta σ H fun x H1 => ∃ a dx fs, x = .ref a ∧ H1 a = some (.ins C dx fs) ∧ sp [.ref a] H1 Q E0
theorem e_prp (c : Prp X.prog X.w X.K X.mg X.base k C m sp) (T : Cls X.K C) (hr : Room (k + 1) X.A) (he : PE X e ta) (hab : attributeBase e m X.env (eval e X.env) = eval e X.env := by rfl) : PE X (.Attribute e m pos) (tPrp C sp ta) := by
  obtain ⟨p, g, fd, F, hp, hb⟩ := c.ex
  exact pe_prop he T hp F hr hb .nil pass0 hab
def tCmt (C : Addr) (sp : Sp) (ta : TE) (t : TA) : TE := fun σ H Q => ta σ H fun x H1 => x = .ref C ∧ t σ H1 fun vs H2 => sp (.ref C :: vs) H2 Q E0
theorem e_cmt {pl : Sem Bool} (c : Cmt X.prog X.w X.K X.mg X.base k C m sp) (hr : Room k X.A) (ho : PE X o ta) (ha : PA X (e :: es) t)
    (hst : starEach (e :: es) X.env = (false, eval e X.env) :: starEach es X.env := by rfl) (hpl : (backTo pos (starEach es X.env)).any (·.1) = false := by rfl)
    (ht : eval (.Call (.Attribute o m apos) (e :: es) [] pos) X.env = (do
      let ov ← eval o X.env
      standAt apos.atName; let (f, first) ← holding [ov] (getMethod ov m pl); callWith pos f first (backTo pos (starEach (e :: es) X.env)) (backToKw pos (keywordEach [] X.env))) := by rfl) :
    PE X (.Call (.Attribute o m apos) (e :: es) [] pos) (tCmt C sp ta t) := by
  obtain ⟨p, g, hc, hrd, F⟩ := c.ex
  exact ClX.pe_cmeth (pl := pl) ho hrd hc F hr pass0 ha hst hpl ht
def tMkr (C : Addr) (sp : Sp) (dvs : List V) (t : TA) : TE := fun σ H Q => t σ H fun vs H1 => ∀ x dx, H1 x = none → H1 dx = none → dx ≠ x → sp (.ref x :: (vs ++ dvs)) (upd (upd H1 dx (.own x)) x (.ins C dx [])) (fun v H2 => v = .non ∧ Q (.ref x) H2) E0
theorem e_mkr (c : Mkr X.prog X.w X.K X.mg X.base k x C sp dvs) (hr : Room (k + 1) X.A) (hg : Gl X x) (ha : PA X (e :: es) t)
    (hdb : (x == ("__debug__" : Str)) = false := by decide) (he : starEach (e :: es) X.env = (false, eval e X.env) :: starEach es X.env := by rfl) (hpl : (backTo pos (starEach es X.env)).any (·.1) = false := by rfl) :
    PE X (.Call (.Name x p) (e :: es) [] pos) (tMkr C sp dvs t) := by
  obtain ⟨f, fd, ps, ds, F, M, hm, hb, hd⟩ := c.ex
  exact pe_make M F hr hg hm hb hd pass0 ha hdb he hpl
end
section
variable {X : Cx} {K : PySem.W.Frag} {C : Addr} {k : Nat} {nm x : Str} {ps : List Str} {sp : Sp} {e o : Expr} {es : List Expr} {ta : TE} {t : TA} {pos apos p : Pos}
theorem e_fld {f : Str} (he : PE X e ta) (h : X.K = K := by rfl) (hab : attributeBase e f X.env (eval e X.env) = eval e X.env := by rfl) : PE X (.Attribute e f pos) (tFld K ta f) := by
  subst h
  exact pe_fld he hab
theorem g_tup {es : List Expr} {n : Nat} {t : TGs} {j : Nat} (hc : X.calm = true) (h : PGs X es t) (hk : X.K = K := by rfl)
    (hn : (assignEach es X.env).length = n := by rfl) (hst : (assignEach es X.env).findIdx? (·.1) = none := by rfl) : PG X (.Tuple es j pos) (gTup K n t) := by
  subst hk
  exact pg_tup hc h hn hst
/-- cls(e, ..) -/
theorem e_mkl {i : Nat} {y : Str} (c : Mkr X.prog X.w X.K X.mg X.base k x C sp []) (hr : Room (k + 1) X.A) (hN : X.N[i]? = some y) (hv : Vis X.env.scope y) (ha : PA X (e :: es) t)
    (hdb : (y == ("__debug__" : Str)) = false := by decide) (hcd : (y == ("__classdict__" : Str)) = false := by decide)
    (he : starEach (e :: es) X.env = (false, eval e X.env) :: starEach es X.env := by rfl) (hpl : (backTo pos (starEach es X.env)).any (·.1) = false := by rfl) :
    PE X (.Call (.Name y p) (e :: es) [] pos) (tMakeL i C sp t) := by
  obtain ⟨f, fd, ps, ds, F, M, hm, hb, hd⟩ := c.ex
  cases hd
  exact pe_makeL M F hr hN hv hb ha hdb hcd he hpl
theorem q_op2 {op : Operator} (c : Mth X.prog X.w X.K X.mg X.base k C nm ps sp) (hc : PySem.W.selfFirst X.K C = true) (hr : Room k X.A) (hn : PySem.dunder op.info.2 = nm := by decide +kernel) : OpR X (binaryOp op) (rOwn2 C sp) := by
  obtain ⟨f, fd, F, hm, hb⟩ := c.ex
  subst hn
  exact o_own2 F hr hb hc ⟨hm.at_, hm.fn⟩
theorem q_opI {op : Operator} (c : Mth X.prog X.w X.K X.mg X.base k C nm ps sp) (hc : PySem.W.selfFirst X.K C = true) (S : IntSide X.K C op.info.2) (hr : Room k X.A) (hn : PySem.dunder op.info.2 = nm := by decide +kernel) : OpR X (binaryOp op) (rOwnI C sp) := by
  obtain ⟨f, fd, F, hm, hb⟩ := c.ex
  subst hn
  exact o_ownI F hr hb hc ⟨hm.at_, hm.fn⟩ S
theorem q_neg (c : Mth X.prog X.w X.K X.mg X.base k C "__neg__" ps sp) (hr : Room k X.A) : UnR X (unaryOp .USub) (rOwn1 C sp) := by
  obtain ⟨f, fd, F, hm, hb⟩ := c.ex
  exact o_ownNeg F hr hb ⟨hm.at_, hm.fn⟩
theorem q_eq (c : Mth X.prog X.w X.K X.mg X.base k C "__eq__" ps sp) (hr : Room k X.A) : OpR X (compareOp .Eq) (rOwn2 C sp) := by
  obtain ⟨f, fd, F, hm, hb⟩ := c.ex
  exact o_ownEq F hr hb ⟨hm.at_, hm.fn⟩
theorem q_ne (c : Mth X.prog X.w X.K X.mg X.base k C "__eq__" ps sp) (hr : Room (k + 1) X.A) (hn : PySem.W.findIn X.K (.ref C) "__ne__" = some (some (.builtin "object.__ne__"))) (hm : PySem.W.mroIn X.K C (.type "object") = some true) : OpR X (compareOp .NotEq) (rOwnNe C sp) := by
  obtain ⟨f, fd, F, hm2, hb⟩ := c.ex
  exact o_ownNe F hr hb ⟨hm2.at_, hm2.fn⟩ hn hm
theorem cmt_of {P : Program} {w : World} {mg : Str → Option Value} {base : Heap} {g pp : Addr} {fd : FuncData} (F : FnOk P w K mg base CX0 k g fd ps sp) (hb : Binds K fd ps []) (hc : ClX.CMet K C (.type "type") nm pp g) (hr : ClX.CRead K C (.type "type")) : Cmt P w K mg base k C nm sp :=
  ⟨pp, g, hc, hr, (F.raw hb .nil).imp fun vs H Q E h => by rw [List.append_nil]; exact h⟩
/-- // by a great divisor of any sign -/
def CDivWN (_ j : Int) : Prop := j ≠ 0 ∧ j.natAbs.log2 < 9000
theorem op_fdivWN : OpR X (binaryOp .FloorDiv) (rI CDivWN fun i j => .int (i.fdiv j)) := opI fun i j _ _ _ _ _ hc q => floordiv_int hc.1 q (.inl (PyProof.noPylong_of_log2 hc.2))
end
section
variable {σ : L2.St} {H : Hp} {Q : VK} {K : PySem.W.Frag} {C : Addr} {sp : Sp} {ta to : TE} {t : TA} {n b c : L2.St → Hp → Prop} {rt : VK}
theorem y_fld {f : Str} (h : ta σ H fun x H1 => ∃ a C dx fs v, x = .ref a ∧ H1 a = some (.ins C dx fs) ∧ Cls K C ∧ NoAttr K C f ∧ fs.lookup f = some v ∧ Q v H1) : tFld K ta f σ H Q := h
theorem y_prp (h : ta σ H fun x H1 => ∃ a dx fs, x = .ref a ∧ H1 a = some (.ins C dx fs) ∧ sp [.ref a] H1 Q E0) : tPrp C sp ta σ H Q := h
theorem y_mth {m : Str} (h : to σ H fun x H1 => ∃ a dx fs, x = .ref a ∧ H1 a = some (.ins C dx fs) ∧ fs.lookup m = none ∧ t σ H1 fun vs H2 => sp (x :: vs) H2 Q E0) : tMth C m sp to t σ H Q := h
theorem y_cmt (h : ta σ H fun x H1 => x = .ref C ∧ t σ H1 fun vs H2 => sp (.ref C :: vs) H2 Q E0) : tCmt C sp ta t σ H Q := h
theorem y_mkr {dvs : List V} (h : t σ H fun vs H1 => ∀ x dx, H1 x = none → H1 dx = none → dx ≠ x → sp (.ref x :: (vs ++ dvs)) (upd (upd H1 dx (.own x)) x (.ins C dx [])) (fun v H2 => v = .non ∧ Q (.ref x) H2) E0) : tMkr C sp dvs t σ H Q := h
theorem y_mkl {i : Nat} (e : σ[i]? = some (some (.ref C))) (h : t σ H fun vs H1 => ∀ x dx, H1 x = none → H1 dx = none → dx ≠ x → sp (.ref x :: vs) (upd (upd H1 dx (.own x)) x (.ins C dx [])) (fun v H2 => v = .non ∧ Q (.ref x) H2) E0) : tMakeL i C sp t σ H Q := ⟨e, h⟩
theorem y_par {i j : Nat} (h : t σ H fun vs H1 => ∃ v w, vs = [v, w] ∧ n ((σ.set i (some v)).set j (some w)) H1) : tPar i j t ⟨n, rt, b, c⟩ σ H := h
theorem y_par2 {i j : Nat} {v w : V} {R : L2.St → Hp → Prop} (h : R ((σ.set i (some v)).set j (some w)) H) : ∃ v' w', [v, w] = [v', w'] ∧ R ((σ.set i (some v')).set j (some w')) H := ⟨v, w, rfl, h⟩
theorem y_gtup {m : Nat} {g : TGs} {v : V} {R : L2.St → Hp → Prop} {a : Addr} {xs : List V} (e : v = .ref a) (s : SqT K H a xs) (l : xs.length = m) (h : g xs σ H R) : gTup K m g v σ H R := ⟨a, xs, e, s, l, h⟩
theorem y_gcons {g : TG} {u : TGs} {v : V} {vs : List V} {R : L2.St → Hp → Prop} (h : g v σ H fun σ' H' => u vs σ' H' R) : gCons g u (v :: vs) σ H R := ⟨v, vs, rfl, h⟩
theorem y_gnil {R : L2.St → Hp → Prop} (h : R σ H) : gNil [] σ H R := ⟨rfl, h⟩
theorem y_gfld {f : Str} {v : V} {R : L2.St → Hp → Prop} (h : to σ H fun x H1 => ∃ a C dx fs, x = .ref a ∧ H1 a = some (.ins C dx fs) ∧ Cls K C ∧ NoAttr K C f ∧ fs.length < 1000 ∧ R σ (upd H1 a (.ins C dx (putF f v fs)))) : gFld K to f v σ H R := h
theorem y_negI {i : Int} (h : Q (.int (-i)) H) : (∃ j, V.int i = .int j ∧ Q (.int (-j)) H) := ⟨i, rfl, h⟩
theorem y_gcd {i j : Int} (h : Q (.int ((Nat.gcd i.natAbs j.natAbs : Nat) : Int)) H) : rGcd [.int i, .int j] H Q := ⟨i, j, rfl, h⟩
theorem y_rng2 {R : It → Hp → Prop} (h : t σ H fun vs H1 => ∃ i j : Int, vs = [.int i, .int j] ∧ (-(2 ^ 62) ≤ i ∧ i < 2 ^ 62 ∧ -(2 ^ 62) ≤ j ∧ j < 2 ^ 62) ∧ R (Itr i (j - i).toNat) H1) : iRng2 t σ H R := h
theorem y_while {tc : TT} {tb : TS} (h : ∃ W : Nat → L2.St → Hp → Prop, (∃ m, W m σ H) ∧ ∀ m σ H, W m σ H →
  tc σ H fun k H1 => if k = true then ∃ N : L2.St → Hp → Prop, (∀ σ' H', N σ' H' → ∃ m', m' < m ∧ W m' σ' H') ∧ tb ⟨N, rt, n, N⟩ σ H1 else n σ H1) : tWhile tc tb ⟨n, rt, b, c⟩ σ H := h
end
theorem w_rev {X : Cx} {K : PySem.W.Frag} {tg e : Expr} {ta : TA} {p pos : Pos} (hg : Gl X "reversed") (hm : X.mg "reversed" = none) (ha : PA X [e] ta) (h : X.K = K := by rfl) (hs : starEach [e] X.env = [(false, eval e X.env)] := by rfl) : PI X tg (.Call (.Name "reversed" p) [e] [] pos) (iRev K ta) := by
  subst h
  exact pi_reversed hg hm ha hs
theorem y_iRev {σ : L2.St} {H : Hp} {K : PySem.W.Frag} {ta : TA} {R : It → Hp → Prop} (h : ta σ H fun vs H1 => ∃ (a : Addr) (xs : List V), vs = [.ref a] ∧ SqL K H1 a xs ∧ R (Itv K a xs.length) H1) : iRev K ta σ H R := h
theorem e_revL {X : Cx} {K : PySem.W.Frag} {e : Expr} {te : TE} {k : Nat} {p1 p2 p3 pos : Pos} (he : PE X e te) (h : X.K = K := by rfl) : PE X (.Subscript e (.Slice none none (some (.UnaryOp .USub (.Constant (.int 1) k p1) p2)) p3) pos) (tRevL K te) := by
  subst h
  exact pe_revL he
theorem y_revL {σ : L2.St} {H : Hp} {Q : VK} {K : PySem.W.Frag} {te : TE} (h : te σ H fun x H1 => ∃ a xs, x = .ref a ∧ SqL K H1 a xs ∧ ∀ p, H1 p = none → Q (.ref p) (upd H1 p (.lst xs.reverse))) : tRevL K te σ H Q := h
theorem y_forW {J : It} {m : Nat} {G : Hp → Prop} {Y : Nat → Hp → V → Hp → Prop} (w : Walk J m G Y) {g : TG} {t : TS} {n b c : L2.St → Hp → Prop} {rt : VK} {σ : L2.St} {H : Hp} (Pv : Nat → L2.St → Hp → Prop) (h0 : Pv 0 σ H) (hG : ∀ i σ H, i ≤ m → Pv i σ H → G H)
    (hs : ∀ i x σ H H', i < m → Pv i σ H → Y i H x H' → g x σ H' fun σ2 H2 => t ⟨Pv (i + 1), rt, n, Pv (i + 1)⟩ σ2 H2) (hd : ∀ σ H, Pv m σ H → n σ H) :
    ∃ W : Nat → Nat → L2.St → Hp → Prop, (∃ m, W 0 m σ H) ∧ ∀ i k σ H, W i k σ H →
      (J.stop i H ∧ n σ H) ∨ (J.go i H ∧ ∃ N : L2.St → Hp → Prop, (∀ σ' H', N σ' H' → ∃ m', m' < k ∧ W (i + 1) m' σ' H') ∧ ∀ x H', J.yld i H x H' → g x σ H' fun σ2 H2 => t ⟨N, rt, n, N⟩ σ2 H2) :=
  for_it (D := ⟨n, rt, b, c⟩) w Pv h0 hG hs hd
end Ow
/-! Fractions: the mathematics of lowest terms, what a Ratio looks like, the promises. -/
namespace Ow
open PySem PySem.Spec PyProof.Rows L2
/-! ### lowest terms -/
def gI (t b : Int) : Int := (Nat.gcd t.natAbs b.natAbs : Nat)
def lowT (t b : Int) : Int := t.fdiv (if b < 0 then -gI t b else gI t b)
def lowB (t b : Int) : Int := b.fdiv (if b < 0 then -gI t b else gI t b)
def low (t b : Int) : Int × Int := (lowT t b, lowB t b)
theorem gI_pos {t b : Int} (h : b ≠ 0) : 0 < gI t b := by
  unfold gI
  have : 0 < Nat.gcd t.natAbs b.natAbs := Nat.gcd_pos_of_pos_right _ (by omega)
  omega
theorem gI_le {t b : Int} (h : b ≠ 0) : (gI t b).natAbs ≤ b.natAbs := by
  unfold gI
  have : Nat.gcd t.natAbs b.natAbs ≤ b.natAbs := Nat.gcd_le_right _ (by omega)
  omega
theorem gI_dvd_t {t b : Int} : gI t b ∣ t := Int.ofNat_dvd_left.mpr (Nat.gcd_dvd_left _ _)
theorem gI_dvd_b {t b : Int} : gI t b ∣ b := Int.ofNat_dvd_left.mpr (Nat.gcd_dvd_right _ _)
/-- t and b are the lowest terms times one number -/
theorem low_ex {t b : Int} (h : b ≠ 0) : ∃ c : Int, c ≠ 0 ∧ t = c * lowT t b ∧ b = c * lowB t b ∧ (0 < c ↔ 0 < b) ∧ c.natAbs = Nat.gcd t.natAbs b.natAbs := by
  have hg := gI_pos (t := t) h
  obtain ⟨u, hu⟩ := gI_dvd_t (t := t) (b := b)
  obtain ⟨v, hv⟩ := gI_dvd_b (t := t) (b := b)
  have hn : (gI t b).natAbs = Nat.gcd t.natAbs b.natAbs := by unfold gI; exact Int.natAbs_natCast _
  by_cases hb : b < 0
  · refine ⟨-gI t b, by omega, ?_, ?_, by omega, by rw [Int.natAbs_neg]; exact hn⟩
    · unfold lowT
      rw [if_pos hb]
      rw [Int.mul_fdiv_cancel' ]
      exact Int.neg_dvd.mpr gI_dvd_t
    · unfold lowB
      rw [if_pos hb]
      rw [Int.mul_fdiv_cancel' ]
      exact Int.neg_dvd.mpr gI_dvd_b
  · refine ⟨gI t b, by omega, ?_, ?_, by omega, hn⟩
    · unfold lowT
      rw [if_neg hb, Int.mul_fdiv_cancel' gI_dvd_t]
    · unfold lowB
      rw [if_neg hb, Int.mul_fdiv_cancel' gI_dvd_b]
/-- a fraction in lowest terms -/
def Low (p : Int × Int) : Prop := 0 < p.2 ∧ Nat.gcd p.1.natAbs p.2.natAbs = 1
theorem low_low {t b : Int} (h : b ≠ 0) : Low (low t b) := by
  obtain ⟨c, hc, ht, hb, hp, hn⟩ := low_ex (t := t) h
  have hB : 0 < lowB t b := by
    rcases Int.lt_trichotomy (lowB t b) 0 with q | q | q
    · exfalso
      rcases Int.lt_trichotomy c 0 with z | z | z
      · have := Int.mul_pos_of_neg_of_neg z q
        omega
      · exact hc z
      · have := Int.mul_neg_of_pos_of_neg z q
        omega
    · rw [q, Int.mul_zero] at hb
      exact absurd hb h
    · exact q
  refine ⟨hB, ?_⟩
  have e1 : t.natAbs = c.natAbs * (lowT t b).natAbs := by rw [← Int.natAbs_mul, ← ht]
  have e2 : b.natAbs = c.natAbs * (lowB t b).natAbs := by rw [← Int.natAbs_mul, ← hb]
  have hc2 : 0 < c.natAbs := by omega
  have e3 : c.natAbs * Nat.gcd (lowT t b).natAbs (lowB t b).natAbs = c.natAbs * 1 := by
    rw [← Nat.gcd_mul_left, ← e1, ← e2, hn, Nat.mul_one]
  exact Nat.eq_of_mul_eq_mul_left hc2 e3
theorem low_fix {p : Int × Int} (h : Low p) : low p.1 p.2 = p := by
  obtain ⟨h1, h2⟩ := h
  have e : gI p.1 p.2 = 1 := by unfold gI; rw [h2]; rfl
  unfold low lowT lowB
  rw [e, if_neg (by omega), Int.fdiv_one, Int.fdiv_one]
theorem low_le {t b : Int} (h : b ≠ 0) : (lowT t b).natAbs ≤ t.natAbs ∧ (lowB t b).natAbs ≤ b.natAbs := by
  obtain ⟨c, hc, ht, hb, hp, hn⟩ := low_ex (t := t) h
  have hc2 : 0 < c.natAbs := by omega
  have e1 : t.natAbs = c.natAbs * (lowT t b).natAbs := by rw [← Int.natAbs_mul, ← ht]
  have e2 : b.natAbs = c.natAbs * (lowB t b).natAbs := by rw [← Int.natAbs_mul, ← hb]
  exact ⟨by rw [e1]; exact Nat.le_mul_of_pos_left _ hc2, by rw [e2]; exact Nat.le_mul_of_pos_left _ hc2⟩
/-! ### lengths -/
def LONG : Int := 10 ^ 300
def okI (i : Int) : Bool := if decide (-(10 ^ 300) < i) = true then decide (i < 10 ^ 300) else false
theorem okI_iff {i : Int} : okI i = true ↔ i.natAbs < 10 ^ 300 := by
  unfold okI
  have e : ((10 : Int) ^ 300) = ((10 ^ 300 : Nat) : Int) := by rw [Int.natCast_pow]; rfl
  rw [e]
  constructor
  · intro h
    split at h
    · rename_i h1
      have h1 := of_decide_eq_true h1
      have h2 := of_decide_eq_true h
      omega
    · cases h
  · intro h
    have h1 : -((10 ^ 300 : Nat) : Int) < i := by omega
    have h2 : i < ((10 ^ 300 : Nat) : Int) := by omega
    rw [decide_eq_true h1, decide_eq_true h2]
    rfl
theorem okI_nat {i : Int} (h : okI i = true) : i.natAbs < 2 ^ 1000 := Nat.lt_trans (okI_iff.mp h) (by decide +kernel)
theorem okI_mono {i j : Int} (h : okI i = true) (l : j.natAbs ≤ i.natAbs) : okI j = true := okI_iff.mpr (Nat.lt_of_le_of_lt l (okI_iff.mp h))
theorem okI_small {i : Int} (h : i.natAbs ≤ 2 ^ 64) : okI i = true := okI_iff.mpr (Nat.lt_of_le_of_lt h (by decide +kernel))
theorem mulW {i j : Int} (hi : i.natAbs < 2 ^ 4000) (hj : j.natAbs < 2 ^ 4000) : CMulW i j := wide_mul hi hj (by decide) (by decide) (by decide)
theorem mul_lt {i j : Int} {a b : Nat} (hi : i.natAbs < 2 ^ a) (hj : j.natAbs < 2 ^ b) : (i * j).natAbs < 2 ^ (a + b) := wide_lt hi hj
theorem up_lt {i : Int} {a b : Nat} (h : i.natAbs < 2 ^ a) (l : a ≤ b) : i.natAbs < 2 ^ b := Nat.lt_of_lt_of_le h (Nat.pow_le_pow_right (by decide) l)
theorem add_lt {i j : Int} {a : Nat} (hi : i.natAbs < 2 ^ a) (hj : j.natAbs < 2 ^ a) : (i + j).natAbs < 2 ^ (a + 1) := by
  rw [Nat.pow_succ]
  omega
theorem sub_lt {i j : Int} {a : Nat} (hi : i.natAbs < 2 ^ a) (hj : j.natAbs < 2 ^ a) : (i - j).natAbs < 2 ^ (a + 1) := by
  rw [Nat.pow_succ]
  omega
theorem divWN {t b : Int} (h : b ≠ 0) (hb : b.natAbs < 2 ^ 4000) {i : Int} : CDivWN i (if b < 0 then -gI t b else gI t b) := by
  have hg := gI_pos (t := t) h
  have hl := gI_le (t := t) h
  refine ⟨by split <;> omega, ?_⟩
  have e : (if b < 0 then -gI t b else gI t b).natAbs = (gI t b).natAbs := by split <;> simp
  rw [e]
  exact Nat.lt_of_lt_of_le (PySem.Flt.log2_lt_of (show 0 < 4000 by decide) (Nat.lt_of_le_of_lt hl hb)) (by decide)
/-! ### what a Ratio looks like -/
def rf (p : Int × Int) : List (Str × V) := [("_top", .int p.1), ("_bottom", .int p.2)]
theorem ktb : (("_bottom" : Str) == ("_top" : Str)) = false := by decide +kernel
theorem ktt : (("_top" : Str) == ("_top" : Str)) = true := by decide +kernel
theorem kbb : (("_bottom" : Str) == ("_bottom" : Str)) = true := by decide +kernel
theorem rf_t (p : Int × Int) : (rf p).lookup ("_top" : Str) = some (V.int p.1) := by simp [rf, List.lookup, ktt]
theorem rf_b (p : Int × Int) : (rf p).lookup ("_bottom" : Str) = some (V.int p.2) := by simp [rf, List.lookup, ktb, kbb]
theorem rf_no {m : Str} (h1 : (m == ("_top" : Str)) = false) (h2 : (m == ("_bottom" : Str)) = false) (p : Int × Int) : (rf p).lookup m = none := by simp [rf, List.lookup, h1, h2]
theorem rf_put (p : Int × Int) : putF "_bottom" (.int p.2) (putF "_top" (.int p.1) []) = rf p := by
  show (if ("_top" : Str) = "_bottom" then _ else (("_top" : Str), V.int p.1) :: putF "_bottom" (V.int p.2) []) = _
  rw [if_neg (by decide +kernel)]
  rfl
def RAt (H : Hp) (C x : Addr) (p : Int × Int) : Prop := ∃ dx, H x = some (.ins C dx (rf p))
theorem RAt.same {H H' : Hp} {C x : Addr} {p : Int × Int} (s : Same H H') (h : RAt H C x p) : RAt H' C x p := let ⟨dx, h⟩ := h; ⟨dx, s _ _ h⟩
theorem RAt.fr {H H' : Hp} {C x d : Addr} {p : Int × Int} (s : Fr d H H') (n : x ≠ d) (h : RAt H C x p) : RAt H' C x p := let ⟨dx, h⟩ := h; ⟨dx, s _ _ h n⟩
/-- a fraction that a Ratio holds -/
structure Fine (p : Int × Int) : Prop where
  t : okI p.1 = true
  b : okI p.2 = true
  l : Low p
/-- an operand: a Ratio, or an int -/
def Opn (H : Hp) (C : Addr) (v : V) (q : Int × Int) : Prop := (∃ x, v = .ref x ∧ RAt H C x q) ∨ ∃ i, v = .int i ∧ q = (i, 1)
/-- what the head tells of the class -/
structure RatioC (K : PySem.W.Frag) (mg : Str → Option Value) (C : Addr) : Prop where
  cls : Cls K C
  nT : NoAttr K C "_top"
  nB : NoAttr K C "_bottom"
  g : mg "Ratio" = some (.ref C)
  first : PySem.W.selfFirst K C = true
  ne : PySem.W.findIn K (.ref C) "__ne__" = some (some (.builtin "object.__ne__"))
  obj : PySem.W.mroIn K C (.type "object") = some true
  rd : ClX.CRead K C (.type "type")
  cl : PySem.W.findIn K (.ref C) "__class__" = some (some (.builtin "object.__class__"))
  cg : PySem.W.specialIn K (.builtin "object.__class__") "__get__" = some (some (.builtin "getset_descriptor.__get__"))
  ct : PySem.W.takesIn K (.builtin "object.__class__") = some true
  ki : PySem.W.kitOne K (.type "int") (.ref C) = some false
  kt : PySem.W.kitOne K (.type "tuple") (.ref C) = some false
  gcd : mg "gcd" = some (.builtin "math.gcd")
theorem RatioC.ty {K : PySem.W.Frag} {mg : Str → Option Value} {C x : Addr} {H : Hp} {p : Int × Int} (T : RatioC K mg C) (h : RAt H C x p) : TyX K H (.ref x) (.ref C) := let ⟨_, h⟩ := h; .base (.ins h T.cls T.cl T.cg T.ct T.obj)
theorem kit_self {K : PySem.W.Frag} {v : Value} : PySem.W.kitOne K v v = some true := by
  unfold PySem.W.kitOne
  rw [if_pos (by simp)]
theorem y_isC {H : Hp} {Q : VK} {K : PySem.W.Frag} {x : V} {t : Value} {C : Addr} {k : Bool} (ty : TyX K H x t) (e : PySem.W.kitOne K t (.ref C) = some k) (h : Q (.bl k) H) : rIsi K [x, .ref C] H Q := ⟨x, .ref C, t, .ref C, k, rfl, .own C, ty, e, h⟩
theorem y_top {H : Hp} {K : PySem.W.Frag} {mg : Str → Option Value} {C x : Addr} {p : Int × Int} {Q : VK} (T : RatioC K mg C) (h : RAt H C x p) (q : Q (.int p.1) H) : ∃ a C dx fs v, V.ref x = .ref a ∧ H a = some (.ins C dx fs) ∧ Cls K C ∧ NoAttr K C "_top" ∧ fs.lookup ("_top" : Str) = some v ∧ Q v H :=
  let ⟨dx, h⟩ := h; ⟨x, C, dx, rf p, .int p.1, rfl, h, T.cls, T.nT, rf_t p, q⟩
theorem y_bot {H : Hp} {K : PySem.W.Frag} {mg : Str → Option Value} {C x : Addr} {p : Int × Int} {Q : VK} (T : RatioC K mg C) (h : RAt H C x p) (q : Q (.int p.2) H) : ∃ a C dx fs v, V.ref x = .ref a ∧ H a = some (.ins C dx fs) ∧ Cls K C ∧ NoAttr K C "_bottom" ∧ fs.lookup ("_bottom" : Str) = some v ∧ Q v H :=
  let ⟨dx, h⟩ := h; ⟨x, C, dx, rf p, .int p.2, rfl, h, T.cls, T.nB, rf_b p, q⟩
/-! ### promises -/
/-- a new tuple of two ints -/
def New2 (H : Hp) (p : Int × Int) (Q : VK) : Prop := ∀ a H', H a = none → H' a = some (.tup [.int p.1, .int p.2]) → Same H H' → Q (.ref a) H'
/-- a new Ratio -/
def NewR (H : Hp) (C : Addr) (p : Int × Int) (Q : VK) : Prop := ∀ a H', H a = none → RAt H' C a p → Same H H' → Q (.ref a) H'
def spIsInt : Sp := fun vs H Q _ => ∃ i : Int, vs = [.int i] ∧ Q (.bl (okI i)) H
def fracB (p : Int × Int) : Bool := okI p.1 && okI p.2 && decide (1 ≤ p.2) && decide (Nat.gcd p.1.natAbs p.2.natAbs = 1)
def spIsFrac (K : PySem.W.Frag) : Sp := fun vs H Q _ => ∃ (a : Addr) (p : Int × Int), vs = [.ref a] ∧ H a = some (.tup [.int p.1, .int p.2]) ∧ Q (.bl (fracB p)) H
def spLowest : Sp := fun vs H Q _ => ∃ t b : Int, vs = [.int t, .int b] ∧ b ≠ 0 ∧ t.natAbs < 2 ^ 4000 ∧ b.natAbs < 2 ^ 4000 ∧ New2 H (low t b) Q
def spShort : Sp := fun vs H Q _ => ∃ (a : Addr) (p : Int × Int), vs = [.ref a] ∧ H a = some (.tup [.int p.1, .int p.2]) ∧ okI p.1 = true ∧ okI p.2 = true ∧ Q (.ref a) H
def spInit (C : Addr) : Sp := fun vs H Q _ => ∃ (x dx : Addr) (t b : Int), vs = [.ref x, .int t, .int b] ∧ H x = some (.ins C dx []) ∧ okI t = true ∧ okI b = true ∧ b ≠ 0 ∧
  ∀ H', RAt H' C x (low t b) → (∀ c o, H c = some o → c ≠ x → H' c = some o) → Q .non H'
def spRatio (C : Addr) : Sp := fun vs H Q _ => ∃ t b : Int, vs = [.int t, .int b] ∧ b ≠ 0 ∧ t.natAbs < 2 ^ 4000 ∧ b.natAbs < 2 ^ 4000 ∧ okI (lowT t b) = true ∧ okI (lowB t b) = true ∧ NewR H C (low t b) Q
def spOper (C : Addr) : Sp := fun vs H Q _ => ∃ (v : V) (q : Int × Int), vs = [v] ∧ Opn H C v q ∧ okI q.1 = true ∧ New2 H q Q
def spPair (C : Addr) : Sp := fun vs H Q _ => ∃ (x : Addr) (p : Int × Int), vs = [.ref x] ∧ RAt H C x p ∧ New2 H p Q
def spTop (C : Addr) : Sp := fun vs H Q _ => ∃ (x : Addr) (p : Int × Int), vs = [.ref x] ∧ RAt H C x p ∧ Q (.int p.1) H
def spBot (C : Addr) : Sp := fun vs H Q _ => ∃ (x : Addr) (p : Int × Int), vs = [.ref x] ∧ RAt H C x p ∧ Q (.int p.2) H
def addP (p q : Int × Int) : Int × Int := low (p.1 * q.2 + q.1 * p.2) (p.2 * q.2)
def spAdd (C : Addr) : Sp := fun vs H Q _ => ∃ (x : Addr) (v : V) (p q : Int × Int), vs = [.ref x, v] ∧ RAt H C x p ∧ Fine p ∧ Opn H C v q ∧ Fine q ∧ okI (addP p q).1 = true ∧ okI (addP p q).2 = true ∧ NewR H C (addP p q) Q
def negP (p : Int × Int) : Int × Int := (-p.1, p.2)
def spNeg (C : Addr) : Sp := fun vs H Q _ => ∃ (x : Addr) (p : Int × Int), vs = [.ref x] ∧ RAt H C x p ∧ Fine p ∧ NewR H C (negP p) Q
def spEqR (C : Addr) : Sp := fun vs H Q _ => ∃ (x y : Addr) (p q : Int × Int), vs = [.ref x, .ref y] ∧ RAt H C x p ∧ RAt H C y q ∧ Q (.bl (decide (p = q))) H
def lessP (p q : Int × Int) : Bool := decide (p.1 * q.2 < q.1 * p.2)
def spBelow (C : Addr) : Sp := fun vs H Q _ => ∃ (x : Addr) (v : V) (p q : Int × Int), vs = [.ref x, v] ∧ RAt H C x p ∧ Fine p ∧ Opn H C v q ∧ Fine q ∧ ∀ H', Same H H' → Q (.bl (lessP p q)) H'
def spOf (C : Addr) : Sp := fun vs H Q _ => ∃ (a : Addr) (p : Int × Int), vs = [.ref C, .ref a] ∧ H a = some (.tup [.int p.1, .int p.2]) ∧ Fine p ∧ NewR H C p Q
/-! ### the laws' own fractions -/
theorem lowT_eq {t b : Int} (h : b ≠ 0) : ((if b < 0 then -1 else 1) * t) / gI t b = lowT t b := by
  obtain ⟨c, hc, ht, hb, hp, hn⟩ := low_ex (t := t) h
  have hg := gI_pos (t := t) h
  have e : (if b < 0 then -1 else 1) * c = gI t b := by
    have : (gI t b) = (c.natAbs : Int) := by unfold gI; rw [hn]
    rw [this]
    split <;> omega
  have e2 : (if b < 0 then -1 else 1) * t = gI t b * lowT t b := by
    rw [← e, Int.mul_assoc, ← ht]
  rw [e2, Int.mul_ediv_cancel_left _ (by omega)]
theorem lowB_eq {t b : Int} (h : b ≠ 0) : ((if b < 0 then -1 else 1) * b) / gI t b = lowB t b := by
  obtain ⟨c, hc, ht, hb, hp, hn⟩ := low_ex (t := t) h
  have hg := gI_pos (t := t) h
  have e : (if b < 0 then -1 else 1) * c = gI t b := by
    have : (gI t b) = (c.natAbs : Int) := by unfold gI; rw [hn]
    rw [this]
    split <;> omega
  have e2 : (if b < 0 then -1 else 1) * b = gI t b * lowB t b := by
    rw [← e, Int.mul_assoc, ← hb]
  rw [e2, Int.mul_ediv_cancel_left _ (by omega)]
def spLRatio : Sp := fun vs H Q _ => ∃ t b : Int, vs = [.int t, .int b] ∧ b ≠ 0 ∧ t.natAbs < 2 ^ 4000 ∧ b.natAbs < 2 ^ 4000 ∧ New2 H (low t b) Q
def spLPlus (K : PySem.W.Frag) : Sp := fun vs H Q _ => ∃ (a b : Addr) (p q : Int × Int), vs = [.ref a, .ref b] ∧ SqT K H a [.int p.1, .int p.2] ∧ SqT K H b [.int q.1, .int q.2] ∧ Fine p ∧ Fine q ∧ New2 H (addP p q) Q
/-- the small fractions that the laws draw -/
def fracs : List (Int × Int) := ((List.range 13).map fun (i : Nat) => ((i : Int) - 6)).flatMap fun t => [1, 2, 3, 4, 5, 6].map fun b => low t b
def spLFrac : Sp := fun vs H Q _ => ∃ d, vs = [.ref d] ∧ DiceAt H d ∧ ∀ (p : Int × Int) (a : Addr) (H' : Hp), p ∈ fracs → H a = none → H' a = some (.tup [.int p.1, .int p.2]) → DiceAt H' d → Fr d H H' → Q (.ref a) H'
theorem fracs_mem {t b : Int} (h0 : -6 ≤ t) (h1 : t ≤ 6) (hb : b ∈ [1, 2, 3, 4, 5, (6 : Int)]) : low t b ∈ fracs := by
  unfold fracs
  refine List.mem_flatMap.mpr ⟨t, List.mem_map.mpr ⟨(t + 6).toNat, List.mem_range.mpr (by omega), by omega⟩, List.mem_map.mpr ⟨b, hb, rfl⟩⟩
def smallP (p : Int × Int) : Bool := decide (p.1.natAbs ≤ 2 ^ 60) && decide (p.2.natAbs ≤ 2 ^ 60) && decide (0 < p.2) && decide (Nat.gcd p.1.natAbs p.2.natAbs = 1)
theorem fine_small {p : Int × Int} (h : smallP p = true) : Fine p := by
  unfold smallP at h
  simp only [Bool.and_eq_true, decide_eq_true_eq] at h
  exact ⟨okI_small (by omega), okI_small (by omega), h.1.2, h.2⟩
theorem fracs_small : ∀ p ∈ fracs, smallP p = true := by decide +kernel
/-! ### a sorted list of pairs -/
theorem c_sortP {X : Cx} {K : PySem.W.Frag} (h : X.K = K := by rfl) : CallR X (.builtin "sorted") (rSortedPO K) := h ▸ cr_sortedPO
/-- the pair that stands at a reference -/
def keyAt (H : Hp) (v : V) : Int × Int := match v with
  | .ref t => (match H t with
    | some (.tup [.int i, .int j]) => (i, j)
    | _ => (0, 0))
  | _ => (0, 0)
theorem keyAt_of {H : Hp} {t : Addr} {i j : Int} (h : H t = some (.tup [.int i, .int j])) : keyAt H (.ref t) = (i, j) := by
  unfold keyAt
  simp only [h]
def spLaw (K : PySem.W.Frag) : Sp := fun vs H Q _ => ∃ (a : Addr) (ns : List Int), vs = [.ref a] ∧ SqL K H a (ns.map V.int) ∧ ns.length ≤ 63 ∧ ∀ H', Q (.bl true) H'
/-- behind C(..): all that stood stands -/
theorem ini_same {H H2 : Hp} {x dx : Addr} {o : HO} {u : HO} (n1 : H x = none) (n2 : H dx = none) (n3 : dx ≠ x) (c : ∀ c o', (upd (upd H dx u) x o) c = some o' → c ≠ x → H2 c = some o') : Same H H2 := fun b o' h => by
  have nb : b ≠ x := fun e => by
    rw [e, n1] at h
    cases h
  have nd : b ≠ dx := fun e => by
    rw [e, n2] at h
    cases h
  exact c b o' (by rw [upd_ne nb, upd_ne nd]; exact h) nb
/-! ### facts that the head tells as truth values -/
theorem ex_at {l : List Bool} {n : Nat} {b : Bool} (h : l = List.replicate n true) (i' : Nat) (e : l[i']? = some b) : b = true := by
  rw [h] at e
  exact (List.eq_of_mem_replicate (List.mem_of_getElem? e))
def propB (K : PySem.W.Frag) (C : Addr) (m : Str) : Bool := decide (PySem.W.findIn K (.ref C) m = some (some (.ref (He.ma K C m)))) && (decide (PySem.W.specialIn K (.ref (He.ma K C m)) "__get__" = some (some (.builtin "property.__get__"))) && (decide (PySem.W.takesIn K (.ref (He.ma K C m)) = some true) && (match PySem.W.recIn K (He.ma K C m) "property" with
    | some (.ref _ :: _) => true
    | _ => false)))
theorem propB_ok {K : PySem.W.Frag} {C : Addr} {m : Str} (h : propB K C m = true) : PropOf K C m (He.ma K C m) (He5.wf K C "property" m) := by
  obtain ⟨h1, h⟩ := He.ba h
  obtain ⟨h2, h⟩ := He.ba h
  obtain ⟨h3, h4⟩ := He.ba h
  refine ⟨of_decide_eq_true h1, of_decide_eq_true h2, of_decide_eq_true h3, ?_⟩
  unfold He5.wf
  split at h4
  · rename_i g r e
    exact ⟨r, by rw [e]⟩
  · cases h4
end Ow

namespace K07
open PySem PySem.Spec PyProof.Rows L2 Ow 
local macro_rules | `(tactic| walk_at "y1") => `(tactic| with_reducible first | refine y_seq ?_ | refine y_asg ?_ | refine y_name ?_ | refine y_con ?_ | refine y_op ?_ | refine y_un ?_ | refine y_cons ?_ | refine y_nil ?_ | refine y_cb ?_ | refine y_fn ?_ | refine y_I0 ?_ | refine y_ret ?_ | refine y_drop ?_ | refine y_ifs ?_ | refine y_test ?_ | refine y_bl ?_ | refine y_not ?_ | refine y_and ?_ | refine y_or ?_ | refine y_if ?_ | refine y_chain ?_ | refine y_andV ?_ | refine y_orV ?_ | refine y_yes ?_ | refine y_lst ?_ | refine y_tup ?_ | refine y_intI ?_ | refine y_intB ?_ | refine y_abs ?_ | refine y_max2 ?_ | refine y_min2 ?_ | refine y_eqI ?_ | refine y_neI ?_ | refine y_eqS ?_ | refine y_neS ?_ | refine y_reprB ?_ | refine y_sub ?_ | refine y_bm ?_ | refine y_m1 ?_ | refine y_lc ?_ | refine y_for ?_ | refine y_rng1 ?_ | refine y_iStr ?_ | refine y_iList ?_ | refine y_next ?_ | refine y_B ?_ | refine y_rU ?_ | refine y_fld ?_ | refine y_prp ?_ | refine y_mth ?_ | refine y_mkr ?_ | refine y_par ?_ | refine y_par2 ?_ | refine y_gcons ?_ | refine y_gnil ?_ | refine y_gfld ?_ | refine y_gcd ?_ | refine y_rng2 ?_ | refine y_iRev ?_ | refine y_revL ?_ | refine y_ef ?_ | refine y_iTup ?_ | refine y_sl ?_ | refine y_iZipA ?_ | refine y_noP ?_ | refine y_prt ?_)
local macro_rules | `(tactic| walk_at "yy") => `(tactic| repeat (first | walk_at "y1" | ((with_reducible refine y_var2 ?_); refine ⟨_, rfl, ?_⟩)))
local macro_rules | `(tactic| walk_at "yi") => `(tactic| first
  | refine y_I (show CMul _ _ from .inl ⟨by decide, by decide⟩) ?_ | refine y_I (show CMul _ _ from .inl ⟨by omega, by omega⟩) ?_ | refine y_I (show CMul _ _ from .inr ⟨by omega, by omega⟩) ?_
  | refine y_I (show (0 : Int) < _ by decide) ?_ | refine y_I (show (0 : Int) < _ by omega) ?_ | refine y_I (show CPowW _ _ from ⟨by decide, by decide +kernel⟩) ?_ | refine y_I (show (0 : Int) < _ by decide +kernel) ?_ | refine y_I (big_div (by decide) (by decide)) ?_)
local macro_rules | `(tactic| walk_at "yt") => `(tactic| (with_reducible refine y_t ?_ ?_; · decide))
local macro_rules | `(tactic| walk_at "yf") => `(tactic| (with_reducible refine y_f ?_ ?_; · decide))
def top (i : Nat) : Stmt := PySem.Challenge.pw_wonbyturns_k07_whole_fractions_between.main.body.getD i (.Pass ⟨0, 0, 0, 0⟩)
abbrev s_wall : Stmt := top 1
abbrev s_ParseError___init__ : Stmt := inClass (top 6) 0
abbrev s_TooMany___init__ : Stmt := inClass (top 7) 0
abbrev s_is_integer : Stmt := top 11
abbrev s_is_fraction : Stmt := top 12
abbrev s_lowest : Stmt := top 14
abbrev s_short : Stmt := top 15
abbrev s_text_of : Stmt := top 16
abbrev s_pair_read : Stmt := top 17
abbrev s_are_digits : Stmt := top 18
abbrev s_Ratio___init__ : Stmt := inClass (top 20) 0
abbrev s_Ratio_of : Stmt := inClass (top 20) 1
abbrev s_Ratio_read : Stmt := inClass (top 20) 2
abbrev s_Ratio_top : Stmt := inClass (top 20) 3
abbrev s_Ratio_bottom : Stmt := inClass (top 20) 4
abbrev s_Ratio_pair : Stmt := inClass (top 20) 5
abbrev s_Ratio_text : Stmt := inClass (top 20) 6
abbrev s_Ratio_sign : Stmt := inClass (top 20) 7
abbrev s_Ratio_whole : Stmt := inClass (top 20) 8
abbrev s_Ratio___add__ : Stmt := inClass (top 20) 9
abbrev s_Ratio___sub__ : Stmt := inClass (top 20) 10
abbrev s_Ratio___mul__ : Stmt := inClass (top 20) 11
abbrev s_Ratio___neg__ : Stmt := inClass (top 20) 12
abbrev s_Ratio___abs__ : Stmt := inClass (top 20) 13
abbrev s_Ratio___bool__ : Stmt := inClass (top 20) 14
abbrev s_Ratio___eq__ : Stmt := inClass (top 20) 15
abbrev s_Ratio___str__ : Stmt := inClass (top 20) 16
abbrev s_Ratio_divided : Stmt := inClass (top 20) 17
abbrev s_Ratio_power : Stmt := inClass (top 20) 18
abbrev s_Ratio_is_below : Stmt := inClass (top 20) 19
abbrev s_Ratio_between : Stmt := inClass (top 20) 20
abbrev s_ratio : Stmt := top 21
abbrev s_operand : Stmt := top 22
abbrev s_simplest : Stmt := top 23
abbrev s_simplest_above_zero : Stmt := top 24
abbrev s_law_dice : Stmt := top 26
abbrev s_law_roll : Stmt := top 27
abbrev s_law_pick : Stmt := top 28
abbrev s_law_ratio : Stmt := top 29
abbrev s_law_plus : Stmt := top 30
abbrev s_law_fraction : Stmt := top 31
abbrev s_law_between : Stmt := top 32
abbrev s_law_right : Stmt := top 33
abbrev s_law : Stmt := top 34
/-- the built-in names are the built-ins -/
structure Blt (mg : Str → Option Value) : Prop where
  n_abs : mg "abs" = none
  n_bool : mg "bool" = none
  n_int : mg "int" = none
  n_isinstance : mg "isinstance" = none
  n_len : mg "len" = none
  n_max : mg "max" = none
  n_min : mg "min" = none
  n_range : mg "range" = none
  n_sorted : mg "sorted" = none
  n_tuple : mg "tuple" = none
structure Con (mg : Str → Option Value) : Prop where
  g_MAX_DIGITS : ∃ t, mg "MAX_DIGITS" = some (.int 300 t)
  g_LEAST_LONG : ∃ t, mg "LEAST_LONG" = some (.int (10 ^ 300) t)
/-! ### mirrors -/
def sm (i : Int) : Bool := decide (i.natAbs < 2 ^ 60)
/-- the loop of turning over: the wholes on the way, and the last one -/
def sazW : Nat → Int → Int → Int → Int → List Int → Option (List Int × Int)
  | 0, _, _, _, _, _ => none
  | n + 1, lt, lb, ht, hb, st => if (decide (0 < lb) && (sm lt && (sm lb && (sm ht && (sm hb && sm (lt / lb)))))) = true then
      (if ht ≤ (lt / lb + 1) * hb then sazW n hb (ht - lt / lb * hb) lb (lt - lt / lb * lb) (st ++ [lt / lb]) else some (st, lt / lb)) else none
def back (st : List Int) (p : Int × Int) : Int × Int := st.reverse.foldl (fun p s => (s * p.1 + p.2, p.1)) p
def saz (lo hi : Int × Int) : Option (Int × Int) := (sazW 60 lo.1 lo.2 hi.1 hi.2 []).map fun r => back r.1 (r.2 + 1, 1)
def simp2 (lo hi : Int × Int) : Option (Int × Int) := if lo.1 < 0 ∧ 0 < hi.1 then some (0, 1) else if 0 ≤ lo.1 then saz lo hi else (saz (-hi.1, hi.2) (-lo.1, lo.2)).map fun r => (-r.1, r.2)
def betw (p q : Int × Int) : Option (Int × Int) := if p = q then none else
  match simp2 (if lessP p q = true then p else q) (if lessP p q = true then q else p) with
  | none => none
  | some r => if r.2 ≠ 0 ∧ r.1.natAbs ≤ 2 ^ 60 ∧ r.2.natAbs ≤ 2 ^ 60 then some (low r.1 r.2) else none
def spSaz (K : PySem.W.Frag) : Sp := fun vs H Q _ => ∃ (a b : Addr) (lo hi r : Int × Int), vs = [.ref a, .ref b] ∧ H a = some (.tup [.int lo.1, .int lo.2]) ∧ H b = some (.tup [.int hi.1, .int hi.2]) ∧ saz lo hi = some r ∧ New2 H r Q
def spSimp (K : PySem.W.Frag) : Sp := fun vs H Q _ => ∃ (a b : Addr) (lo hi r : Int × Int), vs = [.ref a, .ref b] ∧ H a = some (.tup [.int lo.1, .int lo.2]) ∧ H b = some (.tup [.int hi.1, .int hi.2]) ∧ simp2 lo hi = some r ∧ New2 H r Q
def spBetween (C : Addr) : Sp := fun vs H Q _ => ∃ (x y : Addr) (p q z : Int × Int), vs = [.ref x, .ref y] ∧ RAt H C x p ∧ RAt H C y q ∧ Fine p ∧ Fine q ∧ betw p q = some z ∧ NewR H C z Q
/-- the law's search: is the least numerator above the lower end below the upper one -/
def ltop (lo : Int × Int) (b : Int) : Int := lo.1 * b / lo.2 + 1
def llast (hi : Int × Int) (b : Int) : Int := (hi.1 * b - 1) / hi.2
def lcond (lo hi : Int × Int) (b : Int) : Bool := decide (ltop lo b * hi.2 < hi.1 * b)
def lfind (lo hi : Int × Int) : Nat → Nat → Option Nat
  | 0, _ => none
  | n + 1, b => if lcond lo hi (1 + (b : Int)) = true then some b else lfind lo hi n (b + 1)
def lval (lo hi : Int × Int) (b : Int) : Int := if ltop lo b ≤ 0 ∧ 0 ≤ llast hi b then 0 else
  if (ltop lo b).natAbs < (llast hi b).natAbs then ltop lo b else if (llast hi b).natAbs < (ltop lo b).natAbs then llast hi b else min (ltop lo b) (llast hi b)
def lbet (lo hi : Int × Int) : Option (Int × Int) := (lfind lo hi 3999 0).map fun (b : Nat) => low (lval lo hi (1 + (b : Int))) (1 + (b : Int))
def spLBetween (K : PySem.W.Frag) : Sp := fun vs H Q _ => ∃ (a b : Addr) (lo hi z : Int × Int), vs = [.ref a, .ref b] ∧ H a = some (.tup [.int lo.1, .int lo.2]) ∧ H b = some (.tup [.int hi.1, .int hi.2]) ∧ 0 < lo.2 ∧ 0 < hi.2 ∧ lo.1.natAbs ≤ 10000 ∧ lo.2.natAbs ≤ 10000 ∧ hi.1.natAbs ≤ 10000 ∧ hi.2.natAbs ≤ 10000 ∧ lbet lo hi = some z ∧ New2 H z Q
theorem sm_lt {i : Int} (h : sm i = true) : i.natAbs < 2 ^ 60 := of_decide_eq_true h
theorem sazW_inv {n : Nat} {lt lb ht hb : Int} {st : List Int} {x : List Int × Int} (h : sazW n lt lb ht hb st = some x) : ∃ m, n = m + 1 ∧ 0 < lb ∧ (sm lt = true ∧ sm lb = true ∧ sm ht = true ∧ sm hb = true ∧ sm (lt / lb) = true) ∧
    ((ht ≤ (lt / lb + 1) * hb ∧ sazW m hb (ht - lt / lb * hb) lb (lt - lt / lb * lb) (st ++ [lt / lb]) = some x) ∨ (¬ ht ≤ (lt / lb + 1) * hb ∧ x = (st, lt / lb))) := by
  cases n with
  | zero => cases h
  | succ m =>
    unfold sazW at h
    split at h
    · rename_i hc
      simp only [Bool.and_eq_true, decide_eq_true_eq] at hc
      refine ⟨m, rfl, hc.1, hc.2, ?_⟩
      split at h
      · rename_i h2
        exact .inl ⟨h2, h⟩
      · rename_i h2
        exact .inr ⟨h2, (Option.some.inj h).symm⟩
    · cases h
theorem betw_inv {lo hi z : Int × Int} (h : (match simp2 lo hi with
  | none => none
  | some r => if r.2 ≠ 0 ∧ r.1.natAbs ≤ 2 ^ 60 ∧ r.2.natAbs ≤ 2 ^ 60 then some (low r.1 r.2) else none) = some z) : ∃ r, simp2 lo hi = some r ∧ r.2 ≠ 0 ∧ r.1.natAbs ≤ 2 ^ 60 ∧ r.2.natAbs ≤ 2 ^ 60 ∧ z = low r.1 r.2 := by
  cases e : simp2 lo hi with
  | none =>
    rw [e] at h
    cases h
  | some r =>
    rw [e] at h
    have h : (if r.2 ≠ 0 ∧ r.1.natAbs ≤ 2 ^ 60 ∧ r.2.natAbs ≤ 2 ^ 60 then some (low r.1 r.2) else none) = some z := h
    split at h
    · rename_i c
      exact ⟨r, rfl, c.1, c.2.1, c.2.2, (Option.some.inj h).symm⟩
    · cases h
theorem take_rev {l : List Int} {i : Nat} {x : Int} (hi : i < l.length) (h : l[l.length - 1 - i]? = some x) : l.reverse.take (i + 1) = l.reverse.take i ++ [x] := by
  have e : l.reverse[i]? = some x := by
    rw [List.getElem?_reverse hi]
    exact h
  rw [List.take_add_one, e]
  rfl

/-! ### all draws at once -/
def steps : List (Int × Int) := [(1, 1), (1, 2), (1, 7), (1, 60), (3, 2), (5, 1), (1, 200), (2, 35), (1, 6)]
def sml (p : Int × Int) : Bool := decide (0 < p.2) && (decide (Nat.gcd p.1.natAbs p.2.natAbs = 1) && (decide (p.1.natAbs ≤ 10000) && decide (p.2.natAbs ≤ 10000)))
def okD (lo st : Int × Int) : Bool := match betw lo (addP lo st), betw (addP lo (1, 1)) (addP (addP lo st) (1, 1)) with
  | some z, some y => (match betw lo z, betw z (addP lo st) with
    | some u, some v => sml lo && (sml st && (sml (addP lo st) && (sml z && (sml (addP lo (1, 1)) && (sml (addP (addP lo st) (1, 1)) && (decide (lbet lo (addP lo st) = some z) && (decide (betw (addP lo st) lo = some z) && (lessP lo z && (lessP z (addP lo st) &&
      (decide (betw (negP lo) (negP (addP lo st)) = some (negP z)) && (decide (y.2 = z.2) && (decide (z.2 ≤ u.2) && decide (z.2 ≤ v.2)))))))))))))
    | _, _ => false)
  | _, _ => false
theorem all_ok : (fracs.all fun lo => steps.all fun st => okD lo st) = true := by decide +kernel
theorem right_ok {lo st : Int × Int} (h1 : lo ∈ fracs) (h2 : st ∈ steps) : ∃ z y u v, betw lo (addP lo st) = some z ∧ betw (addP lo (1, 1)) (addP (addP lo st) (1, 1)) = some y ∧ betw lo z = some u ∧ betw z (addP lo st) = some v ∧
    sml lo = true ∧ sml st = true ∧ sml (addP lo st) = true ∧ sml z = true ∧ sml (addP lo (1, 1)) = true ∧ sml (addP (addP lo st) (1, 1)) = true ∧ lbet lo (addP lo st) = some z ∧ betw (addP lo st) lo = some z ∧ lessP lo z = true ∧ lessP z (addP lo st) = true ∧
    betw (negP lo) (negP (addP lo st)) = some (negP z) ∧ y.2 = z.2 ∧ z.2 ≤ u.2 ∧ z.2 ≤ v.2 := by
  have h := List.all_eq_true.mp (List.all_eq_true.mp all_ok lo h1) st h2
  unfold okD at h
  split at h
  · rename_i z y e1 e2
    split at h
    · rename_i u v e3 e4
      simp only [Bool.and_eq_true, decide_eq_true_eq] at h
      exact ⟨z, y, u, v, e1, e2, e3, e4, h⟩
    · cases h
  · cases h
theorem sml_fine {p : Int × Int} (h : sml p = true) : Fine p ∧ p.1.natAbs ≤ 10000 ∧ p.2.natAbs ≤ 10000 := by
  unfold sml at h
  simp only [Bool.and_eq_true, decide_eq_true_eq] at h
  exact ⟨⟨okI_small (by omega), okI_small (by omega), h.1, h.2.1⟩, h.2.2⟩
theorem neg_fine {p : Int × Int} (h : Fine p) : Fine (negP p) :=
  ⟨okI_mono h.t (by show (-p.1).natAbs ≤ _; omega), h.b, h.l.1, by show Nat.gcd (-p.1).natAbs _ = 1; rw [Int.natAbs_neg]; exact h.l.2⟩
theorem dice_ne {H : Hp} {d a : Addr} {xs : List V} (hD : DiceAt H d) (h : H a = some (.tup xs)) : a ≠ d := fun e => by
  obtain ⟨_, _, _, hd⟩ := hD
  rw [e, hd] at h
  cases h
theorem sh2 (p : Int × Int) : SeqAt.shaped (PyData.tuple [PyData.int p.1, PyData.int p.2]) = true := rfl
theorem eqv2 (p : Int × Int) : PyData.eqv (PyData.tuple [PyData.int p.1, PyData.int p.2]) (PyData.tuple [PyData.int p.1, PyData.int p.2]) = true := by
  show ((p.1 == p.1) && ((p.2 == p.2) && true)) = true
  simp
theorem nse (z : Int × Int) : (!decide (z = z)) = false := by simp
def spRight : Sp := fun vs H Q _ => ∃ d, vs = [.ref d] ∧ DiceAt H d ∧ ∀ H', DiceAt H' d → Fr d H H' → Q (.bl true) H'
section
variable {P : Program} {w : World} {K : PySem.W.Frag} {mg : Str → Option Value} {base : Heap}
theorem sc_is_integer : FnScope ["value"] ["value"] (defScope s_is_integer) := ⟨rfl, rfl, rfl, by decide +kernel, rfl, by decide +kernel, by decide +kernel⟩
-- 0 value
theorem ok_is_integer {f : Addr} {fd : FuncData} (F : FunD K "is_integer" "is_integer" (defArgs s_is_integer) (defBody s_is_integer) (defScope s_is_integer) [] [] f fd) (B : Blt mg) (Z : Con mg) {C : Addr} (T : RatioC K mg C) : FnOk P w K mg base CX0 1 f fd ["value"] spIsInt := by
  refine F.ok sc_is_integer (fun vs H Q E h => ?_) (fun cdv A outer s H vs Q E hr h => ?_)
  · obtain ⟨i, rfl, _⟩ := h
    rfl
  · obtain ⟨i, rfl, k⟩ := h
    refine ⟨_, PSs.nox (pss_cons (ps_if (PW.pt (pw_or (pt_not (pt_val (pe_callB (c_isi (K := K)) (by rfl) B.n_isinstance (by decide +kernel) (pa_cons (pv 0) (pa_cons (pe_bltn (v := .ty "int") (by rfl) B.n_int (by decide +kernel) rfl) pa_nil))))) (pw_or1 (pt_val (pe_callB (c_isi (K := K)) (by rfl) B.n_isinstance (by decide +kernel) (pa_cons (pv 0) (pa_cons (pe_bltn (v := .ty "bool") (by rfl) B.n_bool (by decide +kernel) rfl) pa_nil))))))) (pss_one (ps_ret pe_bl)) pss_nil) (pss_one (ps_ret (pe_chain op_lt op_lt (pe_un un_neg (pe_globI (by rfl) Z.g_LEAST_LONG)) (pv 0) (pe_globI (by rfl) Z.g_LEAST_LONG))))), ?_⟩
    walk_at "yy"
    refine y_isi (k := true) (.base (.int i)) (kit_ty (by decide +kernel)) ?_
    walk_at "yy"
    walk_at "yf"
    walk_at "yy"
    refine y_isi (k := false) (.base (.int i)) (kit_ty (by decide +kernel)) ?_
    walk_at "yy"
    walk_at "yf"
    walk_at "yy"
    refine y_ite (fun h => ?_) (fun h => ?_)
    · walk_at "yy"
      have e : okI i = decide (i < 10 ^ 300) := by
        unfold okI
        rw [if_pos h]
      rw [← e]
      exact k
    · have e : okI i = false := by
        unfold okI
        rw [if_neg (by rw [h]; exact Bool.false_ne_true)]
      rw [← e]
      exact k
theorem sc_is_fraction : FnScope ["value", "top", "bottom"] ["value"] (defScope s_is_fraction) := ⟨rfl, rfl, rfl, by decide +kernel, rfl, by decide +kernel, by decide +kernel⟩
-- 0 value, 1 top, 2 bottom
theorem ok_is_fraction {f : Addr} {fd : FuncData} (F : FunD K "is_fraction" "is_fraction" (defArgs s_is_fraction) (defBody s_is_fraction) (defScope s_is_fraction) [] [] f fd) (B : Blt mg) (Z : Con mg) {C : Addr} (T : RatioC K mg C) (C_is_integer : Cal P w K mg base 1 "is_integer" ["value"] spIsInt) : FnOk P w K mg base CX0 2 f fd ["value"] (spIsFrac K) := by
  refine F.ok sc_is_fraction (fun vs H Q E h => ?_) (fun cdv A outer s H vs Q E hr h => ?_)
  · obtain ⟨a, p, rfl, _⟩ := h
    rfl
  · obtain ⟨a, p, rfl, ha, k⟩ := h
    refine ⟨_, PSs.nox (pss_cons (ps_if (PW.pt (pw_or (pt_not (pt_val (pe_callB (c_isi (K := K)) (by rfl) B.n_isinstance (by decide +kernel) (pa_cons (pv 0) (pa_cons (pe_bltn (v := .ty "tuple") (by rfl) B.n_tuple (by decide +kernel) rfl) pa_nil))))) (pw_or1 (pt_cmpR op_ne (pe_callB (c_lenQ (K := K)) (by rfl) B.n_len (by decide +kernel) (pa_cons (pv 0) pa_nil)) pe_int (nomark _))))) (pss_one (ps_ret pe_bl)) pss_nil) (pss_cons (ps_asg (pv 0) (g_tup (K := K) (n := 2) (by rfl) (pgs_cons (pg_name (i := 1) sc_is_fraction.nd rfl (Or.inl rfl)) (pgs_cons (pg_name (i := 2) sc_is_fraction.nd rfl (Or.inl rfl)) pgs_nil)))) (pss_cons (ps_if (PW.pt (pw_or (pt_not (pt_val (pe_fn C_is_integer (hr.mono (by decide)) (by rfl) (pa_cons (pv 1) pa_nil)))) (pw_or1 (pt_not (pt_val (pe_fn C_is_integer (hr.mono (by decide)) (by rfl) (pa_cons (pv 2) pa_nil))))))) (pss_one (ps_ret pe_bl)) pss_nil) (pss_one (ps_ret (pe_and (pe_cmpR op_ge (pv 2) pe_int (nomark _)) (pe_one (pe_cmpR op_eq (pe_callBfun cr_gcd (by rfl) T.gcd (pa_cons (pv 1) (pa_cons (pv 2) pa_nil))) pe_int (nomark _))))))))), ?_⟩
    walk_at "yy"
    refine y_isi (k := true) (.base (.tup ha)) (kit_ty (by decide +kernel)) ?_
    walk_at "yy"
    walk_at "yf"
    walk_at "yy"
    refine y_lenT (sqt ha) ?_
    walk_at "yy"
    with_reducible refine y_f ?_ ?_
    · rfl
    walk_at "yy"
    refine y_gtup rfl (sqt ha) rfl ?_
    walk_at "yy"
    refine ⟨p.1, rfl, ?_⟩
    walk_at "yy"
    have fin : ∀ b, fracB p = b → Q (.bl b) H := fun b e => by
      rw [← e]
      exact k
    refine y_ite (fun h1 => ?_) (fun h1 => ?_)
    · walk_at "yy"
      refine fin _ ?_
      unfold fracB
      rw [(Bool.not_eq_true' _).mp h1, Bool.false_and, Bool.false_and, Bool.false_and]
    · walk_at "yy"
      refine ⟨p.2, rfl, ?_⟩
      walk_at "yy"
      refine y_ite (fun h2 => ?_) (fun h2 => ?_)
      · walk_at "yy"
        refine fin _ ?_
        unfold fracB
        rw [(Bool.not_eq_true' _).mp h2, Bool.and_false, Bool.false_and, Bool.false_and]
      · walk_at "yy"
        have h1 := (Bool.not_eq_false' _).mp h1
        have h2 := (Bool.not_eq_false' _).mp h2
        refine y_ite (fun h3 => ?_) (fun h3 => ?_)
        · walk_at "yy"
          refine fin _ ?_
          unfold fracB
          rw [h1, h2, h3, Bool.true_and, Bool.true_and, Bool.true_and, decide_eq_decide]
          omega
        · refine fin _ ?_
          unfold fracB
          rw [h3, Bool.and_false, Bool.false_and]
theorem sc_lowest : FnScope ["top", "bottom", "common"] ["top", "bottom"] (defScope s_lowest) := ⟨rfl, rfl, rfl, by decide +kernel, rfl, by decide +kernel, by decide +kernel⟩
-- 0 top, 1 bottom, 2 common
theorem ok_lowest {f : Addr} {fd : FuncData} (F : FunD K "lowest" "lowest" (defArgs s_lowest) (defBody s_lowest) (defScope s_lowest) [] [] f fd) (B : Blt mg) (Z : Con mg) {C : Addr} (T : RatioC K mg C) : FnOk P w K mg base CX0 1 f fd ["top", "bottom"] spLowest := by
  refine F.ok sc_lowest (fun vs H Q E h => ?_) (fun cdv A outer s H vs Q E hr h => ?_)
  · obtain ⟨t, b, rfl, _⟩ := h
    rfl
  · obtain ⟨t, b, rfl, h0, ht, hb, k⟩ := h
    refine ⟨_, PSs.nox (pss_cons (ps_set (i := 2) sc_lowest.nd rfl (Or.inl rfl) (pe_callBfun cr_gcd (by rfl) T.gcd (pa_cons (pv 0) (pa_cons (pv 1) pa_nil)))) (pss_cons (ps_if (pt_cmpR op_lt (pv 1) pe_int (nomark _)) (pss_one (ps_set (i := 2) sc_lowest.nd rfl (Or.inl rfl) (pe_un un_neg (pv 2)))) pss_nil) (pss_one (ps_ret (pe_tup (pa_cons (pe_op op_fdivWN (pv 0) (pv 2)) (pa_cons (pe_op op_fdivWN (pv 1) (pv 2)) pa_nil))))))), ?_⟩
    walk_at "yy"
    have hd := fun i : Int => divWN (t := t) h0 hb (i := i)
    by_cases hn : b < 0
    · refine y_t (decide_eq_true hn) ?_
      rw [if_pos hn] at hd
      walk_at "yy"
      refine y_I (hd _) ?_
      walk_at "yy"
      refine y_I (hd _) ?_
      walk_at "yy"
      refine ⟨by show 2 ≤ sizeLine; decide, fun p hp => k p _ hp ?_ (same_new hp)⟩
      rw [upd_same]
      unfold low lowT lowB
      rw [if_pos hn]
      rfl
    · refine y_f (decide_eq_false hn) ?_
      rw [if_neg hn] at hd
      walk_at "yy"
      refine y_I (hd _) ?_
      walk_at "yy"
      refine y_I (hd _) ?_
      walk_at "yy"
      refine ⟨by show 2 ≤ sizeLine; decide, fun p hp => k p _ hp ?_ (same_new hp)⟩
      rw [upd_same]
      unfold low lowT lowB
      rw [if_neg hn]
      rfl
theorem sc_short : FnScope ["pair"] ["pair"] (defScope s_short) := ⟨rfl, rfl, rfl, by decide +kernel, rfl, by decide +kernel, by decide +kernel⟩
-- 0 pair
theorem ok_short {f : Addr} {fd : FuncData} (F : FunD K "short" "short" (defArgs s_short) (defBody s_short) (defScope s_short) [] [] f fd) (B : Blt mg) (Z : Con mg) {C : Addr} (T : RatioC K mg C) (C_is_integer : Cal P w K mg base 1 "is_integer" ["value"] spIsInt) : FnOk P w K mg base CX0 2 f fd ["pair"] spShort := by
  refine F.ok sc_short (fun vs H Q E h => ?_) (fun cdv A outer s H vs Q E hr h => ?_)
  · obtain ⟨a, p, rfl, _⟩ := h
    rfl
  · obtain ⟨a, p, rfl, ha, h1, h2, k⟩ := h
    refine ⟨_, PSs.nox (pss_cons (ps_if (PW.pt (pw_or (pt_not (pt_val (pe_fn C_is_integer (hr.mono (by decide)) (by rfl) (pa_cons (pe_ix (x_tup (K := K)) (pv 0) pe_int (fun _ _ => rfl)) pa_nil)))) (pw_or1 (pt_not (pt_val (pe_fn C_is_integer (hr.mono (by decide)) (by rfl) (pa_cons (pe_ix (x_tup (K := K)) (pv 0) pe_int (fun _ _ => rfl)) pa_nil))))))) (pss_one ps_never) pss_nil) (pss_one (ps_ret (pv 0)))), ?_⟩
    walk_at "yy"
    refine y_ixT (sqt ha) rfl ?_
    walk_at "yy"
    refine ⟨p.1, rfl, ?_⟩
    rw [h1]
    walk_at "yy"
    walk_at "yf"
    walk_at "yy"
    refine y_ixT (sqt ha) rfl ?_
    walk_at "yy"
    refine ⟨p.2, rfl, ?_⟩
    rw [h2]
    walk_at "yy"
    walk_at "yf"
    walk_at "yy"
    exact k
theorem sc_Ratio___init__ : FnScope ["self", "top", "bottom"] ["self", "top", "bottom"] (defScope s_Ratio___init__) := ⟨rfl, rfl, rfl, by decide +kernel, rfl, by decide +kernel, by decide +kernel⟩
-- 0 self, 1 top, 2 bottom
theorem ok_Ratio___init__ {f : Addr} {fd : FuncData} (F : FunD K "__init__" "Ratio.__init__" (defArgs s_Ratio___init__) (defBody s_Ratio___init__) (defScope s_Ratio___init__) [.int 1] [] f fd) (B : Blt mg) (Z : Con mg) {C : Addr} (T : RatioC K mg C) (C_is_integer : Cal P w K mg base 1 "is_integer" ["value"] spIsInt) (C_lowest : Cal P w K mg base 1 "lowest" ["top", "bottom"] spLowest) : FnOk P w K mg base CX0 2 f fd ["self", "top", "bottom"] (spInit C) := by
  refine F.ok sc_Ratio___init__ (fun vs H Q E h => ?_) (fun cdv A outer s H vs Q E hr h => ?_)
  · obtain ⟨x, dx, t, b, rfl, _⟩ := h
    rfl
  · obtain ⟨x, dx, t, b, rfl, hx, h1, h2, h0, k⟩ := h
    refine ⟨_, PSs.nox (pss_cons (ps_if (PW.pt (pw_or (pt_not (pt_val (pe_fn C_is_integer (hr.mono (by decide)) (by rfl) (pa_cons (pv 1) pa_nil)))) (pw_or1 (pt_not (pt_val (pe_fn C_is_integer (hr.mono (by decide)) (by rfl) (pa_cons (pv 2) pa_nil))))))) (pss_one ps_never) pss_nil) (pss_cons (ps_if (pt_cmpR op_eq (pv 2) pe_int (nomark _)) (pss_one ps_never) pss_nil) (pss_one (ps_asg (pe_fn C_lowest (hr.mono (by decide)) (by rfl) (pa_cons (pv 1) (pa_cons (pv 2) pa_nil))) (g_tup (K := K) (n := 2) (by rfl) (pgs_cons (pg_fld (K := K) (pv 0)) (pgs_cons (pg_fld (K := K) (pv 0)) pgs_nil))))))), ?_⟩
    walk_at "yy"
    refine ⟨t, rfl, ?_⟩
    rw [h1]
    walk_at "yy"
    walk_at "yf"
    walk_at "yy"
    refine ⟨b, rfl, ?_⟩
    rw [h2]
    walk_at "yy"
    walk_at "yf"
    walk_at "yy"
    refine y_f (decide_eq_false h0) ?_
    walk_at "yy"
    refine ⟨t, b, rfl, h0, up_lt (okI_nat h1) (by decide), up_lt (okI_nat h2) (by decide), fun a H1 na ea s1 => ?_⟩
    walk_at "yy"
    refine y_gtup rfl (sqt ea) rfl ?_
    walk_at "yy"
    refine ⟨x, C, dx, [], rfl, s1 _ _ hx, T.cls, T.nT, by decide, ?_⟩
    walk_at "yy"
    refine ⟨x, C, dx, _, rfl, upd_same, T.cls, T.nB, by show 1 < 1000; decide, ?_⟩
    walk_at "yy"
    refine k _ ⟨dx, ?_⟩ fun c o e n => ?_
    · rw [upd_same]
      exact congrArg (fun l => some (HO.ins C dx l)) (rf_put (low t b))
    · rw [upd_ne n, upd_ne n]
      exact s1 _ _ e
theorem sc_ratio : FnScope ["top", "bottom"] ["top", "bottom"] (defScope s_ratio) := ⟨rfl, rfl, rfl, by decide +kernel, rfl, by decide +kernel, by decide +kernel⟩
-- 0 top, 1 bottom
theorem ok_ratio {f : Addr} {fd : FuncData} (F : FunD K "_ratio" "_ratio" (defArgs s_ratio) (defBody s_ratio) (defScope s_ratio) [] [] f fd) (B : Blt mg) (Z : Con mg) {C : Addr} (T : RatioC K mg C) (C_lowest : Cal P w K mg base 1 "lowest" ["top", "bottom"] spLowest) (C_short : Cal P w K mg base 2 "short" ["pair"] spShort) (C_Ratio_2 : Mkr P w K mg base 2 "Ratio" C (spInit C) []) : FnOk P w K mg base CX0 4 f fd ["top", "bottom"] (spRatio C) := by
  refine F.ok sc_ratio (fun vs H Q E h => ?_) (fun cdv A outer s H vs Q E hr h => ?_)
  · obtain ⟨t, b, rfl, _⟩ := h
    rfl
  · obtain ⟨t, b, rfl, h0, ht, hb, h1, h2, k⟩ := h
    refine ⟨_, PSs.nox (pss_cons (ps_asg (pe_fn C_short (hr.mono (by decide)) (by rfl) (pa_cons (pe_fn C_lowest (hr.mono (by decide)) (by rfl) (pa_cons (pv 0) (pa_cons (pv 1) pa_nil))) pa_nil)) (g_tup (K := K) (n := 2) (by rfl) (pgs_cons (pg_name (i := 0) sc_ratio.nd rfl (Or.inl rfl)) (pgs_cons (pg_name (i := 1) sc_ratio.nd rfl (Or.inl rfl)) pgs_nil)))) (pss_one (ps_ret (e_mkr C_Ratio_2 (hr.mono (by decide)) (by rfl) (pa_cons (pv 0) (pa_cons (pv 1) pa_nil)))))), ?_⟩
    walk_at "yy"
    refine ⟨t, b, rfl, h0, ht, hb, fun a H1 na ea s1 => ?_⟩
    walk_at "yy"
    refine ⟨a, low t b, rfl, ea, h1, h2, ?_⟩
    walk_at "yy"
    refine y_gtup rfl (sqt ea) rfl ?_
    walk_at "yy"
    refine fun x dx nx ndx nxd => ?_
    have hp := (low_low (t := t) h0)
    refine ⟨x, dx, _, _, rfl, upd_same, h1, h2, by have := hp.1; show lowB t b ≠ 0; exact Int.ne_of_gt this, fun H2 hR fr => ⟨rfl, ?_⟩⟩
    refine k x H2 (Same.free s1 nx) ?_ fun c o e => ?_
    · have e : low (low t b).1 (low t b).2 = low t b := low_fix hp
      rw [← e]
      exact hR
    · have e1 := s1 _ _ e
      have n1 : c ≠ x := ne_of_none e1 nx
      have n2 : c ≠ dx := ne_of_none e1 ndx
      exact fr c o (by rw [upd_ne n1, upd_ne n2]; exact e1) n1
theorem sc_Ratio_pair : FnScope ["self"] ["self"] (defScope s_Ratio_pair) := ⟨rfl, rfl, rfl, by decide +kernel, rfl, by decide +kernel, by decide +kernel⟩
-- 0 self
theorem ok_Ratio_pair {f : Addr} {fd : FuncData} (F : FunD K "pair" "Ratio.pair" (defArgs s_Ratio_pair) (defBody s_Ratio_pair) (defScope s_Ratio_pair) [] [] f fd) (B : Blt mg) (Z : Con mg) {C : Addr} (T : RatioC K mg C) : FnOk P w K mg base CX0 1 f fd ["self"] (spPair C) := by
  refine F.ok sc_Ratio_pair (fun vs H Q E h => ?_) (fun cdv A outer s H vs Q E hr h => ?_)
  · obtain ⟨x, p, rfl, _⟩ := h
    rfl
  · obtain ⟨x, p, rfl, hx, k⟩ := h
    refine ⟨_, PSs.nox (pss_one (ps_ret (pe_tup (pa_cons (e_fld (K := K) (pv 0)) (pa_cons (e_fld (K := K) (pv 0)) pa_nil))))), ?_⟩
    walk_at "yy"
    refine ⟨_, C, _, _, _, rfl, hx.choose_spec, T.cls, T.nT, rf_t _, ?_⟩
    walk_at "yy"
    refine ⟨_, C, _, _, _, rfl, hx.choose_spec, T.cls, T.nB, rf_b _, ?_⟩
    walk_at "yy"
    exact ⟨by show 2 ≤ sizeLine; decide, fun a ha => k a _ ha upd_same (same_new ha)⟩
theorem sc_Ratio_bottom : FnScope ["self"] ["self"] (defScope s_Ratio_bottom) := ⟨rfl, rfl, rfl, by decide +kernel, rfl, by decide +kernel, by decide +kernel⟩
-- 0 self
theorem ok_Ratio_bottom {f : Addr} {fd : FuncData} (F : FunD K "bottom" "Ratio.bottom" (defArgs s_Ratio_bottom) (defBody s_Ratio_bottom) (defScope s_Ratio_bottom) [] [] f fd) (B : Blt mg) (Z : Con mg) {C : Addr} (T : RatioC K mg C) : FnOk P w K mg base CX0 1 f fd ["self"] (spBot C) := by
  refine F.ok sc_Ratio_bottom (fun vs H Q E h => ?_) (fun cdv A outer s H vs Q E hr h => ?_)
  · obtain ⟨x, p, rfl, _⟩ := h
    rfl
  · obtain ⟨x, p, rfl, hx, k⟩ := h
    refine ⟨_, PSs.nox (pss_one (ps_ret (e_fld (K := K) (pv 0)))), ?_⟩
    walk_at "yy"
    refine ⟨_, C, _, _, _, rfl, hx.choose_spec, T.cls, T.nB, rf_b _, ?_⟩
    exact k
theorem sc_operand : FnScope ["value"] ["value"] (defScope s_operand) := ⟨rfl, rfl, rfl, by decide +kernel, rfl, by decide +kernel, by decide +kernel⟩
-- 0 value
theorem ok_operand {f : Addr} {fd : FuncData} (F : FunD K "_operand" "_operand" (defArgs s_operand) (defBody s_operand) (defScope s_operand) [] [] f fd) (B : Blt mg) (Z : Con mg) {C : Addr} (T : RatioC K mg C) (C_Ratio_pair : Prp P w K mg base 1 C "pair" (spPair C)) (C_is_integer : Cal P w K mg base 1 "is_integer" ["value"] spIsInt) : FnOk P w K mg base CX0 3 f fd ["value"] (spOper C) := by
  refine F.ok sc_operand (fun vs H Q E h => ?_) (fun cdv A outer s H vs Q E hr h => ?_)
  · obtain ⟨v, q, rfl, _⟩ := h
    rfl
  · obtain ⟨v, q, rfl, ho, h1, k⟩ := h
    refine ⟨_, PSs.nox (pss_cons (ps_if (pt_val (pe_callB (c_isi (K := K)) (by rfl) B.n_isinstance (by decide +kernel) (pa_cons (pv 0) (pa_cons (pe_glob (v := .ref C) (by rfl) T.g rfl) pa_nil)))) (pss_one (ps_ret (e_prp C_Ratio_pair T.cls (hr.mono (by decide)) (pv 0)))) pss_nil) (pss_cons (ps_if (pt_not (pt_val (pe_fn C_is_integer (hr.mono (by decide)) (by rfl) (pa_cons (pv 0) pa_nil)))) (pss_one ps_never) pss_nil) (pss_one (ps_ret (pe_tup (pa_cons (pv 0) (pa_cons pe_int pa_nil))))))), ?_⟩
    walk_at "yy"
    rcases ho with ⟨x, rfl, hx⟩ | ⟨i, rfl, rfl⟩
    · refine y_isC (k := true) (T.ty hx) kit_self ?_
      walk_at "yy"
      walk_at "yt"
      walk_at "yy"
      obtain ⟨dx, hx'⟩ := id hx
      exact ⟨x, dx, _, rfl, hx', x, q, rfl, hx, k⟩
    · refine y_isC (k := false) (.base (.int i)) T.ki ?_
      walk_at "yy"
      walk_at "yf"
      walk_at "yy"
      refine ⟨i, rfl, ?_⟩
      rw [h1]
      walk_at "yy"
      walk_at "yf"
      walk_at "yy"
      exact ⟨by show 2 ≤ sizeLine; decide, fun a ha => k a _ ha upd_same (same_new ha)⟩
theorem sc_Ratio___add__ : FnScope ["self", "other", "top", "bottom"] ["self", "other"] (defScope s_Ratio___add__) := ⟨rfl, rfl, rfl, by decide +kernel, rfl, by decide +kernel, by decide +kernel⟩
-- 0 self, 1 other, 2 top, 3 bottom
theorem ok_Ratio___add__ {f : Addr} {fd : FuncData} (F : FunD K "__add__" "Ratio.__add__" (defArgs s_Ratio___add__) (defBody s_Ratio___add__) (defScope s_Ratio___add__) [] [] f fd) (B : Blt mg) (Z : Con mg) {C : Addr} (T : RatioC K mg C) (C_operand : Cal P w K mg base 3 "_operand" ["value"] (spOper C)) (C_ratio : Cal P w K mg base 4 "_ratio" ["top", "bottom"] (spRatio C)) : FnOk P w K mg base CX0 5 f fd ["self", "other"] (spAdd C) := by
  refine F.ok sc_Ratio___add__ (fun vs H Q E h => ?_) (fun cdv A outer s H vs Q E hr h => ?_)
  · obtain ⟨x, v, p, q, rfl, _⟩ := h
    rfl
  · obtain ⟨x, v, p, q, rfl, hx, fp, ho, fq, h1, h2, k⟩ := h
    refine ⟨_, PSs.nox (pss_cons (ps_asg (pe_fn C_operand (hr.mono (by decide)) (by rfl) (pa_cons (pv 1) pa_nil)) (g_tup (K := K) (n := 2) (by rfl) (pgs_cons (pg_name (i := 2) sc_Ratio___add__.nd rfl (Or.inl rfl)) (pgs_cons (pg_name (i := 3) sc_Ratio___add__.nd rfl (Or.inl rfl)) pgs_nil)))) (pss_one (ps_ret (pe_fn C_ratio (hr.mono (by decide)) (by rfl) (pa_cons (pe_op op_add (pe_op op_mulW (e_fld (K := K) (pv 0)) (pv 3)) (pe_op op_mulW (pv 2) (e_fld (K := K) (pv 0)))) (pa_cons (pe_op op_mulW (e_fld (K := K) (pv 0)) (pv 3)) pa_nil)))))), ?_⟩
    have b1 := okI_nat fp.t
    have b2 := okI_nat fp.b
    have b3 := okI_nat fq.t
    have b4 := okI_nat fq.b
    walk_at "yy"
    refine ⟨v, q, rfl, ho, fq.t, fun a H1 na ea s1 => ?_⟩
    walk_at "yy"
    refine y_gtup rfl (sqt ea) rfl ?_
    walk_at "yy"
    refine ⟨_, C, _, _, _, rfl, (hx.same s1).choose_spec, T.cls, T.nT, rf_t _, ?_⟩
    walk_at "yy"
    refine y_I (mulW (up_lt b1 (by decide)) (up_lt b4 (by decide))) ?_
    walk_at "yy"
    refine ⟨_, C, _, _, _, rfl, (hx.same s1).choose_spec, T.cls, T.nB, rf_b _, ?_⟩
    walk_at "yy"
    refine y_I (mulW (up_lt b3 (by decide)) (up_lt b2 (by decide))) ?_
    walk_at "yy"
    refine ⟨_, C, _, _, _, rfl, (hx.same s1).choose_spec, T.cls, T.nB, rf_b _, ?_⟩
    walk_at "yy"
    refine y_I (mulW (up_lt b2 (by decide)) (up_lt b4 (by decide))) ?_
    walk_at "yy"
    refine ⟨_, _, rfl, ?_, up_lt (add_lt (mul_lt b1 b4) (mul_lt b3 b2)) (by decide), up_lt (mul_lt b2 b4) (by decide), h1, h2, fun z H2 nz hz s2 => k z H2 (Same.free s1 nz) hz (s1.trans s2)⟩
    exact Int.ne_of_gt (Int.mul_pos fp.l.1 fq.l.1)
theorem sc_Ratio___neg__ : FnScope ["self"] ["self"] (defScope s_Ratio___neg__) := ⟨rfl, rfl, rfl, by decide +kernel, rfl, by decide +kernel, by decide +kernel⟩
-- 0 self
theorem ok_Ratio___neg__ {f : Addr} {fd : FuncData} (F : FunD K "__neg__" "Ratio.__neg__" (defArgs s_Ratio___neg__) (defBody s_Ratio___neg__) (defScope s_Ratio___neg__) [] [] f fd) (B : Blt mg) (Z : Con mg) {C : Addr} (T : RatioC K mg C) (C_ratio : Cal P w K mg base 4 "_ratio" ["top", "bottom"] (spRatio C)) : FnOk P w K mg base CX0 5 f fd ["self"] (spNeg C) := by
  refine F.ok sc_Ratio___neg__ (fun vs H Q E h => ?_) (fun cdv A outer s H vs Q E hr h => ?_)
  · obtain ⟨x, p, rfl, _⟩ := h
    rfl
  · obtain ⟨x, p, rfl, hx, fp, k⟩ := h
    refine ⟨_, PSs.nox (pss_one (ps_ret (pe_fn C_ratio (hr.mono (by decide)) (by rfl) (pa_cons (pe_un un_neg (e_fld (K := K) (pv 0))) (pa_cons (e_fld (K := K) (pv 0)) pa_nil))))), ?_⟩
    have b1 := okI_nat fp.t
    have b2 := okI_nat fp.b
    have e : low (-p.1) p.2 = negP p := low_fix (p := (-p.1, p.2)) ⟨fp.l.1, by show Nat.gcd (-p.1).natAbs p.2.natAbs = 1; rw [Int.natAbs_neg]; exact fp.l.2⟩
    have e1 : lowT (-p.1) p.2 = -p.1 := congrArg Prod.fst e
    have e2 : lowB (-p.1) p.2 = p.2 := congrArg Prod.snd e
    walk_at "yy"
    refine ⟨_, C, _, _, _, rfl, hx.choose_spec, T.cls, T.nT, rf_t _, ?_⟩
    walk_at "yy"
    refine ⟨_, C, _, _, _, rfl, hx.choose_spec, T.cls, T.nB, rf_b _, ?_⟩
    walk_at "yy"
    refine ⟨_, _, rfl, Int.ne_of_gt fp.l.1, by rw [Int.natAbs_neg]; exact up_lt b1 (by decide), up_lt b2 (by decide), ?_, ?_, ?_⟩
    · rw [e1]
      exact okI_mono fp.t (by rw [Int.natAbs_neg]; exact Nat.le_refl _)
    · rw [e2]
      exact fp.b
    · rw [e]
      exact k
theorem sc_Ratio___eq__ : FnScope ["self", "other"] ["self", "other"] (defScope s_Ratio___eq__) := ⟨rfl, rfl, rfl, by decide +kernel, rfl, by decide +kernel, by decide +kernel⟩
-- 0 self, 1 other
theorem ok_Ratio___eq__ {f : Addr} {fd : FuncData} (F : FunD K "__eq__" "Ratio.__eq__" (defArgs s_Ratio___eq__) (defBody s_Ratio___eq__) (defScope s_Ratio___eq__) [] [] f fd) (B : Blt mg) (Z : Con mg) {C : Addr} (T : RatioC K mg C) : FnOk P w K mg base CX0 1 f fd ["self", "other"] (spEqR C) := by
  refine F.ok sc_Ratio___eq__ (fun vs H Q E h => ?_) (fun cdv A outer s H vs Q E hr h => ?_)
  · obtain ⟨x, y, p, q, rfl, _⟩ := h
    rfl
  · obtain ⟨x, y, p, q, rfl, hx, hy, k⟩ := h
    refine ⟨_, PSs.nox (pss_one (ps_ret (pe_and (pe_callB (c_isi (K := K)) (by rfl) B.n_isinstance (by decide +kernel) (pa_cons (pv 1) (pa_cons (pe_glob (v := .ref C) (by rfl) T.g rfl) pa_nil))) (pe_and (pe_cmpR op_eq (e_fld (K := K) (pv 0)) (e_fld (K := K) (pv 1)) (nomark _)) (pe_one (pe_cmpR op_eq (e_fld (K := K) (pv 0)) (e_fld (K := K) (pv 1)) (nomark _))))))), ?_⟩
    walk_at "yy"
    refine y_isC (k := true) (T.ty hy) kit_self ?_
    walk_at "yy"
    walk_at "yt"
    walk_at "yy"
    refine ⟨_, C, _, _, _, rfl, hx.choose_spec, T.cls, T.nT, rf_t _, ?_⟩
    walk_at "yy"
    refine ⟨_, C, _, _, _, rfl, hy.choose_spec, T.cls, T.nT, rf_t _, ?_⟩
    walk_at "yy"
    refine y_ite (fun h => ?_) (fun h => ?_)
    · walk_at "yy"
      refine ⟨_, C, _, _, _, rfl, hx.choose_spec, T.cls, T.nB, rf_b _, ?_⟩
      walk_at "yy"
      refine ⟨_, C, _, _, _, rfl, hy.choose_spec, T.cls, T.nB, rf_b _, ?_⟩
      walk_at "yy"
      have e : decide (p = q) = decide (p.2 = q.2) := by
        rw [decide_eq_decide]
        exact ⟨fun z => by rw [z], fun z => Prod.ext (of_decide_eq_true h) z⟩
      rw [← e]
      exact k
    · have e : decide (p = q) = false := decide_eq_false fun z => of_decide_eq_false h (by rw [z])
      rw [← e]
      exact k
theorem sc_Ratio_is_below : FnScope ["self", "other", "top", "bottom"] ["self", "other"] (defScope s_Ratio_is_below) := ⟨rfl, rfl, rfl, by decide +kernel, rfl, by decide +kernel, by decide +kernel⟩
-- 0 self, 1 other, 2 top, 3 bottom
theorem ok_Ratio_is_below {f : Addr} {fd : FuncData} (F : FunD K "is_below" "Ratio.is_below" (defArgs s_Ratio_is_below) (defBody s_Ratio_is_below) (defScope s_Ratio_is_below) [] [] f fd) (B : Blt mg) (Z : Con mg) {C : Addr} (T : RatioC K mg C) (C_operand : Cal P w K mg base 3 "_operand" ["value"] (spOper C)) : FnOk P w K mg base CX0 4 f fd ["self", "other"] (spBelow C) := by
  refine F.ok sc_Ratio_is_below (fun vs H Q E h => ?_) (fun cdv A outer s H vs Q E hr h => ?_)
  · obtain ⟨x, v, p, q, rfl, _⟩ := h
    rfl
  · obtain ⟨x, v, p, q, rfl, hx, fp, ho, fq, k⟩ := h
    refine ⟨_, PSs.nox (pss_cons (ps_asg (pe_fn C_operand (hr.mono (by decide)) (by rfl) (pa_cons (pv 1) pa_nil)) (g_tup (K := K) (n := 2) (by rfl) (pgs_cons (pg_name (i := 2) sc_Ratio_is_below.nd rfl (Or.inl rfl)) (pgs_cons (pg_name (i := 3) sc_Ratio_is_below.nd rfl (Or.inl rfl)) pgs_nil)))) (pss_one (ps_ret (pe_cmpR op_lt (pe_op op_mulW (e_fld (K := K) (pv 0)) (pv 3)) (pe_op op_mulW (pv 2) (e_fld (K := K) (pv 0))) (nomark _))))), ?_⟩
    have b1 := okI_nat fp.t
    have b2 := okI_nat fp.b
    have b3 := okI_nat fq.t
    have b4 := okI_nat fq.b
    walk_at "yy"
    refine ⟨v, q, rfl, ho, fq.t, fun a H1 na ea s1 => ?_⟩
    walk_at "yy"
    refine y_gtup rfl (sqt ea) rfl ?_
    walk_at "yy"
    refine ⟨_, C, _, _, _, rfl, (hx.same s1).choose_spec, T.cls, T.nT, rf_t _, ?_⟩
    walk_at "yy"
    refine y_I (mulW (up_lt b1 (by decide)) (up_lt b4 (by decide))) ?_
    walk_at "yy"
    refine ⟨_, C, _, _, _, rfl, (hx.same s1).choose_spec, T.cls, T.nB, rf_b _, ?_⟩
    walk_at "yy"
    refine y_I (mulW (up_lt b3 (by decide)) (up_lt b2 (by decide))) ?_
    walk_at "yy"
    exact k H1 s1
theorem sc_Ratio_of : FnScope ["cls", "pair"] ["cls", "pair"] (defScope s_Ratio_of) := ⟨rfl, rfl, rfl, by decide +kernel, rfl, by decide +kernel, by decide +kernel⟩
-- 0 cls, 1 pair
theorem ok_Ratio_of {f : Addr} {fd : FuncData} (F : FunD K "of" "Ratio.of" (defArgs s_Ratio_of) (defBody s_Ratio_of) (defScope s_Ratio_of) [] [] f fd) (B : Blt mg) (Z : Con mg) {C : Addr} (T : RatioC K mg C) (C_is_fraction : Cal P w K mg base 2 "is_fraction" ["value"] (spIsFrac K)) (C_Ratio_2 : Mkr P w K mg base 2 "Ratio" C (spInit C) []) : FnOk P w K mg base CX0 4 f fd ["cls", "pair"] (spOf C) := by
  refine F.ok sc_Ratio_of (fun vs H Q E h => ?_) (fun cdv A outer s H vs Q E hr h => ?_)
  · obtain ⟨a, p, rfl, _⟩ := h
    rfl
  · obtain ⟨a, p, rfl, ha, fp, k⟩ := h
    refine ⟨_, PSs.nox (pss_cons (ps_if (pt_not (pt_val (pe_fn C_is_fraction (hr.mono (by decide)) (by rfl) (pa_cons (pv 1) pa_nil)))) (pss_one ps_never) pss_nil) (pss_one (ps_ret (e_mkl (i := 0) C_Ratio_2 (hr.mono (by decide)) rfl (by first | exact Or.inl rfl | exact Or.inr (Or.inl rfl)) (pa_cons (pe_ix (x_tup (K := K)) (pv 1) pe_int (fun _ _ => rfl)) (pa_cons (pe_ix (x_tup (K := K)) (pv 1) pe_int (fun _ _ => rfl)) pa_nil)))))), ?_⟩
    have e : fracB p = true := by
      unfold fracB
      rw [fp.t, fp.b, decide_eq_true (show 1 ≤ p.2 from fp.l.1), decide_eq_true fp.l.2]
      rfl
    walk_at "yy"
    refine ⟨a, p, rfl, ha, ?_⟩
    rw [e]
    walk_at "yy"
    walk_at "yf"
    walk_at "yy"
    refine y_mkl rfl ?_
    walk_at "yy"
    refine y_ixT (sqt ha) rfl ?_
    walk_at "yy"
    refine y_ixT (sqt ha) rfl ?_
    walk_at "yy"
    refine fun x dx nx ndx nxd => ?_
    refine ⟨x, dx, _, _, rfl, upd_same, fp.t, fp.b, Int.ne_of_gt fp.l.1, fun H2 hR fr => ⟨rfl, ?_⟩⟩
    refine k x H2 nx ?_ fun c o e1 => ?_
    · rw [← low_fix fp.l]
      exact hR
    · have n1 : c ≠ x := ne_of_none e1 nx
      have n2 : c ≠ dx := ne_of_none e1 ndx
      exact fr c o (by rw [upd_ne n1, upd_ne n2]; exact e1) n1
theorem sc_law_dice : FnScope ["_law_script", "_law_spot", "_law_cell", "_law_great", "_law_blend"] ["_law_script", "_law_spot"] (defScope s_law_dice) := ⟨rfl, rfl, rfl, by decide +kernel, rfl, by decide +kernel, by decide +kernel⟩
-- 0 _law_script, 1 _law_spot, 2 _law_cell, 3 _law_great, 4 _law_blend
theorem ok_law_dice {f : Addr} {fd : FuncData} (F : FunD K "_law_dice" "_law_dice" (defArgs s_law_dice) (defBody s_law_dice) (defScope s_law_dice) [] [] f fd) (B : Blt mg) (Z : Con mg) {C : Addr} (T : RatioC K mg C) : FnOk P w K mg base CX0 1 f fd ["_law_script", "_law_spot"] (spDice K) := by
  refine F.ok sc_law_dice (fun vs H Q E h => ?_) (fun cdv A outer s H vs Q E hr h => ?_)
  · obtain ⟨a, i, ns, rfl, _⟩ := h
    rfl
  · obtain ⟨a, i, ns, rfl, hS, h0, h1, k⟩ := h
    refine ⟨_, PSs.nox (pss_cons (ps_set (i := 2) sc_law_dice.nd rfl (Or.inl rfl) (pe_op op_add (pe_op op_mul pe_int (pv 1)) pe_int)) (pss_cons (ps_if (pt_cmpR op_lt (pv 1) (pe_callB (c_lenQ (K := K)) (by rfl) B.n_len (by decide +kernel) (pa_cons (pv 0) pa_nil)) (nomark _)) (pss_one (ps_set (i := 2) sc_law_dice.nd rfl (Or.inl rfl) (pe_ix (x_list (K := K)) (pv 0) (pv 1) (fun _ _ => rfl)))) pss_nil) (pss_cons (ps_set (i := 3) sc_law_dice.nd rfl (Or.inl rfl) (pe_op op_mod (pe_callTy c_int (by rfl) B.n_int (by decide +kernel) (pa_cons (pe_callB c_abs (by rfl) B.n_abs (by decide +kernel) (pa_cons (pv 2) pa_nil)) pa_nil)) (pe_op op_powW (pe_op op_powW pe_int pe_int) pe_int))) (pss_cons (ps_set (i := 4) sc_law_dice.nd rfl (Or.inl rfl) (pe_op op_add (pe_op op_add (pe_op op_add (pe_op op_mul (pe_op op_mod (pe_callTy c_int (by rfl) B.n_int (by decide +kernel) (pa_cons (pv 3) pa_nil)) pe_int) pe_int) (pe_op op_mul pe_int (pv 1))) (pe_op op_mul pe_int (pe_callTy c_int (by rfl) B.n_int (by decide +kernel) (pa_cons (pe_cmpR op_lt (pv 2) pe_int (nomark _)) pa_nil)))) pe_int)) (pss_one (ps_ret (pe_lst (pa_cons (pe_callB (c_max2 rfl) (by rfl) B.n_max (by decide +kernel) (pa_cons pe_int (pa_cons (pe_op op_sub (pv 3) (pe_op op_powW pe_int pe_int)) pa_nil))) (pa_cons (pe_op op_mod (pe_callTy c_int (by rfl) B.n_int (by decide +kernel) (pa_cons (pv 4) pa_nil)) pe_int) (pa_cons pe_int pa_nil)))))))))), ?_⟩
    walk_at "yy"
    walk_at "yi"
    walk_at "yy"
    refine y_lenL hS ?_
    walk_at "yy"
    -- if spot < len(script): cell = script[spot]; both ways come together
    refine y_join (fun cell : Int => [some (.ref a), some (.int i), some (.int cell), none, none]) (71 * i + 29) rfl (fun cell => ?_) (fun hk J => ?_)
    · walk_at "yy"
      walk_at "yi"
      walk_at "yy"
      walk_at "yi"
      walk_at "yy"
      walk_at "yi"
      walk_at "yy"
      generalize ((cell.natAbs : Int) % _) = great
      walk_at "yy"
      walk_at "yi"
      walk_at "yy"
      walk_at "yi"
      walk_at "yy"
      walk_at "yi"
      walk_at "yy"
      walk_at "yi"
      walk_at "yy"
      generalize (great % 2305843009213693613 * 1000427 + 8111 * i + 59 * _ + 31) = blend
      walk_at "yy"
      walk_at "yi"
      walk_at "yy"
      walk_at "yi"
      walk_at "yy"
      exact ⟨by show 3 ≤ sizeLine; decide, fun p hp => k p _ hp ⟨_, _, _, upd_same⟩ (same_new hp)⟩
    · have hk := of_decide_eq_true hk
      rw [List.length_map] at hk
      have hn : i.toNat < ns.length := by omega
      walk_at "yy"
      refine y_ixL hS (at_nat h0 (v := .int ns[i.toNat]) (by simp [hn])) ?_
      exact J _
theorem sc_law_roll : FnScope ["_law_dice_here", "_law_total", "_law_found", "_law_one", "_law_two"] ["_law_dice_here", "_law_total"] (defScope s_law_roll) := ⟨rfl, rfl, rfl, by decide +kernel, rfl, by decide +kernel, by decide +kernel⟩
-- 0 _law_dice_here, 1 _law_total, 2 _law_found, 3 _law_one, 4 _law_two
theorem ok_law_roll {f : Addr} {fd : FuncData} (F : FunD K "_law_roll" "_law_roll" (defArgs s_law_roll) (defBody s_law_roll) (defScope s_law_roll) [] [] f fd) (B : Blt mg) (Z : Con mg) {C : Addr} (T : RatioC K mg C) : FnOk P w K mg base CX0 1 f fd ["_law_dice_here", "_law_total"] spRoll := by
  refine F.ok sc_law_roll (fun vs H Q E h => ?_) (fun cdv A outer s H vs Q E hr h => ?_)
  · obtain ⟨d, t, rfl, _⟩ := h
    rfl
  · obtain ⟨d, t, rfl, ⟨g, e, c, hd⟩, h0, h1, k⟩ := h
    refine ⟨_, PSs.nox (pss_cons (ps_if (pt_cmpR op_gt (pe_ix (x_list (K := K)) (pv 0) pe_int (fun _ _ => rfl)) pe_int (nomark _)) (pss_cons (ps_set (i := 2) sc_law_roll.nd rfl (Or.inl rfl) (pe_op op_mod (pe_callTy c_int (by rfl) B.n_int (by decide +kernel) (pa_cons (pe_ix (x_list (K := K)) (pv 0) pe_int (fun _ _ => rfl)) pa_nil)) (pv 1))) (pss_cons (ps_asg (pe_op op_fdivW (pe_ix (x_list (K := K)) (pv 0) pe_int (fun _ _ => rfl)) (pv 1)) (pg_sub (pv 0) pe_int set_list)) (pss_one (ps_ret (pv 2))))) pss_nil) (pss_cons (ps_asg (pe_op op_add (pe_ix (x_list (K := K)) (pv 0) pe_int (fun _ _ => rfl)) pe_int) (pg_sub (pv 0) pe_int set_list)) (pss_cons (ps_set (i := 3) sc_law_roll.nd rfl (Or.inl rfl) (pe_op op_mod (pe_callTy c_int (by rfl) B.n_int (by decide +kernel) (pa_cons (pe_op op_add (pe_ix (x_list (K := K)) (pv 0) pe_int (fun _ _ => rfl)) (pe_op op_mul pe_int (pe_ix (x_list (K := K)) (pv 0) pe_int (fun _ _ => rfl)))) pa_nil)) pe_int)) (pss_cons (ps_set (i := 4) sc_law_roll.nd rfl (Or.inl rfl) (pe_op op_add (pe_op op_mul (pe_op op_mod (pe_callTy c_int (by rfl) B.n_int (by decide +kernel) (pa_cons (pe_op op_mul (pv 3) (pv 3)) pa_nil)) pe_int) (pv 3)) (pe_op op_mul pe_int (pe_ix (x_list (K := K)) (pv 0) pe_int (fun _ _ => rfl))))) (pss_cons (ps_set (i := 4) sc_law_roll.nd rfl (Or.inl rfl) (pe_op op_mod (pe_callTy c_int (by rfl) B.n_int (by decide +kernel) (pa_cons (pv 4) pa_nil)) pe_int)) (pss_one (ps_ret (pe_op op_mod (pe_callTy c_int (by rfl) B.n_int (by decide +kernel) (pa_cons (pe_op op_fdivW (pv 4) pe_int) pa_nil)) (pv 1))))))))), ?_⟩
    have hdv : ∀ i : Int, CDivW i t := fun i => big_div h0 h1
    walk_at "yy"
    refine y_ixL (sql hd) rfl ?_
    walk_at "yy"
    refine y_ite (fun hk => ?_) (fun hk => ?_)
    · walk_at "yy"
      refine y_ixL (sql hd) rfl ?_
      walk_at "yy"
      walk_at "yi"
      walk_at "yy"
      refine y_ixL (sql hd) rfl ?_
      walk_at "yy"
      refine y_I (hdv _) ?_
      walk_at "yy"
      refine y_setL hd rfl ?_
      walk_at "yy"
      exact k _ _ (Int.emod_nonneg _ (by omega)) (Int.emod_lt_of_pos _ h0) ⟨_, _, _, upd_same⟩ Fr.self
    · walk_at "yy"
      refine y_ixL (sql hd) rfl ?_
      walk_at "yy"
      refine y_setL hd rfl ?_
      walk_at "yy"
      refine y_ixL (sql upd_same) rfl ?_
      walk_at "yy"
      refine y_ixL (sql upd_same) rfl ?_
      walk_at "yy"
      walk_at "yi"
      walk_at "yy"
      walk_at "yi"
      walk_at "yy"
      generalize e1 : (e + 998244289 * (c + 1)) % 2305843009213693951 = one
      have b0 : 0 ≤ one := by omega
      have b1 : one < 2305843009213693951 := by omega
      clear e1
      walk_at "yy"
      walk_at "yi"
      walk_at "yy"
      walk_at "yi"
      walk_at "yy"
      generalize e2 : one * one % 2305843009213693883 = sq
      have b2 : 0 ≤ sq := by omega
      have b3 : sq < 2305843009213693883 := by omega
      clear e2
      walk_at "yi"
      walk_at "yy"
      refine y_ixL (sql upd_same) rfl ?_
      walk_at "yy"
      walk_at "yi"
      walk_at "yy"
      walk_at "yi"
      walk_at "yy"
      refine y_I (big_div (by decide) (by decide)) ?_
      walk_at "yy"
      refine y_I (show (0 : Int) < t from h0) ?_
      exact k _ _ (Int.emod_nonneg _ (by omega)) (Int.emod_lt_of_pos _ h0) ⟨_, _, _, upd_same⟩ Fr.self
theorem sc_law_pick : FnScope ["_law_dice_here", "_law_items"] ["_law_dice_here", "_law_items"] (defScope s_law_pick) := ⟨rfl, rfl, rfl, by decide +kernel, rfl, by decide +kernel, by decide +kernel⟩
-- 0 _law_dice_here, 1 _law_items
theorem ok_law_pick {f : Addr} {fd : FuncData} (F : FunD K "_law_pick" "_law_pick" (defArgs s_law_pick) (defBody s_law_pick) (defScope s_law_pick) [] [] f fd) (B : Blt mg) (Z : Con mg) {C : Addr} (T : RatioC K mg C) (C_law_roll : Cal P w K mg base 1 "_law_roll" ["_law_dice_here", "_law_total"] spRoll) : FnOk P w K mg base CX0 2 f fd ["_law_dice_here", "_law_items"] (spPick K) := by
  refine F.ok sc_law_pick (fun vs H Q E h => ?_) (fun cdv A outer s H vs Q E hr h => ?_)
  · obtain ⟨d, l, ys, rfl, _⟩ := h
    rfl
  · obtain ⟨d, l, ys, rfl, hD, hl, nl, h0, h1, k⟩ := h
    refine ⟨_, PSs.nox (pss_one (ps_ret (pe_ix (x_list (K := K)) (pv 1) (pe_fn C_law_roll (hr.mono (by decide)) (by rfl) (pa_cons (pv 0) (pa_cons (pe_callB (c_lenQ (K := K)) (by rfl) B.n_len (by decide +kernel) (pa_cons (pv 1) pa_nil)) pa_nil))) (fun _ _ => rfl)))), ?_⟩
    walk_at "yy"
    refine y_lenL hl ?_
    walk_at "yy"
    refine ⟨d, _, rfl, hD, by omega, ?_, fun n H' n0 n1 hD' f => ?_⟩
    · have : (2 : Nat) ^ 4000 > 100000 := by decide +kernel
      omega
    obtain ⟨v, e, m⟩ := getD_at n0 n1
    exact y_ixL (f.lst nl hl) (at_nat n0 e) (k v H' m hD' f)
theorem sc_law_ratio : FnScope ["_law_top", "_law_bottom", "_law_one", "_law_other", "_law_sign"] ["_law_top", "_law_bottom"] (defScope s_law_ratio) := ⟨rfl, rfl, rfl, by decide +kernel, rfl, by decide +kernel, by decide +kernel⟩
-- 0 _law_top, 1 _law_bottom, 2 _law_one, 3 _law_other, 4 _law_sign
theorem ok_law_ratio {f : Addr} {fd : FuncData} (F : FunD K "_law_ratio" "_law_ratio" (defArgs s_law_ratio) (defBody s_law_ratio) (defScope s_law_ratio) [] [] f fd) (B : Blt mg) (Z : Con mg) {C : Addr} (T : RatioC K mg C) : FnOk P w K mg base CX0 1 f fd ["_law_top", "_law_bottom"] spLRatio := by
  refine F.ok sc_law_ratio (fun vs H Q E h => ?_) (fun cdv A outer s H vs Q E hr h => ?_)
  · obtain ⟨t, b, rfl, _⟩ := h
    rfl
  · obtain ⟨t, b, rfl, h0, ht, hb, k⟩ := h
    refine ⟨_, PSs.nox (pss_cons (ps_par (i := 2) (j := 3) (by rfl) sc_law_ratio.nd rfl rfl (by decide) rfl rfl (pa_cons (pe_callB c_abs (by rfl) B.n_abs (by decide +kernel) (pa_cons (pv 0) pa_nil)) (pa_cons (pe_callB c_abs (by rfl) B.n_abs (by decide +kernel) (pa_cons (pv 1) pa_nil)) pa_nil)) (by rfl)) (pss_cons (ps_while PassesOwn.never (pt_cmpR op_gt (pv 3) pe_int (nomark _)) (pss_one (ps_par (i := 2) (j := 3) (by rfl) sc_law_ratio.nd rfl rfl (by decide) rfl rfl (pa_cons (pv 3) (pa_cons (pe_op op_mod (pv 2) (pv 3)) pa_nil)) (by rfl)))) (pss_cons (ps_set (i := 4) sc_law_ratio.nd rfl (Or.inl rfl) (pe_ifExp (pt_cmpR op_lt (pv 1) pe_int (nomark _)) (pe_un un_neg pe_int) pe_int)) (pss_one (ps_ret (pe_tup (pa_cons (pe_op op_fdivW (pe_op op_mul (pv 4) (pv 0)) (pv 2)) (pa_cons (pe_op op_fdivW (pe_op op_mul (pv 4) (pv 1)) (pv 2)) pa_nil)))))))), ?_⟩
    have hg := gI_pos (t := t) h0
    have hl := gI_le (t := t) h0
    have hd : ∀ i : Int, CDivW i (gI t b) := fun i => big_div hg (Nat.lt_of_le_of_lt hl hb)
    walk_at "yy"
    refine y_while ⟨fun m σ H' => ∃ u v : Nat, σ = [some (.int t), some (.int b), some (.int (u : Int)), some (.int (v : Int)), none] ∧ Nat.gcd u v = Nat.gcd t.natAbs b.natAbs ∧ m = v ∧ H' = H, ⟨_, t.natAbs, b.natAbs, rfl, rfl, rfl, rfl⟩, ?_⟩
    rintro m σ H' ⟨u, v, rfl, eg, em, rfl⟩
    walk_at "yy"
    refine y_ite (fun h => ?_) (fun h => ?_)
    · have h := of_decide_eq_true h
      have hv : 0 < v := by omega
      refine ⟨fun σ' H2 => ∃ v' : Nat, σ' = [some (.int t), some (.int b), some (.int (v : Int)), some (.int (v' : Int)), none] ∧ Nat.gcd v v' = Nat.gcd t.natAbs b.natAbs ∧ v' < v ∧ H2 = H', fun σ' H2 ⟨v', e, g, l, eH⟩ => ⟨v', by omega, v, v', e, g, rfl, eH⟩, ?_⟩
      walk_at "yy"
      refine y_I (show (0 : Int) < (v : Int) by omega) ?_
      walk_at "yy"
      refine ⟨_, _, rfl, u % v, rfl, ?_, Nat.mod_lt _ hv, rfl⟩
      rw [← eg, Nat.gcd_comm u v, Nat.gcd_rec v u, Nat.gcd_comm]
    · have h := of_decide_eq_false h
      have hv : v = 0 := by omega
      subst hv
      rw [Nat.gcd_zero_right] at eg
      subst eg
      have fin : ∀ sg : Int, sg = (if b < 0 then -1 else 1) → (-(2 ^ 64) < sg ∧ sg < 2 ^ 64) → ∀ (p : Addr) (H2 : Hp), H' p = none → H2 = upd H' p (.tup [.int ((sg * t) / gI t b), .int ((sg * b) / gI t b)]) → Q (.ref p) H2 := fun sg es _ p H2 hp e => by
        subst es
        refine k p H2 hp ?_ (by rw [e]; exact same_new hp)
        rw [e, upd_same, lowT_eq h0, lowB_eq h0]
        rfl
      walk_at "yy"
      refine y_ite (fun hn => ?_) (fun hn => ?_)
      · have hn := of_decide_eq_true hn
        walk_at "yy"
        walk_at "yi"
        walk_at "yy"
        refine y_I (hd _) ?_
        walk_at "yy"
        walk_at "yi"
        walk_at "yy"
        refine y_I (hd _) ?_
        walk_at "yy"
        exact ⟨by show 2 ≤ sizeLine; decide, fun p hp => fin (-1) (by rw [if_pos hn]) (by decide) p _ hp rfl⟩
      · have hn := of_decide_eq_false hn
        walk_at "yy"
        walk_at "yi"
        walk_at "yy"
        refine y_I (hd _) ?_
        walk_at "yy"
        walk_at "yi"
        walk_at "yy"
        refine y_I (hd _) ?_
        walk_at "yy"
        exact ⟨by show 2 ≤ sizeLine; decide, fun p hp => fin 1 (by rw [if_neg hn]) (by decide) p _ hp rfl⟩
theorem sc_law_plus : FnScope ["_law_one", "_law_other"] ["_law_one", "_law_other"] (defScope s_law_plus) := ⟨rfl, rfl, rfl, by decide +kernel, rfl, by decide +kernel, by decide +kernel⟩
-- 0 _law_one, 1 _law_other
theorem ok_law_plus {f : Addr} {fd : FuncData} (F : FunD K "_law_plus" "_law_plus" (defArgs s_law_plus) (defBody s_law_plus) (defScope s_law_plus) [] [] f fd) (B : Blt mg) (Z : Con mg) {C : Addr} (T : RatioC K mg C) (C_law_ratio : Cal P w K mg base 1 "_law_ratio" ["_law_top", "_law_bottom"] spLRatio) : FnOk P w K mg base CX0 2 f fd ["_law_one", "_law_other"] (spLPlus K) := by
  refine F.ok sc_law_plus (fun vs H Q E h => ?_) (fun cdv A outer s H vs Q E hr h => ?_)
  · obtain ⟨a, b, p, q, rfl, _⟩ := h
    rfl
  · obtain ⟨a, b, p, q, rfl, ha, hb, fp, fq, k⟩ := h
    refine ⟨_, PSs.nox (pss_one (ps_ret (pe_fn C_law_ratio (hr.mono (by decide)) (by rfl) (pa_cons (pe_op op_add (pe_op op_mulW (pe_ix (x_tup (K := K)) (pv 0) pe_int (fun _ _ => rfl)) (pe_ix (x_tup (K := K)) (pv 1) pe_int (fun _ _ => rfl))) (pe_op op_mulW (pe_ix (x_tup (K := K)) (pv 1) pe_int (fun _ _ => rfl)) (pe_ix (x_tup (K := K)) (pv 0) pe_int (fun _ _ => rfl)))) (pa_cons (pe_op op_mulW (pe_ix (x_tup (K := K)) (pv 0) pe_int (fun _ _ => rfl)) (pe_ix (x_tup (K := K)) (pv 1) pe_int (fun _ _ => rfl))) pa_nil))))), ?_⟩
    have b1 := okI_nat fp.t
    have b2 := okI_nat fp.b
    have b3 := okI_nat fq.t
    have b4 := okI_nat fq.b
    walk_at "yy"
    refine y_ixT ha rfl ?_
    walk_at "yy"
    refine y_ixT hb rfl ?_
    refine y_I (mulW (up_lt b1 (by decide)) (up_lt b4 (by decide))) ?_
    walk_at "yy"
    refine y_ixT hb rfl ?_
    walk_at "yy"
    refine y_ixT ha rfl ?_
    refine y_I (mulW (up_lt b3 (by decide)) (up_lt b2 (by decide))) ?_
    walk_at "yy"
    refine y_ixT ha rfl ?_
    walk_at "yy"
    refine y_ixT hb rfl ?_
    refine y_I (mulW (up_lt b2 (by decide)) (up_lt b4 (by decide))) ?_
    walk_at "yy"
    exact ⟨_, _, rfl, Int.ne_of_gt (Int.mul_pos fp.l.1 fq.l.1), up_lt (add_lt (mul_lt b1 b4) (mul_lt b3 b2)) (by decide), up_lt (mul_lt b2 b4) (by decide), k⟩
theorem sc_law_fraction : FnScope ["_law_dice_here"] ["_law_dice_here"] (defScope s_law_fraction) := ⟨rfl, rfl, rfl, by decide +kernel, rfl, by decide +kernel, by decide +kernel⟩
-- 0 _law_dice_here
theorem ok_law_fraction {f : Addr} {fd : FuncData} (F : FunD K "_law_fraction" "_law_fraction" (defArgs s_law_fraction) (defBody s_law_fraction) (defScope s_law_fraction) [] [] f fd) (B : Blt mg) (Z : Con mg) {C : Addr} (T : RatioC K mg C) (C_law_roll : Cal P w K mg base 1 "_law_roll" ["_law_dice_here", "_law_total"] spRoll) (C_law_pick : Cal P w K mg base 2 "_law_pick" ["_law_dice_here", "_law_items"] (spPick K)) (C_law_ratio : Cal P w K mg base 1 "_law_ratio" ["_law_top", "_law_bottom"] spLRatio) : FnOk P w K mg base CX0 3 f fd ["_law_dice_here"] spLFrac := by
  refine F.ok sc_law_fraction (fun vs H Q E h => ?_) (fun cdv A outer s H vs Q E hr h => ?_)
  · obtain ⟨d, rfl, _⟩ := h
    rfl
  · obtain ⟨d, rfl, hD, k⟩ := h
    refine ⟨_, PSs.nox (pss_one (ps_ret (pe_fn C_law_ratio (hr.mono (by decide)) (by rfl) (pa_cons (pe_op op_sub (pe_fn C_law_roll (hr.mono (by decide)) (by rfl) (pa_cons (pv 0) (pa_cons pe_int pa_nil))) pe_int) (pa_cons (pe_fn C_law_pick (hr.mono (by decide)) (by rfl) (pa_cons (pv 0) (pa_cons (pe_lst (pa_cons pe_int (pa_cons pe_int (pa_cons pe_int (pa_cons pe_int (pa_cons pe_int (pa_cons pe_int (pa_cons pe_int pa_nil)))))))) pa_nil))) pa_nil))))), ?_⟩
    walk_at "yy"
    refine ⟨d, 13, rfl, hD, by decide, big_of (by decide), fun n H1 m0 m1 hD1 f1 => ?_⟩
    walk_at "yy"
    refine ⟨by show 7 ≤ sizeLine; decide, fun p np => ?_⟩
    walk_at "yy"
    refine ⟨d, p, _, rfl, hD1.new np, sql upd_same, hD1.ne np, by show 0 < 7; decide, by show 7 ≤ 100000; decide, fun v H2 mv hD2 f2 => ?_⟩
    obtain ⟨b, rfl, hb⟩ : ∃ b : Int, v = .int b ∧ b ∈ [1, 2, 3, 4, 5, (6 : Int)] := by
      simp only [List.mem_cons, List.not_mem_nil, or_false] at mv
      rcases mv with rfl | rfl | rfl | rfl | rfl | rfl | rfl <;> exact ⟨_, rfl, by decide⟩
    have hb2 : 1 ≤ b ∧ b ≤ 6 := by
      simp only [List.mem_cons, List.not_mem_nil, or_false] at hb
      omega
    walk_at "yy"
    have f02 : Fr d H H2 := f1.trans ((Fr.new np).trans f2)
    refine ⟨n - 6, b, rfl, by omega, big_of (by omega), big_of (by omega), fun a H3 na ea s3 => ?_⟩
    exact k _ a H3 (fracs_mem (by omega) (by omega) hb) (free_fr f02 na (hD2.ne na)) ea (hD2.same s3) (f02.trans (Fr.of_same s3))
theorem sc_simplest_above_zero : FnScope ["low", "high", "low_top", "low_bottom", "high_top", "high_bottom", "steps", "whole", "top", "bottom", "step"] ["low", "high"] (defScope s_simplest_above_zero) := ⟨rfl, rfl, rfl, by decide +kernel, rfl, by decide +kernel, by decide +kernel⟩
-- 0 low, 1 high, 2 low_top, 3 low_bottom, 4 high_top, 5 high_bottom, 6 steps, 7 whole, 8 top, 9 bottom, 10 step
theorem ok_simplest_above_zero {f : Addr} {fd : FuncData} (F : FunD K "_simplest_above_zero" "_simplest_above_zero" (defArgs s_simplest_above_zero) (defBody s_simplest_above_zero) (defScope s_simplest_above_zero) [] [] f fd) (B : Blt mg) (Z : Con mg) {C : Addr} (T : RatioC K mg C) : FnOk P w K mg base CX0 1 f fd ["low", "high"] (spSaz K) := by
  refine F.ok sc_simplest_above_zero (fun vs H Q E h => ?_) (fun cdv A outer s H vs Q E hr h => ?_)
  · obtain ⟨a, b, lo, hi, r, rfl, _⟩ := h
    rfl
  · obtain ⟨a, b, lo, hi, r, rfl, ha, hb, hr', k⟩ := h
    refine ⟨_, PSs.nox (pss_cons (ps_asg (pe_tup (pa_cons (pv 0) (pa_cons (pv 1) pa_nil))) (g_tup (K := K) (n := 2) (by rfl) (pgs_cons (g_tup (K := K) (n := 2) (by rfl) (pgs_cons (pg_name (i := 2) sc_simplest_above_zero.nd rfl (Or.inl rfl)) (pgs_cons (pg_name (i := 3) sc_simplest_above_zero.nd rfl (Or.inl rfl)) pgs_nil))) (pgs_cons (g_tup (K := K) (n := 2) (by rfl) (pgs_cons (pg_name (i := 4) sc_simplest_above_zero.nd rfl (Or.inl rfl)) (pgs_cons (pg_name (i := 5) sc_simplest_above_zero.nd rfl (Or.inl rfl)) pgs_nil))) pgs_nil)))) (pss_cons (ps_set (i := 6) sc_simplest_above_zero.nd rfl (Or.inl rfl) (pe_lst pa_nil)) (pss_cons (ps_set (i := 7) sc_simplest_above_zero.nd rfl (Or.inl rfl) (pe_op op_fdivW (pv 2) (pv 3))) (pss_cons (ps_while PassesOwn.never (pt_cmpR op_ge (pe_op op_mul (pe_op op_add (pv 7) pe_int) (pv 5)) (pv 4) (nomark _)) (pss_cons (ps_expr (e_bm (K := K) PySem.F.plainAttrs_list PySem.F.slot_list_append PySem.F.type_list_append mt_append (pv 6) (pa_cons (pv 7) pa_nil))) (pss_cons (ps_asg (pe_tup (pa_cons (pv 5) (pa_cons (pe_op op_sub (pv 4) (pe_op op_mul (pv 7) (pv 5))) (pa_cons (pv 3) (pa_cons (pe_op op_sub (pv 2) (pe_op op_mul (pv 7) (pv 3))) pa_nil))))) (g_tup (K := K) (n := 4) (by rfl) (pgs_cons (pg_name (i := 2) sc_simplest_above_zero.nd rfl (Or.inl rfl)) (pgs_cons (pg_name (i := 3) sc_simplest_above_zero.nd rfl (Or.inl rfl)) (pgs_cons (pg_name (i := 4) sc_simplest_above_zero.nd rfl (Or.inl rfl)) (pgs_cons (pg_name (i := 5) sc_simplest_above_zero.nd rfl (Or.inl rfl)) pgs_nil)))))) (pss_one (ps_set (i := 7) sc_simplest_above_zero.nd rfl (Or.inl rfl) (pe_op op_fdivW (pv 2) (pv 3))))))) (pss_cons (ps_par (i := 8) (j := 9) (by rfl) sc_simplest_above_zero.nd rfl rfl (by decide) rfl rfl (pa_cons (pe_op op_add (pv 7) pe_int) (pa_cons pe_int pa_nil)) (by rfl)) (pss_cons (ps_for PassesOwn.never rfl (w_list (K := K) (e_revL (K := K) (pv 6))) (pg_name (i := 10) sc_simplest_above_zero.nd rfl (Or.inl rfl)) (pss_one (ps_par (i := 8) (j := 9) (by rfl) sc_simplest_above_zero.nd rfl rfl (by decide) rfl rfl (pa_cons (pe_op op_add (pe_op op_mul (pv 10) (pv 8)) (pv 9)) (pa_cons (pv 8) pa_nil)) (by rfl)))) (pss_one (ps_ret (pe_tup (pa_cons (pv 8) (pa_cons (pv 9) pa_nil))))))))))), ?_⟩
    walk_at "yy"
    refine ⟨by show 2 ≤ sizeLine; decide, fun t0 n0 => ?_⟩
    have s0 : Same H (upd H t0 (.tup [.ref a, .ref b])) := same_new n0
    walk_at "yy"
    refine y_gtup rfl (sqt upd_same) rfl ?_
    walk_at "yy"
    refine y_gtup rfl (sqt (s0 _ _ ha)) rfl ?_
    walk_at "yy"
    refine y_gtup rfl (sqt (s0 _ _ hb)) rfl ?_
    walk_at "yy"
    refine ⟨by show 0 ≤ sizeLine; decide, fun L nL => ?_⟩
    have s1 := s0.trans (same_new (o := .lst []) nL)
    walk_at "yy"
    obtain ⟨⟨S, w0⟩, hw, hr2⟩ := Option.map_eq_some_iff.mp hr'
    have hr2 : back S (w0 + 1, 1) = r := hr2
    obtain ⟨m1, em1, p0, ⟨q1, q2, q3, q4, q5⟩, _⟩ := sazW_inv hw
    refine y_I (big_div p0 (Nat.lt_trans (sm_lt q2) (by decide))) ?_
    walk_at "yy"
    refine y_while ⟨fun m σ H1 => ∃ (lt lb ht hb : Int) (st : List Int), σ = [some (.ref a), some (.ref b), some (.int lt), some (.int lb), some (.int ht), some (.int hb), some (.ref L), some (.int (lt / lb)), none, none, none] ∧ H1 L = some (.lst (st.map V.int)) ∧ Same H H1 ∧ sazW m lt lb ht hb st = some (S, w0) ∧ (∀ s ∈ st, sm s = true) ∧ st.length + m ≤ 60,
      ⟨60, _, _, _, _, [], rfl, upd_same, s1, hw, fun _ h => (nomatch h), by decide⟩, ?_⟩
    rintro m σ H1 ⟨lt, lb, ht, hb', st, rfl, eL, sH, hz, hst, hlen⟩
    obtain ⟨m2, rfl, p0, ⟨q1, q2, q3, q4, q5⟩, hor⟩ := sazW_inv hz
    have q1 := sm_lt q1
    have q2 := sm_lt q2
    have q3 := sm_lt q3
    have q4 := sm_lt q4
    have q6 := sm_lt q5
    have nL0 : H L = none := Same.free s0 nL
    walk_at "yy"
    refine y_I (show CMul _ _ from .inr ⟨by omega, by omega⟩) ?_
    walk_at "yy"
    refine y_ite (fun h => ?_) (fun h => ?_)
    · have h := of_decide_eq_true h
      rcases hor with ⟨_, hz2⟩ | ⟨h2, _⟩
      case inr => exact absurd h h2
      obtain ⟨m3, em3, p1, ⟨r1, r2, r3, r4, r5⟩, _⟩ := sazW_inv hz2
      refine ⟨fun σ' H2 => ∃ (lt lb ht hb : Int) (st : List Int), σ' = [some (.ref a), some (.ref b), some (.int lt), some (.int lb), some (.int ht), some (.int hb), some (.ref L), some (.int (lt / lb)), none, none, none] ∧ H2 L = some (.lst (st.map V.int)) ∧ Same H H2 ∧ sazW m2 lt lb ht hb st = some (S, w0) ∧ (∀ s ∈ st, sm s = true) ∧ st.length + m2 ≤ 60, fun σ' H2 h => ⟨m2, by omega, h⟩, ?_⟩
      walk_at "yy"
      refine ⟨ty_l eL, ?_⟩
      walk_at "yy"
      refine ⟨L, _, _, rfl, rfl, eL, sz_lt (by rw [List.length_map]; omega), ?_⟩
      walk_at "yy"
      refine y_I (show CMul _ _ from .inr ⟨by omega, by omega⟩) ?_
      walk_at "yy"
      refine y_I (show CMul _ _ from .inr ⟨by omega, by omega⟩) ?_
      walk_at "yy"
      refine ⟨by show 4 ≤ sizeLine; decide, fun t n => ?_⟩
      refine y_gtup rfl (sqt upd_same) rfl ?_
      walk_at "yy"
      refine y_I (big_div p1 (Nat.lt_trans (sm_lt r2) (by decide))) ?_
      have nLt : L ≠ t := ne_of_none upd_same n
      refine ⟨_, _, _, _, st ++ [lt / lb], rfl, ?_, same_mut (same_mut sH nL0) ?_, hz2, ?_, ?_⟩
      · rw [upd_ne nLt, upd_same, List.map_append]
        rfl
      · cases e : H t with
        | none => rfl
        | some o =>
          rw [upd_ne nLt.symm, sH t o e] at n
          cases n
      · intro s hs
        rcases List.mem_append.mp hs with h | h
        · exact hst s h
        · rw [List.mem_singleton.mp h]
          exact q5
      · rw [List.length_append, List.length_singleton]
        omega
    · have h := of_decide_eq_false h
      rcases hor with ⟨h2, _⟩ | ⟨_, e⟩
      case inl => exact absurd h2 h
      obtain ⟨eS, ew⟩ := Prod.mk.inj e
      subst eS
      subst ew
      walk_at "yy"
      refine ⟨L, _, rfl, sql eL, fun R nR => ?_⟩
      have sR := sH.trans (same_new (o := .lst (S.map V.int).reverse) nR)
      refine ⟨R, rfl, ⟨_, sql upd_same⟩, y_forW (b := fun _ _ => False) (c := fun _ _ => False) (walk_list (K := K) (a := R) (xs := (S.map V.int).reverse)) (fun i σ H2 => ∃ v10, σ = [some (.ref a), some (.ref b), some (.int lt), some (.int lb), some (.int ht), some (.int hb'), some (.ref L), some (.int (lt / lb)), some (.int ((S.reverse.take i).foldl (fun (p : Int × Int) s => (s * p.1 + p.2, p.1)) (lt / lb + 1, 1)).1), some (.int ((S.reverse.take i).foldl (fun (p : Int × Int) s => (s * p.1 + p.2, p.1)) (lt / lb + 1, 1)).2), v10] ∧ H2 = upd H1 R (.lst (S.map V.int).reverse)) ⟨none, rfl, rfl⟩ (fun i σ H2 _ h => by obtain ⟨_, _, rfl⟩ := h; exact sql upd_same) ?_ ?_⟩
      · rintro i x σ H2 H3 hi ⟨v10, rfl, rfl⟩ ⟨rfl, ex⟩
        rw [← List.map_reverse, List.getElem?_map] at ex
        obtain ⟨s, es, rfl⟩ := Option.map_eq_some_iff.mp ex
        have hs := sm_lt (hst s (List.mem_reverse.mp (List.mem_of_getElem? es)))
        walk_at "yy"
        refine y_I (show CMul _ _ from .inl ⟨by omega, by omega⟩) ?_
        walk_at "yy"
        refine ⟨_, _, rfl, some (.int s), ?_, rfl⟩
        rw [List.take_add_one, es, List.foldl_append]
        rfl
      · rintro σ H2 ⟨v10, rfl, rfl⟩
        walk_at "yy"
        refine ⟨by show 2 ≤ sizeLine; decide, fun p np => k p _ (Same.free sR np) ?_ (sR.trans (same_new np))⟩
        rw [upd_same, List.length_reverse, List.length_map, List.take_of_length_le (by simp), ← hr2]
        rfl
theorem sc_simplest : FnScope ["low", "high", "top", "bottom"] ["low", "high"] (defScope s_simplest) := ⟨rfl, rfl, rfl, by decide +kernel, rfl, by decide +kernel, by decide +kernel⟩
-- 0 low, 1 high, 2 top, 3 bottom
theorem ok_simplest {f : Addr} {fd : FuncData} (F : FunD K "simplest" "simplest" (defArgs s_simplest) (defBody s_simplest) (defScope s_simplest) [] [] f fd) (B : Blt mg) (Z : Con mg) {C : Addr} (T : RatioC K mg C) (C_simplest_above_zero : Cal P w K mg base 1 "_simplest_above_zero" ["low", "high"] (spSaz K)) : FnOk P w K mg base CX0 2 f fd ["low", "high"] (spSimp K) := by
  refine F.ok sc_simplest (fun vs H Q E h => ?_) (fun cdv A outer s H vs Q E hr h => ?_)
  · obtain ⟨a, b, lo, hi, r, rfl, _⟩ := h
    rfl
  · obtain ⟨a, b, lo, hi, r, rfl, ha, hb, hr', k⟩ := h
    refine ⟨_, PSs.nox (pss_cons (ps_if (pt_chain op_lt op_lt (pe_ix (x_tup (K := K)) (pv 0) pe_int (fun _ _ => rfl)) pe_int (pe_ix (x_tup (K := K)) (pv 1) pe_int (fun _ _ => rfl))) (pss_one (ps_ret (pe_tup (pa_cons pe_int (pa_cons pe_int pa_nil))))) pss_nil) (pss_cons (ps_if (pt_cmpR op_ge (pe_ix (x_tup (K := K)) (pv 0) pe_int (fun _ _ => rfl)) pe_int (nomark _)) (pss_one (ps_ret (pe_fn C_simplest_above_zero (hr.mono (by decide)) (by rfl) (pa_cons (pv 0) (pa_cons (pv 1) pa_nil))))) pss_nil) (pss_cons (ps_asg (pe_fn C_simplest_above_zero (hr.mono (by decide)) (by rfl) (pa_cons (pe_tup (pa_cons (pe_un un_neg (pe_ix (x_tup (K := K)) (pv 1) pe_int (fun _ _ => rfl))) (pa_cons (pe_ix (x_tup (K := K)) (pv 1) pe_int (fun _ _ => rfl)) pa_nil))) (pa_cons (pe_tup (pa_cons (pe_un un_neg (pe_ix (x_tup (K := K)) (pv 0) pe_int (fun _ _ => rfl))) (pa_cons (pe_ix (x_tup (K := K)) (pv 0) pe_int (fun _ _ => rfl)) pa_nil))) pa_nil))) (g_tup (K := K) (n := 2) (by rfl) (pgs_cons (pg_name (i := 2) sc_simplest.nd rfl (Or.inl rfl)) (pgs_cons (pg_name (i := 3) sc_simplest.nd rfl (Or.inl rfl)) pgs_nil)))) (pss_one (ps_ret (pe_tup (pa_cons (pe_un un_neg (pv 2)) (pa_cons (pv 3) pa_nil)))))))), ?_⟩
    have ret2 : ∀ (x y : Int), (x, y) = r → [V.int x, V.int y].length ≤ sizeLine ∧ ∀ p, H p = none → Q (.ref p) (upd H p (.tup [.int x, .int y])) := fun x y e => by
      subst e
      exact ⟨by show 2 ≤ sizeLine; decide, fun p np => k p _ np upd_same (same_new np)⟩
    walk_at "yy"
    refine y_ixT (sqt ha) rfl ?_
    walk_at "yy"
    refine y_ite (fun h1 => ?_) (fun h1 => ?_)
    · walk_at "yy"
      refine y_ixT (sqt hb) rfl ?_
      walk_at "yy"
      refine y_ite (fun h2 => ?_) (fun h2 => ?_)
      · walk_at "yy"
        refine ret2 _ _ ?_
        unfold simp2 at hr'
        rw [if_pos ⟨of_decide_eq_true h1, of_decide_eq_true h2⟩] at hr'
        exact Option.some.inj hr'
      · walk_at "yy"
        have n12 : ¬ (lo.1 < 0 ∧ 0 < hi.1) := fun z => of_decide_eq_false h2 z.2
        unfold simp2 at hr'
        rw [if_neg n12] at hr'
        refine y_ixT (sqt ha) rfl ?_
        walk_at "yy"
        have h3 : ¬ 0 ≤ lo.1 := by have := of_decide_eq_true h1; omega
        rw [if_neg h3] at hr'
        obtain ⟨r2, e2, e3⟩ := Option.map_eq_some_iff.mp hr'
        refine y_f (decide_eq_false h3) ?_
        walk_at "yy"
        refine y_ixT (sqt hb) rfl ?_
        walk_at "yy"
        refine y_ixT (sqt hb) rfl ?_
        walk_at "yy"
        refine ⟨by show 2 ≤ sizeLine; decide, fun t1 n1 => ?_⟩
        walk_at "yy"
        refine y_ixT (sqt (same_new n1 _ _ ha)) rfl ?_
        walk_at "yy"
        refine y_ixT (sqt (same_new n1 _ _ ha)) rfl ?_
        walk_at "yy"
        refine ⟨by show 2 ≤ sizeLine; decide, fun t2 n2 => ?_⟩
        walk_at "yy"
        refine ⟨t1, t2, (-hi.1, hi.2), (-lo.1, lo.2), r2, rfl, same_new n2 _ _ upd_same, upd_same, e2, fun p H3 np ep sp => ?_⟩
        have s3 : Same H H3 := ((same_new n1).trans (same_new n2)).trans sp
        refine y_gtup rfl (sqt ep) rfl ?_
        walk_at "yy"
        refine ⟨by show 2 ≤ sizeLine; decide, fun p2 np2 => k p2 _ (Same.free s3 np2) ?_ (s3.trans (same_new np2))⟩
        rw [upd_same, ← e3]
    · walk_at "yy"
      have n12 : ¬ (lo.1 < 0 ∧ 0 < hi.1) := fun z => of_decide_eq_false h1 z.1
      have h3 : 0 ≤ lo.1 := by have := of_decide_eq_false h1; omega
      unfold simp2 at hr'
      rw [if_neg n12, if_pos h3] at hr'
      walk_at "yf"
      walk_at "yy"
      refine y_ixT (sqt ha) rfl ?_
      walk_at "yy"
      refine y_t (decide_eq_true h3) ?_
      walk_at "yy"
      exact ⟨a, b, lo, hi, r, rfl, ha, hb, hr', k⟩
theorem sc_Ratio_between : FnScope ["self", "other", "low", "high", "top", "bottom"] ["self", "other"] (defScope s_Ratio_between) := ⟨rfl, rfl, rfl, by decide +kernel, rfl, by decide +kernel, by decide +kernel⟩
-- 0 self, 1 other, 2 low, 3 high, 4 top, 5 bottom
theorem ok_Ratio_between {f : Addr} {fd : FuncData} (F : FunD K "between" "Ratio.between" (defArgs s_Ratio_between) (defBody s_Ratio_between) (defScope s_Ratio_between) [] [] f fd) (B : Blt mg) (Z : Con mg) {C : Addr} (T : RatioC K mg C) (C_Ratio___eq__ : Mth P w K mg base 1 C "__eq__" ["self", "other"] (spEqR C)) (C_Ratio_is_below : Mth P w K mg base 4 C "is_below" ["self", "other"] (spBelow C)) (C_Ratio_pair : Prp P w K mg base 1 C "pair" (spPair C)) (C_simplest : Cal P w K mg base 2 "simplest" ["low", "high"] (spSimp K)) (C_ratio : Cal P w K mg base 4 "_ratio" ["top", "bottom"] (spRatio C)) : FnOk P w K mg base CX0 6 f fd ["self", "other"] (spBetween C) := by
  refine F.ok sc_Ratio_between (fun vs H Q E h => ?_) (fun cdv A outer s H vs Q E hr h => ?_)
  · obtain ⟨x, y, p, q, z, rfl, _⟩ := h
    rfl
  · obtain ⟨x, y, p, q, z, rfl, hx, hy, fp, fq, hz, k⟩ := h
    refine ⟨_, PSs.nox (pss_cons (ps_if (pt_not (pt_val (pe_callB (c_isi (K := K)) (by rfl) B.n_isinstance (by decide +kernel) (pa_cons (pv 1) (pa_cons (pe_glob (v := .ref C) (by rfl) T.g rfl) pa_nil))))) (pss_one ps_never) pss_nil) (pss_cons (ps_if (pt_cmpR (q_eq C_Ratio___eq__ (hr.mono (by decide))) (pv 0) (pv 1) (nomark _)) (pss_one ps_never) pss_nil) (pss_cons (ps_asg (pe_ifExp (pt_val (e_mth C_Ratio_is_below T.cls (hr.mono (by decide)) (pv 0) (pa_cons (pv 1) pa_nil))) (pe_tup (pa_cons (pv 0) (pa_cons (pv 1) pa_nil))) (pe_tup (pa_cons (pv 1) (pa_cons (pv 0) pa_nil)))) (g_tup (K := K) (n := 2) (by rfl) (pgs_cons (pg_name (i := 2) sc_Ratio_between.nd rfl (Or.inl rfl)) (pgs_cons (pg_name (i := 3) sc_Ratio_between.nd rfl (Or.inl rfl)) pgs_nil)))) (pss_cons (ps_asg (pe_fn C_simplest (hr.mono (by decide)) (by rfl) (pa_cons (e_prp C_Ratio_pair T.cls (hr.mono (by decide)) (pv 2)) (pa_cons (e_prp C_Ratio_pair T.cls (hr.mono (by decide)) (pv 3)) pa_nil))) (g_tup (K := K) (n := 2) (by rfl) (pgs_cons (pg_name (i := 4) sc_Ratio_between.nd rfl (Or.inl rfl)) (pgs_cons (pg_name (i := 5) sc_Ratio_between.nd rfl (Or.inl rfl)) pgs_nil)))) (pss_one (ps_ret (pe_fn C_ratio (hr.mono (by decide)) (by rfl) (pa_cons (pv 4) (pa_cons (pv 5) pa_nil))))))))), ?_⟩
    unfold betw at hz
    have npq : ¬ p = q := fun e => by
      rw [if_pos e] at hz
      cases hz
    rw [if_neg npq] at hz
    walk_at "yy"
    refine y_isC (k := true) (T.ty hy) kit_self ?_
    walk_at "yy"
    walk_at "yf"
    walk_at "yy"
    refine ⟨x, y, _, _, _, _, rfl, rfl, hx.choose_spec, hy.choose_spec, x, y, p, q, rfl, hx, hy, ?_⟩
    walk_at "yy"
    refine y_f (decide_eq_false npq) ?_
    walk_at "yy"
    refine ⟨x, _, _, rfl, hx.choose_spec, rf_no (by decide +kernel) (by decide +kernel) _, ?_⟩
    walk_at "yy"
    refine ⟨x, .ref y, p, q, rfl, hx, fp, .inl ⟨y, rfl, hy⟩, fq, fun H1 s1 => ?_⟩
    walk_at "yy"
    refine y_ite (fun h => ?_) (fun h => ?_)
    · rw [if_pos h, if_pos h] at hz
      obtain ⟨r, er, c0, c1, c2, rfl⟩ := betw_inv hz
      have o1 : okI r.1 = true := okI_small (by omega)
      have o2 : okI r.2 = true := okI_small (by omega)
      have l1 := low_le (t := r.1) c0
      walk_at "yy"
      refine ⟨by show 2 ≤ sizeLine; decide, fun t nt => ?_⟩
      have s2 := s1.trans (same_new (o := .tup [.ref x, .ref y]) nt)
      refine y_gtup rfl (sqt upd_same) rfl ?_
      walk_at "yy"
      refine ⟨x, _, _, rfl, (hx.same s2).choose_spec, x, p, rfl, hx.same s2, fun a1 H3 na1 ea1 s3 => ?_⟩
      walk_at "yy"
      refine ⟨y, _, _, rfl, ((hy.same s2).same s3).choose_spec, y, q, rfl, (hy.same s2).same s3, fun a2 H4 na2 ea2 s4 => ?_⟩
      walk_at "yy"
      refine ⟨a1, a2, p, q, r, rfl, s4 _ _ ea1, ea2, er, fun a3 H5 na3 ea3 s5 => ?_⟩
      refine y_gtup rfl (sqt ea3) rfl ?_
      walk_at "yy"
      have s15 := ((s2.trans s3).trans s4).trans s5
      exact ⟨r.1, r.2, rfl, c0, up_lt (okI_nat o1) (by decide), up_lt (okI_nat o2) (by decide), okI_mono o1 l1.1, okI_mono o2 l1.2, fun z H6 nz hz' s6 => k z H6 (Same.free s15 nz) hz' (s15.trans s6)⟩
    · rw [if_neg (by rw [h]; exact Bool.false_ne_true), if_neg (by rw [h]; exact Bool.false_ne_true)] at hz
      obtain ⟨r, er, c0, c1, c2, rfl⟩ := betw_inv hz
      have o1 : okI r.1 = true := okI_small (by omega)
      have o2 : okI r.2 = true := okI_small (by omega)
      have l1 := low_le (t := r.1) c0
      walk_at "yy"
      refine ⟨by show 2 ≤ sizeLine; decide, fun t nt => ?_⟩
      have s2 := s1.trans (same_new (o := .tup [.ref y, .ref x]) nt)
      refine y_gtup rfl (sqt upd_same) rfl ?_
      walk_at "yy"
      refine ⟨y, _, _, rfl, (hy.same s2).choose_spec, y, q, rfl, hy.same s2, fun a1 H3 na1 ea1 s3 => ?_⟩
      walk_at "yy"
      refine ⟨x, _, _, rfl, ((hx.same s2).same s3).choose_spec, x, p, rfl, (hx.same s2).same s3, fun a2 H4 na2 ea2 s4 => ?_⟩
      walk_at "yy"
      refine ⟨a1, a2, q, p, r, rfl, s4 _ _ ea1, ea2, er, fun a3 H5 na3 ea3 s5 => ?_⟩
      refine y_gtup rfl (sqt ea3) rfl ?_
      walk_at "yy"
      have s15 := ((s2.trans s3).trans s4).trans s5
      exact ⟨r.1, r.2, rfl, c0, up_lt (okI_nat o1) (by decide), up_lt (okI_nat o2) (by decide), okI_mono o1 l1.1, okI_mono o2 l1.2, fun z H6 nz hz' s6 => k z H6 (Same.free s15 nz) hz' (s15.trans s6)⟩
theorem sc_law_between : FnScope ["_law_low", "_law_high", "_law_bottom", "_law_top", "_law_last", "_law_tops", "_law_one"] ["_law_low", "_law_high"] (defScope s_law_between) := ⟨rfl, rfl, rfl, by decide +kernel, rfl, by decide +kernel, by decide +kernel⟩
-- 0 _law_low, 1 _law_high, 2 _law_bottom, 3 _law_top, 4 _law_last, 5 _law_tops, 6 _law_one
theorem ok_law_between {f : Addr} {fd : FuncData} (F : FunD K "_law_between" "_law_between" (defArgs s_law_between) (defBody s_law_between) (defScope s_law_between) [] [] f fd) (B : Blt mg) (Z : Con mg) {C : Addr} (T : RatioC K mg C) (C_law_ratio : Cal P w K mg base 1 "_law_ratio" ["_law_top", "_law_bottom"] spLRatio) : FnOk P w K mg base CX0 2 f fd ["_law_low", "_law_high"] (spLBetween K) := by
  refine F.ok sc_law_between (fun vs H Q E h => ?_) (fun cdv A outer s H vs Q E hr h => ?_)
  · obtain ⟨a, b, lo, hi, z, rfl, _⟩ := h
    rfl
  · obtain ⟨a, b, lo, hi, z, rfl, ha, hb, p1, p2, c1, c2, c3, c4, hz, k⟩ := h
    refine ⟨_, PSs.nox (pss_cons (ps_for PassesOwn.never rfl (pi_range2 (by rfl) B.n_range (pa_cons pe_int (pa_cons pe_int pa_nil))) (pg_name (i := 2) sc_law_between.nd rfl (Or.inl rfl)) (pss_cons (ps_set (i := 3) sc_law_between.nd rfl (Or.inl rfl) (pe_op op_add (pe_op op_fdivW (pe_op op_mul (pe_ix (x_tup (K := K)) (pv 0) pe_int (fun _ _ => rfl)) (pv 2)) (pe_ix (x_tup (K := K)) (pv 0) pe_int (fun _ _ => rfl))) pe_int)) (pss_one (ps_if (pt_cmpR op_lt (pe_op op_mul (pv 3) (pe_ix (x_tup (K := K)) (pv 1) pe_int (fun _ _ => rfl))) (pe_op op_mul (pe_ix (x_tup (K := K)) (pv 1) pe_int (fun _ _ => rfl)) (pv 2)) (nomark _)) (pss_cons (ps_set (i := 4) sc_law_between.nd rfl (Or.inl rfl) (pe_op op_fdivW (pe_op op_sub (pe_op op_mul (pe_ix (x_tup (K := K)) (pv 1) pe_int (fun _ _ => rfl)) (pv 2)) pe_int) (pe_ix (x_tup (K := K)) (pv 1) pe_int (fun _ _ => rfl)))) (pss_cons (ps_set (i := 5) sc_law_between.nd rfl (Or.inl rfl) (pe_ifExp (pt_chain op_le op_le (pv 3) pe_int (pv 4)) (pe_lst (pa_cons pe_int pa_nil)) (pe_lst (pa_cons (pv 3) (pa_cons (pv 4) pa_nil))))) (pss_one (ps_ret (pe_fn C_law_ratio (hr.mono (by decide)) (by rfl) (pa_cons (pe_ix (x_tup (K := K)) (pe_ix (x_list (K := K)) (pe_callB (c_sortP (K := K)) (by rfl) B.n_sorted (by decide +kernel) (pa_cons (pe_lc (own := [("_law_one", 6)]) (g := gName 6) (tt := tYes) rfl sc_law_between.nd (w_list (K := K) (pv 5)) (blkOk_by (own := [("_law_one", 6)]) (N := ["_law_low", "_law_high", "_law_bottom", "_law_top", "_law_last", "_law_tops", "_law_one"]) (sc := defScope s_law_between) (by decide +kernel)) (fun _ _ _ _ _ => pg_name (i := 6) sc_law_between.nd rfl (Or.inl rfl)) (fun _ _ _ _ _ => pts_nil) (fun _ _ _ _ _ => (pe_tup (pa_cons (pe_callB c_abs (by rfl) B.n_abs (by decide +kernel) (pa_cons (pv 6) pa_nil)) (pa_cons (pv 6) pa_nil))))) pa_nil)) pe_int (fun _ _ => rfl)) pe_int (fun _ _ => rfl)) (pa_cons (pv 2) pa_nil))))))) pss_nil)))) (pss_one (ps_ret pe_non))), ?_⟩
    obtain ⟨b0, hb0, ez⟩ := Option.map_eq_some_iff.mp hz
    have ez : low (lval lo hi (1 + (b0 : Int))) (1 + (b0 : Int)) = z := ez
    walk_at "yy"
    refine ⟨1, 4000, rfl, by decide, y_forR (b := fun _ _ => False) (c := fun _ _ => False) (fun (i : Nat) σ H1 => ∃ u2 u3, σ = [some (.ref a), some (.ref b), u2, u3, none, none, none] ∧ H1 = H ∧ lfind lo hi (3999 - i) i = some b0) ⟨_, _, rfl, rfl, hb0⟩ ?_ ?_⟩
    · rintro i σ H1 hi' ⟨u2, u3, rfl, rfl, hf⟩
      have hi' : i < 3999 := hi'
      have e9 : 3999 - i = (3998 - i) + 1 := by omega
      rw [e9] at hf
      unfold lfind at hf
      have bd : (1 + (i : Int)) ≤ 4000 := by omega
      have bd0 : 1 ≤ (1 + (i : Int)) := by omega
      have eb : (1 : Int) + (i : Int) = 1 + (i : Int) := rfl
      have l1 : (lo.1 * (1 + (i : Int))).natAbs < 2 ^ 40 := Nat.lt_trans (mul_lt (a := 21) (b := 13) (by omega) (by omega)) (by decide)
      have l2 : (hi.1 * (1 + (i : Int))).natAbs < 2 ^ 40 := Nat.lt_trans (mul_lt (a := 21) (b := 13) (by omega) (by omega)) (by decide)
      have l3 : (lo.1 * (1 + (i : Int)) / lo.2).natAbs < 2 ^ 40 := Nat.lt_of_le_of_lt (Int.natAbs_ediv_le_natAbs _ _) l1
      walk_at "yy"
      refine y_ixT (sqt ha) rfl ?_
      walk_at "yy"
      refine y_I (show CMul _ _ from .inl ⟨by omega, by omega⟩) ?_
      walk_at "yy"
      refine y_ixT (sqt ha) rfl ?_
      refine y_I (big_div p1 (big_of (by omega))) ?_
      walk_at "yy"
      refine y_ixT (sqt hb) rfl ?_
      refine y_I (show CMul _ _ from .inl ⟨by omega, by omega⟩) ?_
      walk_at "yy"
      refine y_ixT (sqt hb) rfl ?_
      walk_at "yy"
      refine y_I (show CMul _ _ from .inl ⟨by omega, by omega⟩) ?_
      walk_at "yy"
      refine y_ite (fun h => ?_) (fun h => ?_)
      · have ec : lcond lo hi (1 + (i : Int)) = true := h
        rw [if_pos ec] at hf
        cases Option.some.inj hf
        walk_at "yy"
        refine y_ixT (sqt hb) rfl ?_
        walk_at "yy"
        refine y_I (show CMul _ _ from .inl ⟨by omega, by omega⟩) ?_
        walk_at "yy"
        refine y_ixT (sqt hb) rfl ?_
        refine y_I (big_div p2 (big_of (by omega))) ?_
        refine y_name ?_
        refine y_seqAsg (fun v H2 => ∃ (q : Addr) (ts : List Int), v = .ref q ∧ H2 q = some (.lst (ts.map V.int)) ∧ Same H1 H2 ∧ 0 < ts.length ∧ ts.length ≤ 2 ∧ ∀ t ∈ ts, (∀ t' ∈ ts, ¬ SrtO.lexB ((t'.natAbs : Int), t') ((t.natAbs : Int), t) = true) → t = lval lo hi (1 + (b0 : Int))) (fun v H2 hP => ?_) (fun J => ?_)
        · obtain ⟨q, ts, rfl, eq, sH, l0, l2', hl⟩ := hP
          walk_at "yy"
          refine ⟨q, rfl, ⟨_, sql eq⟩, fun D nD => lc_list (xs := ts.map V.int) (fun j H3 => ∃ rs : List Addr, H3 D = some (.lst (rs.map V.ref)) ∧ rs.length = j ∧ (∀ (m : Nat) (r : Addr), rs[m]? = some r → ∃ t, ts[m]? = some t ∧ r ≠ D ∧ H3 r = some (.tup [.int (t.natAbs : Int), .int t])) ∧ Same H2 H3) ?_ (fun _ H3 _ h => by obtain ⟨_, _, _, _, s⟩ := h; exact s.seq (sql eq)) ?_ ?_⟩
          · exact ⟨[], upd_same, rfl, fun m r h => by simp at h, same_new nD⟩
          · rintro j x H3 hx ⟨rs, eD, er, hr', s3⟩
            rw [List.getElem?_map] at hx
            obtain ⟨t, et, rfl⟩ := Option.map_eq_some_iff.mp hx
            have hj : j < ts.length := (List.getElem?_eq_some_iff.mp et).1
            walk_at "yy"
            refine ⟨rfl, ?_⟩
            walk_at "yy"
            walk_at "yt"
            walk_at "yy"
            refine ⟨by show 2 ≤ sizeLine; decide, fun w nw => ?_⟩
            have nDw : D ≠ w := ne_of_none eD nw
            refine ⟨_, by rw [upd_ne nDw]; exact eD, sz_lt (by rw [List.length_map]; omega), rs ++ [w], ?_, ?_, ?_, same_mut (same_mut s3 (Same.free s3 nw)) nD⟩
            · rw [upd_same, List.map_append]
              rfl
            · rw [List.length_append, er]
              rfl
            · intro m r hm
              by_cases hmj : m < rs.length
              · rw [List.getElem?_append_left hmj] at hm
                obtain ⟨t2, e2, n2, h2⟩ := hr' m r hm
                exact ⟨t2, e2, n2, by rw [upd_ne n2, upd_ne (ne_of_none h2 nw)]; exact h2⟩
              · have hm2 : m = j := by
                  have : m < (rs ++ [w]).length := (List.getElem?_eq_some_iff.mp hm).1
                  rw [List.length_append, List.length_singleton] at this
                  omega
                subst hm2
                rw [← er, List.getElem?_concat_length] at hm
                cases Option.some.inj hm
                exact ⟨t, et, nDw.symm, by rw [upd_ne nDw.symm, upd_same]⟩
          · rintro H3 ⟨rs, eD, er, hr', s3⟩
            rw [List.length_map] at er
            walk_at "yy"
            refine ⟨D, rs.map V.ref, keyAt H3, rfl, sql eD, fun x hx => ?_, fun ys p hso hst np => ?_⟩
            · obtain ⟨r, hr2, rfl⟩ := List.mem_map.mp hx
              obtain ⟨m, hm⟩ := List.mem_iff_getElem?.mp hr2
              obtain ⟨t, et, n2, h2⟩ := hr' m r hm
              exact ⟨r, rfl, by rw [keyAt_of h2]; exact h2⟩
            · have hlen : 0 < ys.length := by
                rw [hst.perm.length_eq, List.length_map]
                omega
              cases ys with
              | nil => cases hlen
              | cons y0 yr =>
                have hy0 : y0 ∈ rs.map V.ref := hst.perm.mem_iff.mp List.mem_cons_self
                obtain ⟨r, hr2, rfl⟩ := List.mem_map.mp hy0
                obtain ⟨m, hm⟩ := List.mem_iff_getElem?.mp hr2
                obtain ⟨t, et, n2, h2⟩ := hr' m r hm
                have hleast : t = lval lo hi (1 + (b0 : Int)) := by
                  refine hl t (List.mem_of_getElem? et) fun t' ht' hlt => ?_
                  obtain ⟨m', hm'⟩ := List.mem_iff_getElem?.mp ht'
                  have hm'2 : m' < rs.length := by
                    rw [er]
                    exact (List.getElem?_eq_some_iff.mp hm').1
                  obtain ⟨t3, e3, n3, h3⟩ := hr' m' rs[m'] (List.getElem?_eq_getElem hm'2)
                  rw [hm'] at e3
                  cases Option.some.inj e3
                  have hin : V.ref rs[m'] ∈ V.ref r :: yr := hst.perm.mem_iff.mpr (List.mem_map.mpr ⟨_, List.getElem_mem hm'2, rfl⟩)
                  have hk : ltP (keyAt H3) (V.ref rs[m']) (V.ref r) = false := by
                    rcases List.mem_cons.mp hin with h | h
                    · rw [h]
                      exact (ltP_swo (keyAt H3)).refl _
                    · exact (List.pairwise_cons.mp hso).1 _ h
                  have hk2 : SrtO.lexB ((t'.natAbs : Int), t') ((t.natAbs : Int), t) = false := by
                    rw [← keyAt_of h2, ← keyAt_of h3]
                    exact hk
                  rw [hk2] at hlt
                  cases hlt
                subst hleast
                have npr : r ≠ p := ne_of_none h2 np
                walk_at "yy"
                refine y_ixL (sql upd_same) (at_nat (by decide) (List.getElem?_cons_zero)) ?_
                walk_at "yy"
                refine y_ixT (sqt (by rw [upd_ne npr]; exact h2)) rfl ?_
                walk_at "yy"
                have sv : (lval lo hi (1 + (b0 : Int))).natAbs ≤ 2 ^ 41 := by
                  have l4 : ((hi.1 * (1 + (b0 : Int)) - 1) / hi.2).natAbs < 2 ^ 41 := Nat.lt_of_le_of_lt (Int.natAbs_ediv_le_natAbs _ _) (by omega)
                  unfold lval ltop llast
                  split
                  · decide
                  · split
                    · omega
                    · split <;> omega
                have s4 : Same H1 (upd H3 p (.lst (V.ref r :: yr))) := (sH.trans s3).trans (same_new np)
                refine ⟨_, _, rfl, by omega, Nat.lt_of_le_of_lt sv (by decide), Nat.lt_of_le_of_lt (show (1 + (b0 : Int)).natAbs ≤ 4000 by omega) (by decide), ?_⟩
                rw [ez]
                exact fun u H5 nu eu su => k u H5 (Same.free s4 nu) eu (s4.trans su)
        · have two : ¬ (ltop lo (1 + (b0 : Int)) ≤ 0 ∧ 0 ≤ llast hi (1 + (b0 : Int))) → ∀ t ∈ [ltop lo (1 + (b0 : Int)), llast hi (1 + (b0 : Int))], (∀ t' ∈ [ltop lo (1 + (b0 : Int)), llast hi (1 + (b0 : Int))], ¬ SrtO.lexB ((t'.natAbs : Int), t') ((t.natAbs : Int), t) = true) → t = lval lo hi (1 + (b0 : Int)) := fun hn t ht hle => by
            have q1 := hle (ltop lo (1 + (b0 : Int))) (by simp)
            have q2 := hle (llast hi (1 + (b0 : Int))) (by simp)
            rw [SrtO.lexB_iff] at q1 q2
            unfold lval
            rw [if_neg hn]
            simp only [List.mem_cons, List.not_mem_nil, or_false] at ht
            simp only at q1 q2
            generalize ltop lo (1 + (b0 : Int)) = u at *
            generalize llast hi (1 + (b0 : Int)) = v at *
            rcases ht with rfl | rfl
            · split
              · rfl
              · split <;> omega
            · split
              · omega
              · split <;> omega
          walk_at "yy"
          refine y_ite (fun g1 => ?_) (fun g1 => ?_)
          · walk_at "yy"
            refine y_ite (fun g2 => ?_) (fun g2 => ?_)
            · walk_at "yy"
              refine ⟨by show 1 ≤ sizeLine; decide, fun q nq => J _ _ ⟨q, [0], rfl, upd_same, same_new nq, by decide, by decide, fun t ht _ => ?_⟩⟩
              rw [List.mem_singleton.mp ht]
              unfold lval
              rw [if_pos ⟨of_decide_eq_true g1, of_decide_eq_true g2⟩]
            · walk_at "yy"
              refine ⟨by show 2 ≤ sizeLine; decide, fun q nq => J _ _ ⟨q, [ltop lo (1 + (b0 : Int)), llast hi (1 + (b0 : Int))], rfl, upd_same, same_new nq, by simp, by simp, two fun z => ?_⟩⟩
              exact of_decide_eq_false g2 z.2
          · walk_at "yy"
            walk_at "yf"
            walk_at "yy"
            refine ⟨by show 2 ≤ sizeLine; decide, fun q nq => J _ _ ⟨q, [ltop lo (1 + (b0 : Int)), llast hi (1 + (b0 : Int))], rfl, upd_same, same_new nq, by simp, by simp, two fun z => ?_⟩⟩
            exact of_decide_eq_false g1 z.1
      · have ec : ¬ lcond lo hi (1 + (i : Int)) = true := by
          have h' : lcond lo hi (1 + (i : Int)) = false := h
          rw [h']
          exact Bool.false_ne_true
        rw [if_neg ec] at hf
        walk_at "yy"
        have e10 : 3999 - (i + 1) = 3998 - i := by omega
        exact ⟨_, _, rfl, rfl, by rw [e10]; exact hf⟩
    · rintro σ H1 ⟨u2, u3, rfl, rfl, hf⟩
      cases hf
theorem sc_law_right : FnScope ["_law_dice_here", "_law_low", "_law_step", "_law_high", "_law_one", "_law_other", "_law_found"] ["_law_dice_here"] (defScope s_law_right) := ⟨rfl, rfl, rfl, by decide +kernel, rfl, by decide +kernel, by decide +kernel⟩
-- 0 _law_dice_here, 1 _law_low, 2 _law_step, 3 _law_high, 4 _law_one, 5 _law_other, 6 _law_found
theorem ok_law_right {f : Addr} {fd : FuncData} (F : FunD K "_law_right" "_law_right" (defArgs s_law_right) (defBody s_law_right) (defScope s_law_right) [] [] f fd) (B : Blt mg) (Z : Con mg) {C : Addr} (T : RatioC K mg C) (C_law_fraction : Cal P w K mg base 3 "_law_fraction" ["_law_dice_here"] spLFrac) (C_law_pick : Cal P w K mg base 2 "_law_pick" ["_law_dice_here", "_law_items"] (spPick K)) (C_law_plus : Cal P w K mg base 2 "_law_plus" ["_law_one", "_law_other"] (spLPlus K)) (C_Ratio_of : Cmt P w K mg base 4 C "of" (spOf C)) (C_Ratio_between : Mth P w K mg base 6 C "between" ["self", "other"] (spBetween C)) (C_Ratio_pair : Prp P w K mg base 1 C "pair" (spPair C)) (C_Ratio_bottom : Prp P w K mg base 1 C "bottom" (spBot C)) (C_law_between : Cal P w K mg base 2 "_law_between" ["_law_low", "_law_high"] (spLBetween K)) (C_Ratio_is_below : Mth P w K mg base 4 C "is_below" ["self", "other"] (spBelow C)) (C_Ratio___neg__ : Mth P w K mg base 5 C "__neg__" ["self"] (spNeg C)) (C_Ratio___add__ : Mth P w K mg base 5 C "__add__" ["self", "other"] (spAdd C)) (C_Ratio___eq__ : Mth P w K mg base 1 C "__eq__" ["self", "other"] (spEqR C)) (IA : IntSide K C "add") : FnOk P w K mg base CX0 8 f fd ["_law_dice_here"] spRight := by
  refine F.ok sc_law_right (fun vs H Q E h => ?_) (fun cdv A outer s H vs Q E hr h => ?_)
  · obtain ⟨d, rfl, _⟩ := h
    rfl
  · obtain ⟨d, rfl, hD, k⟩ := h
    refine ⟨_, PSs.nox (pss_cons (ps_set (i := 1) sc_law_right.nd rfl (Or.inl rfl) (pe_fn C_law_fraction (hr.mono (by decide)) (by rfl) (pa_cons (pv 0) pa_nil))) (pss_cons (ps_set (i := 2) sc_law_right.nd rfl (Or.inl rfl) (pe_fn C_law_pick (hr.mono (by decide)) (by rfl) (pa_cons (pv 0) (pa_cons (pe_lst (pa_cons (pe_tup (pa_cons pe_int (pa_cons pe_int pa_nil))) (pa_cons (pe_tup (pa_cons pe_int (pa_cons pe_int pa_nil))) (pa_cons (pe_tup (pa_cons pe_int (pa_cons pe_int pa_nil))) (pa_cons (pe_tup (pa_cons pe_int (pa_cons pe_int pa_nil))) (pa_cons (pe_tup (pa_cons pe_int (pa_cons pe_int pa_nil))) (pa_cons (pe_tup (pa_cons pe_int (pa_cons pe_int pa_nil))) (pa_cons (pe_tup (pa_cons pe_int (pa_cons pe_int pa_nil))) (pa_cons (pe_tup (pa_cons pe_int (pa_cons pe_int pa_nil))) (pa_cons (pe_tup (pa_cons pe_int (pa_cons pe_int pa_nil))) pa_nil)))))))))) pa_nil)))) (pss_cons (ps_set (i := 3) sc_law_right.nd rfl (Or.inl rfl) (pe_fn C_law_plus (hr.mono (by decide)) (by rfl) (pa_cons (pv 1) (pa_cons (pv 2) pa_nil)))) (pss_cons (ps_par (i := 4) (j := 5) (by rfl) sc_law_right.nd rfl rfl (by decide) rfl rfl (pa_cons (e_cmt C_Ratio_of (hr.mono (by decide)) (pe_glob (v := .ref C) (by rfl) T.g rfl) (pa_cons (pv 1) pa_nil)) (pa_cons (e_cmt C_Ratio_of (hr.mono (by decide)) (pe_glob (v := .ref C) (by rfl) T.g rfl) (pa_cons (pv 3) pa_nil)) pa_nil)) (by rfl)) (pss_cons (ps_set (i := 6) sc_law_right.nd rfl (Or.inl rfl) (e_mth C_Ratio_between T.cls (hr.mono (by decide)) (pv 4) (pa_cons (pv 5) pa_nil))) (pss_cons (ps_if (PW.pt (pw_or (pt_cmpR (o_neD (K := K) hr.units) (e_prp C_Ratio_pair T.cls (hr.mono (by decide)) (pv 6)) (pe_fn C_law_between (hr.mono (by decide)) (by rfl) (pa_cons (pv 1) (pa_cons (pv 3) pa_nil))) (nomark _)) (pw_or1 (pt_cmpR (q_ne C_Ratio___eq__ (hr.mono (by decide)) T.ne T.obj) (e_mth C_Ratio_between T.cls (hr.mono (by decide)) (pv 5) (pa_cons (pv 4) pa_nil)) (pv 6) (nomark _))))) (pss_one (ps_ret pe_bl)) pss_nil) (pss_cons (ps_if (PW.pt (pw_or (pt_not (pt_val (e_mth C_Ratio_is_below T.cls (hr.mono (by decide)) (pv 4) (pa_cons (pv 6) pa_nil)))) (pw_or (pt_not (pt_val (e_mth C_Ratio_is_below T.cls (hr.mono (by decide)) (pv 6) (pa_cons (pv 5) pa_nil)))) (pw_or1 (pt_cmpR (q_ne C_Ratio___eq__ (hr.mono (by decide)) T.ne T.obj) (e_mth C_Ratio_between T.cls (hr.mono (by decide)) (pe_un (q_neg C_Ratio___neg__ (hr.mono (by decide))) (pv 4)) (pa_cons (pe_un (q_neg C_Ratio___neg__ (hr.mono (by decide))) (pv 5)) pa_nil)) (pe_un (q_neg C_Ratio___neg__ (hr.mono (by decide))) (pv 6)) (nomark _)))))) (pss_one (ps_ret pe_bl)) pss_nil) (pss_cons (ps_if (pt_cmpR op_ne (e_prp C_Ratio_bottom T.cls (hr.mono (by decide)) (e_mth C_Ratio_between T.cls (hr.mono (by decide)) (pe_op (q_opI C_Ratio___add__ T.first IA (hr.mono (by decide))) (pv 4) pe_int) (pa_cons (pe_op (q_opI C_Ratio___add__ T.first IA (hr.mono (by decide))) (pv 5) pe_int) pa_nil))) (e_prp C_Ratio_bottom T.cls (hr.mono (by decide)) (pv 6)) (nomark _)) (pss_one (ps_ret pe_bl)) pss_nil) (pss_one (ps_ret (pe_and (pe_cmpR op_ge (e_prp C_Ratio_bottom T.cls (hr.mono (by decide)) (e_mth C_Ratio_between T.cls (hr.mono (by decide)) (pv 4) (pa_cons (pv 6) pa_nil))) (e_prp C_Ratio_bottom T.cls (hr.mono (by decide)) (pv 6)) (nomark _)) (pe_one (pe_cmpR op_ge (e_prp C_Ratio_bottom T.cls (hr.mono (by decide)) (e_mth C_Ratio_between T.cls (hr.mono (by decide)) (pv 6) (pa_cons (pv 5) pa_nil))) (e_prp C_Ratio_bottom T.cls (hr.mono (by decide)) (pv 6)) (nomark _)))))))))))))), ?_⟩
    walk_at "yy"
    refine ⟨d, rfl, hD, fun lo a1 G0 hlo na1 ea1 hD0 f0 => ?_⟩
    walk_at "yy"
    refine ⟨by show 2 ≤ sizeLine; decide, fun t0 m0 => ?_⟩
    have k0 : (upd G0 t0 (.tup [.int 1, .int 1])) t0 = some (.tup [.int 1, .int 1]) := upd_same
    have s0 : Same G0 (upd G0 t0 (.tup [.int 1, .int 1])) := same_new m0
    generalize upd G0 t0 (.tup [.int 1, .int 1]) = G1 at k0 s0 ⊢
    walk_at "yy"
    refine ⟨by show 2 ≤ sizeLine; decide, fun t1 m1 => ?_⟩
    have k1 : (upd G1 t1 (.tup [.int 1, .int 2])) t1 = some (.tup [.int 1, .int 2]) := upd_same
    have s1 : Same G1 (upd G1 t1 (.tup [.int 1, .int 2])) := same_new m1
    generalize upd G1 t1 (.tup [.int 1, .int 2]) = G2 at k1 s1 ⊢
    walk_at "yy"
    refine ⟨by show 2 ≤ sizeLine; decide, fun t2 m2 => ?_⟩
    have k2 : (upd G2 t2 (.tup [.int 1, .int 7])) t2 = some (.tup [.int 1, .int 7]) := upd_same
    have s2 : Same G2 (upd G2 t2 (.tup [.int 1, .int 7])) := same_new m2
    generalize upd G2 t2 (.tup [.int 1, .int 7]) = G3 at k2 s2 ⊢
    walk_at "yy"
    refine ⟨by show 2 ≤ sizeLine; decide, fun t3 m3 => ?_⟩
    have k3 : (upd G3 t3 (.tup [.int 1, .int 60])) t3 = some (.tup [.int 1, .int 60]) := upd_same
    have s3 : Same G3 (upd G3 t3 (.tup [.int 1, .int 60])) := same_new m3
    generalize upd G3 t3 (.tup [.int 1, .int 60]) = G4 at k3 s3 ⊢
    walk_at "yy"
    refine ⟨by show 2 ≤ sizeLine; decide, fun t4 m4 => ?_⟩
    have k4 : (upd G4 t4 (.tup [.int 3, .int 2])) t4 = some (.tup [.int 3, .int 2]) := upd_same
    have s4 : Same G4 (upd G4 t4 (.tup [.int 3, .int 2])) := same_new m4
    generalize upd G4 t4 (.tup [.int 3, .int 2]) = G5 at k4 s4 ⊢
    walk_at "yy"
    refine ⟨by show 2 ≤ sizeLine; decide, fun t5 m5 => ?_⟩
    have k5 : (upd G5 t5 (.tup [.int 5, .int 1])) t5 = some (.tup [.int 5, .int 1]) := upd_same
    have s5 : Same G5 (upd G5 t5 (.tup [.int 5, .int 1])) := same_new m5
    generalize upd G5 t5 (.tup [.int 5, .int 1]) = G6 at k5 s5 ⊢
    walk_at "yy"
    refine ⟨by show 2 ≤ sizeLine; decide, fun t6 m6 => ?_⟩
    have k6 : (upd G6 t6 (.tup [.int 1, .int 200])) t6 = some (.tup [.int 1, .int 200]) := upd_same
    have s6 : Same G6 (upd G6 t6 (.tup [.int 1, .int 200])) := same_new m6
    generalize upd G6 t6 (.tup [.int 1, .int 200]) = G7 at k6 s6 ⊢
    walk_at "yy"
    refine ⟨by show 2 ≤ sizeLine; decide, fun t7 m7 => ?_⟩
    have k7 : (upd G7 t7 (.tup [.int 2, .int 35])) t7 = some (.tup [.int 2, .int 35]) := upd_same
    have s7 : Same G7 (upd G7 t7 (.tup [.int 2, .int 35])) := same_new m7
    generalize upd G7 t7 (.tup [.int 2, .int 35]) = G8 at k7 s7 ⊢
    walk_at "yy"
    refine ⟨by show 2 ≤ sizeLine; decide, fun t8 m8 => ?_⟩
    have k8 : (upd G8 t8 (.tup [.int 1, .int 6])) t8 = some (.tup [.int 1, .int 6]) := upd_same
    have s8 : Same G8 (upd G8 t8 (.tup [.int 1, .int 6])) := same_new m8
    generalize upd G8 t8 (.tup [.int 1, .int 6]) = G9 at k8 s8 ⊢
    walk_at "yy"
    have c9 : Same G9 G9 := Same.refl G9
    have c8 : Same G8 G9 := s8.trans c9
    have c7 : Same G7 G9 := s7.trans c8
    have c6 : Same G6 G9 := s6.trans c7
    have c5 : Same G5 G9 := s5.trans c6
    have c4 : Same G4 G9 := s4.trans c5
    have c3 : Same G3 G9 := s3.trans c4
    have c2 : Same G2 G9 := s2.trans c3
    have c1 : Same G1 G9 := s1.trans c2
    have c0 : Same G0 G9 := s0.trans c1
    have k0 := c1 _ _ k0
    have k1 := c2 _ _ k1
    have k2 := c3 _ _ k2
    have k3 := c4 _ _ k3
    have k4 := c5 _ _ k4
    have k5 := c6 _ _ k5
    have k6 := c7 _ _ k6
    have k7 := c8 _ _ k7
    have k8 := c9 _ _ k8
    have hD9 : DiceAt G9 d := hD0.same c0
    refine ⟨by show 9 ≤ sizeLine; decide, fun l nl => ?_⟩
    walk_at "yy"
    refine ⟨d, l, _, rfl, hD9.new nl, sql upd_same, hD9.ne nl, by show 0 < 9; decide, by show 9 ≤ 100000; decide, fun v Ga mv hDa fa => ?_⟩
    obtain ⟨a2, st, rfl, hst, ea2⟩ : ∃ (a : Addr) (st : Int × Int), v = .ref a ∧ st ∈ steps ∧ G9 a = some (.tup [.int st.1, .int st.2]) := by
      simp only [List.mem_cons, List.not_mem_nil, or_false] at mv
      rcases mv with rfl | rfl | rfl | rfl | rfl | rfl | rfl | rfl | rfl
      · exact ⟨_, (1, 1), rfl, by decide, k0⟩
      · exact ⟨_, (1, 2), rfl, by decide, k1⟩
      · exact ⟨_, (1, 7), rfl, by decide, k2⟩
      · exact ⟨_, (1, 60), rfl, by decide, k3⟩
      · exact ⟨_, (3, 2), rfl, by decide, k4⟩
      · exact ⟨_, (5, 1), rfl, by decide, k5⟩
      · exact ⟨_, (1, 200), rfl, by decide, k6⟩
      · exact ⟨_, (2, 35), rfl, by decide, k7⟩
      · exact ⟨_, (1, 6), rfl, by decide, k8⟩
    have f9 : Fr d G9 Ga := (Fr.new nl).trans fa
    have ea2 := f9 _ _ ea2 (dice_ne hD9 ea2)
    have ea1 := f9 _ _ (c0 _ _ ea1) (dice_ne hD0 ea1)
    have k : ∀ H', Same Ga H' → Q (.bl true) H' := fun H' s => k H' (hDa.same s) (((f0.trans (Fr.of_same c0)).trans f9).trans (Fr.of_same s))
    clear f9 fa mv hDa hD9 hD0 f0 na1
    clear c0 c1 c2 c3 c4 c5 c6 c7 c8 c9 k0 k1 k2 k3 k4 k5 k6 k7 k8 s0 s1 s2 s3 s4 s5 s6 s7 s8 nl
    obtain ⟨z, w1, w2, w3, b1, b2, b3, b4, q1, q2, q3, q4, q5, q6, b5, b6, b7, b8, b9, b10, b11, b12⟩ := right_ok hlo hst
    obtain ⟨fl, l1, l2⟩ := sml_fine q1
    have fs := (sml_fine q2).1
    obtain ⟨fh, l3, l4⟩ := sml_fine q3
    have fz := (sml_fine q4).1
    have fl1 := (sml_fine q5).1
    have fh1 := (sml_fine q6).1
    have f1 : Fine ((1 : Int), (1 : Int)) := (sml_fine (by decide)).1
    walk_at "yy"
    refine ⟨a1, a2, lo, st, rfl, sqt ea1, sqt ea2, fl, fs, fun a3 Gb na3 ea3 sb => ?_⟩
    walk_at "yy"
    refine ⟨rfl, ?_⟩
    walk_at "yy"
    refine ⟨a1, lo, rfl, sb _ _ ea1, fl, fun x Gc nx rx sc => ?_⟩
    walk_at "yy"
    refine ⟨rfl, ?_⟩
    walk_at "yy"
    refine ⟨a3, addP lo st, rfl, sc _ _ ea3, fh, fun o Gd no ro sd => ?_⟩
    walk_at "yy"
    have sd4 := (sb.trans sc).trans sd
    have rx := rx.same sd
    have ea1 := sd4 _ _ ea1
    have ea3 := (sc.trans sd) _ _ ea3
    refine ⟨x, _, _, rfl, (rx).choose_spec, rf_no (by decide +kernel) (by decide +kernel) _, ?_⟩
    walk_at "yy"
    refine ⟨x, o, lo, addP lo st, z, rfl, rx, ro, fl, fh, b1, fun f Ge nf rf se => ?_⟩
    walk_at "yy"
    have rx := rx.same se
    have ro := ro.same se
    have ea1 := se _ _ ea1
    have ea3 := se _ _ ea3
    refine ⟨f, _, _, rfl, rf.choose_spec, f, z, rfl, rf, fun a4 Gf na4 ea4 sf => ?_⟩
    walk_at "yy"
    refine ⟨a1, a3, lo, addP lo st, z, rfl, sf _ _ ea1, sf _ _ ea3, fl.l.1, fh.l.1, l1, l2, l3, l4, b5, fun a5 Gg na5 ea5 sg => ?_⟩
    have sfg := sf.trans sg
    refine ⟨_, _, .tup (sqt (sg _ _ ea4)) (.cons (.int _) (.cons (.int _) .nil)), .tup (sqt ea5) (.cons (.int _) (.cons (.int _) .nil)), sh2 z, sh2 z, ?_⟩
    walk_at "yy"
    refine y_f (by rw [eqv2]; rfl) ?_
    walk_at "yy"
    have rx := rx.same sfg
    have ro := ro.same sfg
    have rf := rf.same sfg
    have kk : Same Ga Gg := (sd4.trans se).trans sfg
    clear sfg sf sg ea1 ea3 ea4 ea5 na4 na5
    refine ⟨o, _, _, rfl, (ro).choose_spec, rf_no (by decide +kernel) (by decide +kernel) _, ?_⟩
    walk_at "yy"
    refine ⟨o, x, addP lo st, lo, z, rfl, ro, rx, fh, fl, b6, fun f2 Gh nf2 rf2 sh => ?_⟩
    walk_at "yy"
    refine ⟨f2, f, _, _, _, _, rfl, rfl, rf2.choose_spec, (rf.same sh).choose_spec, f2, f, z, z, rfl, rf2, rf.same sh, _, rfl, ?_⟩
    walk_at "yy"
    refine y_f (nse z) ?_
    walk_at "yy"
    have rx := rx.same sh
    have ro := ro.same sh
    have rf := rf.same sh
    have kk := kk.trans sh
    refine ⟨x, _, _, rfl, (rx).choose_spec, rf_no (by decide +kernel) (by decide +kernel) _, ?_⟩
    walk_at "yy"
    refine ⟨x, .ref f, lo, z, rfl, rx, fl, .inl ⟨f, rfl, rf⟩, fz, fun Gi si => ?_⟩
    walk_at "yy"
    refine y_f (by rw [b7]; rfl) ?_
    walk_at "yy"
    have rx := rx.same si
    have ro := ro.same si
    have rf := rf.same si
    have kk := kk.trans si
    refine ⟨f, _, _, rfl, (rf).choose_spec, rf_no (by decide +kernel) (by decide +kernel) _, ?_⟩
    walk_at "yy"
    refine ⟨f, .ref o, z, addP lo st, rfl, rf, fz, .inl ⟨o, rfl, ro⟩, fh, fun Gj sj => ?_⟩
    walk_at "yy"
    refine y_f (by rw [b8]; rfl) ?_
    walk_at "yy"
    have rx := rx.same sj
    have ro := ro.same sj
    have rf := rf.same sj
    have kk := kk.trans sj
    refine ⟨x, _, _, rfl, rx.choose_spec, x, lo, rfl, rx, fl, fun n1 Gk nn1 rn1 sk => ?_⟩
    refine ⟨n1, _, _, rfl, (rn1).choose_spec, rf_no (by decide +kernel) (by decide +kernel) _, ?_⟩
    walk_at "yy"
    have rx := rx.same sk
    have ro := ro.same sk
    have rf := rf.same sk
    have kk := kk.trans sk
    refine ⟨o, _, _, rfl, ro.choose_spec, o, addP lo st, rfl, ro, fh, fun n2 Gl nn2 rn2 sl => ?_⟩
    walk_at "yy"
    have rx := rx.same sl
    have ro := ro.same sl
    have rf := rf.same sl
    have kk := kk.trans sl
    refine ⟨n1, n2, negP lo, negP (addP lo st), negP z, rfl, rn1.same sl, rn2, neg_fine fl, neg_fine fh, b9, fun n3 Gm nn3 rn3 sm => ?_⟩
    walk_at "yy"
    have rx := rx.same sm
    have ro := ro.same sm
    have rf := rf.same sm
    have kk := kk.trans sm
    refine ⟨f, _, _, rfl, rf.choose_spec, f, z, rfl, rf, fz, fun n4 Gn nn4 rn4 sn => ?_⟩
    refine ⟨n3, n4, _, _, _, _, rfl, rfl, (rn3.same sn).choose_spec, rn4.choose_spec, n3, n4, negP z, negP z, rfl, rn3.same sn, rn4, _, rfl, ?_⟩
    walk_at "yy"
    refine y_f (nse _) ?_
    walk_at "yy"
    have rx := rx.same sn
    have ro := ro.same sn
    have rf := rf.same sn
    have kk := kk.trans sn
    clear rn1 rn2 rn3 rn4 nn1 nn2 nn3 nn4 rf2
    refine ⟨x, _, _, 1, rfl, rfl, rx.choose_spec, x, .int 1, lo, (1, 1), rfl, rx, fl, .inr ⟨1, rfl, rfl⟩, f1, fl1.t, fl1.b, fun p1 Go np1 rp1 so => ?_⟩
    refine ⟨p1, _, _, rfl, (rp1).choose_spec, rf_no (by decide +kernel) (by decide +kernel) _, ?_⟩
    walk_at "yy"
    have rx := rx.same so
    have ro := ro.same so
    have rf := rf.same so
    have kk := kk.trans so
    refine ⟨o, _, _, 1, rfl, rfl, ro.choose_spec, o, .int 1, addP lo st, (1, 1), rfl, ro, fh, .inr ⟨1, rfl, rfl⟩, f1, fh1.t, fh1.b, fun p2 Gp np2 rp2 sp => ?_⟩
    walk_at "yy"
    have rx := rx.same sp
    have ro := ro.same sp
    have rf := rf.same sp
    have kk := kk.trans sp
    refine ⟨p1, p2, _, _, w1, rfl, rp1.same sp, rp2, fl1, fh1, b2, fun p3 Gq np3 rp3 sq => ?_⟩
    have rx := rx.same sq
    have ro := ro.same sq
    have rf := rf.same sq
    have kk := kk.trans sq
    refine ⟨p3, _, _, rfl, rp3.choose_spec, p3, w1, rfl, rp3, ?_⟩
    walk_at "yy"
    refine ⟨f, _, _, rfl, rf.choose_spec, f, z, rfl, rf, ?_⟩
    walk_at "yy"
    refine y_f (by rw [decide_eq_true b10]; rfl) ?_
    walk_at "yy"
    refine ⟨x, _, _, rfl, (rx).choose_spec, rf_no (by decide +kernel) (by decide +kernel) _, ?_⟩
    walk_at "yy"
    refine ⟨x, f, lo, z, w2, rfl, rx, rf, fl, fz, b3, fun p4 Gr np4 rp4 sr => ?_⟩
    have rx := rx.same sr
    have ro := ro.same sr
    have rf := rf.same sr
    have kk := kk.trans sr
    refine ⟨p4, _, _, rfl, rp4.choose_spec, p4, w2, rfl, rp4, ?_⟩
    walk_at "yy"
    refine ⟨f, _, _, rfl, rf.choose_spec, f, z, rfl, rf, ?_⟩
    walk_at "yy"
    refine y_t (decide_eq_true b11) ?_
    walk_at "yy"
    refine ⟨f, _, _, rfl, (rf).choose_spec, rf_no (by decide +kernel) (by decide +kernel) _, ?_⟩
    walk_at "yy"
    refine ⟨f, o, z, addP lo st, w3, rfl, rf, ro, fz, fh, b4, fun p5 Gs np5 rp5 ss => ?_⟩
    have rf := rf.same ss
    have kk := kk.trans ss
    refine ⟨p5, _, _, rfl, rp5.choose_spec, p5, w3, rfl, rp5, ?_⟩
    walk_at "yy"
    refine ⟨f, _, _, rfl, rf.choose_spec, f, z, rfl, rf, ?_⟩
    walk_at "yy"
    have e : decide (w3.2 ≥ z.2) = true := decide_eq_true b12
    rw [e]
    exact k _ kk
theorem sc_law : FnScope ["_law_script", "_law_spot", "_law_dice_here", "_law_turn", "_law_told"] ["_law_script"] (defScope s_law) := ⟨rfl, rfl, rfl, by decide +kernel, rfl, by decide +kernel, by decide +kernel⟩
-- 0 _law_script, 1 _law_spot, 2 _law_dice_here, 3 _law_turn, 4 _law_told
theorem ok_law {f : Addr} {fd : FuncData} (F : FunD K "law" "law" (defArgs s_law) (defBody s_law) (defScope s_law) [] [] f fd) (B : Blt mg) (Z : Con mg) {C : Addr} (T : RatioC K mg C) (C_law_dice : Cal P w K mg base 1 "_law_dice" ["_law_script", "_law_spot"] (spDice K)) (C_law_right : Cal P w K mg base 8 "_law_right" ["_law_dice_here"] spRight) (C_Ratio_2 : Mkr P w K mg base 2 "Ratio" C (spInit C) []) (C_Ratio_1 : Mkr P w K mg base 2 "Ratio" C (spInit C) [.int 1]) (C_Ratio_between : Mth P w K mg base 6 C "between" ["self", "other"] (spBetween C)) (C_Ratio_pair : Prp P w K mg base 1 C "pair" (spPair C)) : FnOk P w K mg base CX0 9 f fd ["_law_script"] (spLaw K) := by
  refine F.ok sc_law (fun vs H Q E h => ?_) (fun cdv A outer s H vs Q E hr h => ?_)
  · obtain ⟨a, ns, rfl, _⟩ := h
    rfl
  · obtain ⟨a, ns, rfl, hS, hlen, k⟩ := h
    refine ⟨_, PSs.nox (pss_cons (ps_for PassesOwn.never rfl (pi_range1 (by rfl) B.n_range (pa_cons (pe_callB (c_max2 rfl) (by rfl) B.n_max (by decide +kernel) (pa_cons pe_int (pa_cons (pe_callB (c_min2 rfl) (by rfl) B.n_min (by decide +kernel) (pa_cons pe_int (pa_cons (pe_callB (c_lenQ (K := K)) (by rfl) B.n_len (by decide +kernel) (pa_cons (pv 0) pa_nil)) pa_nil))) pa_nil))) pa_nil)) (pg_name (i := 1) sc_law.nd rfl (Or.inl rfl)) (pss_cons (ps_set (i := 2) sc_law.nd rfl (Or.inl rfl) (pe_fn C_law_dice (hr.mono (by decide)) (by rfl) (pa_cons (pv 0) (pa_cons (pv 1) pa_nil)))) (pss_one (ps_for PassesOwn.never rfl (pi_range1 (by rfl) B.n_range (pa_cons pe_int pa_nil)) (pg_name (i := 3) sc_law.nd rfl (Or.inl rfl)) (pss_one (ps_if (pt_not (pt_val (pe_fn C_law_right (hr.mono (by decide)) (by rfl) (pa_cons (pv 2) pa_nil)))) (pss_one (ps_ret pe_bl)) pss_nil)))))) (pss_cons (ps_set (i := 4) sc_law.nd rfl (Or.inl rfl) (pe_lst (pa_cons (e_prp C_Ratio_pair T.cls (hr.mono (by decide)) (e_mth C_Ratio_between T.cls (hr.mono (by decide)) (e_mkr C_Ratio_2 (hr.mono (by decide)) (by rfl) (pa_cons pe_int (pa_cons pe_int pa_nil))) (pa_cons (e_mkr C_Ratio_2 (hr.mono (by decide)) (by rfl) (pa_cons pe_int (pa_cons pe_int pa_nil))) pa_nil))) (pa_cons (e_prp C_Ratio_pair T.cls (hr.mono (by decide)) (e_mth C_Ratio_between T.cls (hr.mono (by decide)) (e_mkr C_Ratio_1 (hr.mono (by decide)) (by rfl) (pa_cons (pe_un un_neg pe_int) pa_nil)) (pa_cons (e_mkr C_Ratio_1 (hr.mono (by decide)) (by rfl) (pa_cons pe_int pa_nil)) pa_nil))) (pa_cons (e_prp C_Ratio_pair T.cls (hr.mono (by decide)) (e_mth C_Ratio_between T.cls (hr.mono (by decide)) (e_mkr C_Ratio_1 (hr.mono (by decide)) (by rfl) (pa_cons pe_int pa_nil)) (pa_cons (e_mkr C_Ratio_1 (hr.mono (by decide)) (by rfl) (pa_cons pe_int pa_nil)) pa_nil))) pa_nil))))) (pss_cons (ps_set (i := 4) sc_law.nd rfl (Or.inl rfl) (pe_op op_cat (pv 4) (pe_lst (pa_cons (e_prp C_Ratio_pair T.cls (hr.mono (by decide)) (e_mth C_Ratio_between T.cls (hr.mono (by decide)) (e_mkr C_Ratio_1 (hr.mono (by decide)) (by rfl) (pa_cons (pe_un un_neg pe_int) pa_nil)) (pa_cons (e_mkr C_Ratio_2 (hr.mono (by decide)) (by rfl) (pa_cons (pe_un un_neg pe_int) (pa_cons pe_int pa_nil))) pa_nil))) (pa_cons (e_prp C_Ratio_pair T.cls (hr.mono (by decide)) (e_mth C_Ratio_between T.cls (hr.mono (by decide)) (e_mkr C_Ratio_1 (hr.mono (by decide)) (by rfl) (pa_cons pe_int pa_nil)) (pa_cons (e_mkr C_Ratio_2 (hr.mono (by decide)) (by rfl) (pa_cons pe_int (pa_cons pe_int pa_nil))) pa_nil))) (pa_cons (e_prp C_Ratio_pair T.cls (hr.mono (by decide)) (e_mth C_Ratio_between T.cls (hr.mono (by decide)) (e_mkr C_Ratio_1 (hr.mono (by decide)) (by rfl) (pa_cons pe_int pa_nil)) (pa_cons (e_mkr C_Ratio_1 (hr.mono (by decide)) (by rfl) (pa_cons pe_int pa_nil)) pa_nil))) pa_nil)))))) (pss_one (ps_ret (pe_cmpR (o_eqD (K := K) hr.units) (pv 4) (pe_lst (pa_cons (pe_tup (pa_cons pe_int (pa_cons pe_int pa_nil))) (pa_cons (pe_tup (pa_cons pe_int (pa_cons pe_int pa_nil))) (pa_cons (pe_tup (pa_cons pe_int (pa_cons pe_int pa_nil))) (pa_cons (pe_tup (pa_cons (pe_un un_neg pe_int) (pa_cons pe_int pa_nil))) (pa_cons (pe_tup (pa_cons pe_int (pa_cons pe_int pa_nil))) (pa_cons (pe_tup (pa_cons pe_int (pa_cons pe_int pa_nil))) pa_nil))))))) (nomark _))))))), ?_⟩
    have tp : ∀ {H : Hp} {a : Addr} {x y : Int}, H a = some (.tup [.int x, .int y]) → Dp K H (.ref a) (.tuple [.int x, .int y]) := fun h => .tup (sqt h) (.cons (.int _) (.cons (.int _) .nil))
    walk_at "yy"
    refine y_lenL hS ?_
    walk_at "yy"
    refine ⟨_, rfl, by omega, by omega, y_forR (b := fun _ _ => False) (c := fun _ _ => False) (fun i σ H1 => ∃ u1 u2 u3, σ = [some (.ref a), u1, u2, u3, none] ∧ Same H H1) ⟨_, _, _, rfl, Same.refl H⟩ ?_ ?_⟩
    · rintro i σ H1 hi ⟨u1, u2, u3, rfl, sm⟩
      walk_at "yy"
      refine ⟨a, 0 + i, ns, rfl, sm.seq hS, by omega, by omega, fun d H2 nd hD sm2 => ?_⟩
      have nd0 : H d = none := sm.free nd
      walk_at "yy"
      refine ⟨4, rfl, by decide, by decide, y_forR (b := fun _ _ => False) (c := fun _ _ => False) (fun j σ H3 => ∃ u3, σ = [some (.ref a), some (.int (0 + i)), some (.ref d), u3, none] ∧ Same H H3 ∧ DiceAt H3 d) ⟨_, rfl, sm.trans sm2, hD⟩ ?_ ?_⟩
      · rintro j σ H3 hj ⟨u3, rfl, sm3, hD3⟩
        walk_at "yy"
        refine ⟨d, rfl, hD3, fun H4 hD4 f4 => ?_⟩
        walk_at "yy"
        walk_at "yf"
        walk_at "yy"
        exact ⟨_, rfl, same_fr sm3 f4 nd0, hD4⟩
      · rintro σ H3 ⟨u3, rfl, sm3, hD3⟩
        exact ⟨_, _, _, rfl, sm3⟩
    · rintro σ H1 ⟨u1, u2, u3, rfl, sm⟩
      walk_at "yy"
      intro x0 dx0 n1 n2 n3
      refine ⟨x0, dx0, 1, 3, rfl, upd_same, okI_small (by decide), okI_small (by decide), by decide, fun A0 rx0 c1 => ⟨rfl, ?_⟩⟩
      have s1 := ini_same n1 n2 n3 c1
      clear n1 n2 n3 c1
      refine ⟨x0, _, _, rfl, (rx0).choose_spec, rf_no (by decide +kernel) (by decide +kernel) _, ?_⟩
      walk_at "yy"
      intro w0 dw0 n1 n2 n3
      refine ⟨w0, dw0, 1, 2, rfl, upd_same, okI_small (by decide), okI_small (by decide), by decide, fun B0 rw0 c1 => ⟨rfl, ?_⟩⟩
      have s2 := ini_same n1 n2 n3 c1
      clear n1 n2 n3 c1
      refine ⟨x0, w0, low (1) 3, low (1) 2, (2, 5), rfl, rx0.same s2, rw0, (sml_fine (by decide +kernel)).1, (sml_fine (by decide +kernel)).1, by decide +kernel, fun u0 C0 nu0 ru0 s3 => ?_⟩
      refine ⟨u0, _, _, rfl, ru0.choose_spec, u0, (2, 5), rfl, ru0, fun p0 D0 np0 ep0 s4 => ?_⟩
      have g0 := ((s1.trans s2).trans s3).trans s4
      clear s1 s2 s3 s4
      walk_at "yy"
      intro x1 dx1 n1 n2 n3
      refine ⟨x1, dx1, -1, 1, rfl, upd_same, okI_small (by decide), okI_small (by decide), by decide, fun A1 rx1 c1 => ⟨rfl, ?_⟩⟩
      have s1 := ini_same n1 n2 n3 c1
      clear n1 n2 n3 c1
      refine ⟨x1, _, _, rfl, (rx1).choose_spec, rf_no (by decide +kernel) (by decide +kernel) _, ?_⟩
      walk_at "yy"
      intro w1 dw1 n1 n2 n3
      refine ⟨w1, dw1, 1, 1, rfl, upd_same, okI_small (by decide), okI_small (by decide), by decide, fun B1 rw1 c1 => ⟨rfl, ?_⟩⟩
      have s2 := ini_same n1 n2 n3 c1
      clear n1 n2 n3 c1
      refine ⟨x1, w1, low (-1) 1, low (1) 1, (0, 1), rfl, rx1.same s2, rw1, (sml_fine (by decide +kernel)).1, (sml_fine (by decide +kernel)).1, by decide +kernel, fun u1 C1 nu1 ru1 s3 => ?_⟩
      refine ⟨u1, _, _, rfl, ru1.choose_spec, u1, (0, 1), rfl, ru1, fun p1 D1 np1 ep1 s4 => ?_⟩
      have g1 := ((s1.trans s2).trans s3).trans s4
      clear s1 s2 s3 s4
      walk_at "yy"
      intro x2 dx2 n1 n2 n3
      refine ⟨x2, dx2, 2, 1, rfl, upd_same, okI_small (by decide), okI_small (by decide), by decide, fun A2 rx2 c1 => ⟨rfl, ?_⟩⟩
      have s1 := ini_same n1 n2 n3 c1
      clear n1 n2 n3 c1
      refine ⟨x2, _, _, rfl, (rx2).choose_spec, rf_no (by decide +kernel) (by decide +kernel) _, ?_⟩
      walk_at "yy"
      intro w2 dw2 n1 n2 n3
      refine ⟨w2, dw2, 9, 1, rfl, upd_same, okI_small (by decide), okI_small (by decide), by decide, fun B2 rw2 c1 => ⟨rfl, ?_⟩⟩
      have s2 := ini_same n1 n2 n3 c1
      clear n1 n2 n3 c1
      refine ⟨x2, w2, low (2) 1, low (9) 1, (3, 1), rfl, rx2.same s2, rw2, (sml_fine (by decide +kernel)).1, (sml_fine (by decide +kernel)).1, by decide +kernel, fun u2 C2 nu2 ru2 s3 => ?_⟩
      refine ⟨u2, _, _, rfl, ru2.choose_spec, u2, (3, 1), rfl, ru2, fun p2 D2 np2 ep2 s4 => ?_⟩
      have g2 := ((s1.trans s2).trans s3).trans s4
      clear s1 s2 s3 s4
      walk_at "yy"
      refine ⟨by show 3 ≤ sizeLine; decide, fun l1 nl1 => ?_⟩
      have el1 : (upd D2 l1 (.lst [.ref p0, .ref p1, .ref p2])) l1 = some (.lst [.ref p0, .ref p1, .ref p2]) := upd_same
      have v1 : Same D2 (upd D2 l1 (.lst [.ref p0, .ref p1, .ref p2])) := same_new nl1
      generalize upd D2 l1 (.lst [.ref p0, .ref p1, .ref p2]) = F1 at el1 v1 ⊢
      walk_at "yy"
      intro x3 dx3 n1 n2 n3
      refine ⟨x3, dx3, -3, 1, rfl, upd_same, okI_small (by decide), okI_small (by decide), by decide, fun A3 rx3 c1 => ⟨rfl, ?_⟩⟩
      have s1 := ini_same n1 n2 n3 c1
      clear n1 n2 n3 c1
      refine ⟨x3, _, _, rfl, (rx3).choose_spec, rf_no (by decide +kernel) (by decide +kernel) _, ?_⟩
      walk_at "yy"
      intro w3 dw3 n1 n2 n3
      refine ⟨w3, dw3, -1, 2, rfl, upd_same, okI_small (by decide), okI_small (by decide), by decide, fun B3 rw3 c1 => ⟨rfl, ?_⟩⟩
      have s2 := ini_same n1 n2 n3 c1
      clear n1 n2 n3 c1
      refine ⟨x3, w3, low (-3) 1, low (-1) 2, (-1, 1), rfl, rx3.same s2, rw3, (sml_fine (by decide +kernel)).1, (sml_fine (by decide +kernel)).1, by decide +kernel, fun u3 C3 nu3 ru3 s3 => ?_⟩
      refine ⟨u3, _, _, rfl, ru3.choose_spec, u3, (-1, 1), rfl, ru3, fun p3 D3 np3 ep3 s4 => ?_⟩
      have g3 := ((s1.trans s2).trans s3).trans s4
      clear s1 s2 s3 s4
      walk_at "yy"
      intro x4 dx4 n1 n2 n3
      refine ⟨x4, dx4, 0, 1, rfl, upd_same, okI_small (by decide), okI_small (by decide), by decide, fun A4 rx4 c1 => ⟨rfl, ?_⟩⟩
      have s1 := ini_same n1 n2 n3 c1
      clear n1 n2 n3 c1
      refine ⟨x4, _, _, rfl, (rx4).choose_spec, rf_no (by decide +kernel) (by decide +kernel) _, ?_⟩
      walk_at "yy"
      intro w4 dw4 n1 n2 n3
      refine ⟨w4, dw4, 1, 5, rfl, upd_same, okI_small (by decide), okI_small (by decide), by decide, fun B4 rw4 c1 => ⟨rfl, ?_⟩⟩
      have s2 := ini_same n1 n2 n3 c1
      clear n1 n2 n3 c1
      refine ⟨x4, w4, low (0) 1, low (1) 5, (1, 6), rfl, rx4.same s2, rw4, (sml_fine (by decide +kernel)).1, (sml_fine (by decide +kernel)).1, by decide +kernel, fun u4 C4 nu4 ru4 s3 => ?_⟩
      refine ⟨u4, _, _, rfl, ru4.choose_spec, u4, (1, 6), rfl, ru4, fun p4 D4 np4 ep4 s4 => ?_⟩
      have g4 := ((s1.trans s2).trans s3).trans s4
      clear s1 s2 s3 s4
      walk_at "yy"
      intro x5 dx5 n1 n2 n3
      refine ⟨x5, dx5, 1, 1, rfl, upd_same, okI_small (by decide), okI_small (by decide), by decide, fun A5 rx5 c1 => ⟨rfl, ?_⟩⟩
      have s1 := ini_same n1 n2 n3 c1
      clear n1 n2 n3 c1
      refine ⟨x5, _, _, rfl, (rx5).choose_spec, rf_no (by decide +kernel) (by decide +kernel) _, ?_⟩
      walk_at "yy"
      intro w5 dw5 n1 n2 n3
      refine ⟨w5, dw5, 2, 1, rfl, upd_same, okI_small (by decide), okI_small (by decide), by decide, fun B5 rw5 c1 => ⟨rfl, ?_⟩⟩
      have s2 := ini_same n1 n2 n3 c1
      clear n1 n2 n3 c1
      refine ⟨x5, w5, low (1) 1, low (2) 1, (3, 2), rfl, rx5.same s2, rw5, (sml_fine (by decide +kernel)).1, (sml_fine (by decide +kernel)).1, by decide +kernel, fun u5 C5 nu5 ru5 s3 => ?_⟩
      refine ⟨u5, _, _, rfl, ru5.choose_spec, u5, (3, 2), rfl, ru5, fun p5 D5 np5 ep5 s4 => ?_⟩
      have g5 := ((s1.trans s2).trans s3).trans s4
      clear s1 s2 s3 s4
      walk_at "yy"
      refine ⟨by show 3 ≤ sizeLine; decide, fun l2 nl2 => ?_⟩
      have el2 : (upd D5 l2 (.lst [.ref p3, .ref p4, .ref p5])) l2 = some (.lst [.ref p3, .ref p4, .ref p5]) := upd_same
      have v2 : Same D5 (upd D5 l2 (.lst [.ref p3, .ref p4, .ref p5])) := same_new nl2
      generalize upd D5 l2 (.lst [.ref p3, .ref p4, .ref p5]) = F2 at el2 v2 ⊢
      refine ⟨l1, l2, _, _, rfl, rfl, (((g3.trans g4).trans g5).trans v2) _ _ el1, el2, by show 6 ≤ sizeLine; decide, fun l3 nl3 => ?_⟩
      have el3 : (upd F2 l3 (.lst ([.ref p0, .ref p1, .ref p2] ++ [.ref p3, .ref p4, .ref p5]))) l3 = some (.lst [.ref p0, .ref p1, .ref p2, .ref p3, .ref p4, .ref p5]) := upd_same
      have v3 : Same F2 (upd F2 l3 (.lst ([.ref p0, .ref p1, .ref p2] ++ [.ref p3, .ref p4, .ref p5]))) := same_new nl3
      have z5 := (v2.trans v3)
      have z4 := g5.trans z5
      have z3 := g4.trans z4
      have z2 := (v1.trans g3).trans z3
      have z1 := g2.trans z2
      have z0 := g1.trans z1
      have ep0 := z0 _ _ ep0
      have ep1 := z1 _ _ ep1
      have ep2 := z2 _ _ ep2
      have ep3 := z3 _ _ ep3
      have ep4 := z4 _ _ ep4
      have ep5 := z5 _ _ ep5
      generalize upd F2 l3 (.lst ([.ref p0, .ref p1, .ref p2] ++ [.ref p3, .ref p4, .ref p5])) = E0 at el3 ep0 ep1 ep2 ep3 ep4 ep5 ⊢
      clear z0 z1 z2 z3 z4 z5 v1 v2 v3 g0 g1 g2 g3 g4 g5
      walk_at "yy"
      refine ⟨by show 2 ≤ sizeLine; decide, fun t0 m0 => ?_⟩
      have k0 : (upd E0 t0 (.tup [.int (2), .int 5])) t0 = some (.tup [.int (2), .int 5]) := upd_same
      have s0 : Same E0 (upd E0 t0 (.tup [.int (2), .int 5])) := same_new m0
      generalize upd E0 t0 (.tup [.int (2), .int 5]) = E1 at k0 s0 ⊢
      walk_at "yy"
      refine ⟨by show 2 ≤ sizeLine; decide, fun t1 m1 => ?_⟩
      have k1 : (upd E1 t1 (.tup [.int (0), .int 1])) t1 = some (.tup [.int (0), .int 1]) := upd_same
      have s1 : Same E1 (upd E1 t1 (.tup [.int (0), .int 1])) := same_new m1
      generalize upd E1 t1 (.tup [.int (0), .int 1]) = E2 at k1 s1 ⊢
      walk_at "yy"
      refine ⟨by show 2 ≤ sizeLine; decide, fun t2 m2 => ?_⟩
      have k2 : (upd E2 t2 (.tup [.int (3), .int 1])) t2 = some (.tup [.int (3), .int 1]) := upd_same
      have s2 : Same E2 (upd E2 t2 (.tup [.int (3), .int 1])) := same_new m2
      generalize upd E2 t2 (.tup [.int (3), .int 1]) = E3 at k2 s2 ⊢
      walk_at "yy"
      refine ⟨by show 2 ≤ sizeLine; decide, fun t3 m3 => ?_⟩
      have k3 : (upd E3 t3 (.tup [.int (-1), .int 1])) t3 = some (.tup [.int (-1), .int 1]) := upd_same
      have s3 : Same E3 (upd E3 t3 (.tup [.int (-1), .int 1])) := same_new m3
      generalize upd E3 t3 (.tup [.int (-1), .int 1]) = E4 at k3 s3 ⊢
      walk_at "yy"
      refine ⟨by show 2 ≤ sizeLine; decide, fun t4 m4 => ?_⟩
      have k4 : (upd E4 t4 (.tup [.int (1), .int 6])) t4 = some (.tup [.int (1), .int 6]) := upd_same
      have s4 : Same E4 (upd E4 t4 (.tup [.int (1), .int 6])) := same_new m4
      generalize upd E4 t4 (.tup [.int (1), .int 6]) = E5 at k4 s4 ⊢
      walk_at "yy"
      refine ⟨by show 2 ≤ sizeLine; decide, fun t5 m5 => ?_⟩
      have k5 : (upd E5 t5 (.tup [.int (3), .int 2])) t5 = some (.tup [.int (3), .int 2]) := upd_same
      have s5 : Same E5 (upd E5 t5 (.tup [.int (3), .int 2])) := same_new m5
      generalize upd E5 t5 (.tup [.int (3), .int 2]) = E6 at k5 s5 ⊢
      walk_at "yy"
      have c6 : Same E6 E6 := Same.refl E6
      have c5 : Same E5 E6 := s5.trans c6
      have c4 : Same E4 E6 := s4.trans c5
      have c3 : Same E3 E6 := s3.trans c4
      have c2 : Same E2 E6 := s2.trans c3
      have c1 : Same E1 E6 := s1.trans c2
      have c0 : Same E0 E6 := s0.trans c1
      have k0 := c1 _ _ k0
      have k1 := c2 _ _ k1
      have k2 := c3 _ _ k2
      have k3 := c4 _ _ k3
      have k4 := c5 _ _ k4
      have k5 := c6 _ _ k5
      refine ⟨by show 6 ≤ sizeLine; decide, fun l4 nl4 => ?_⟩
      have c7 := c0.trans (same_new (o := .lst [.ref t0, .ref t1, .ref t2, .ref t3, .ref t4, .ref t5]) nl4)
      have c8 := same_new (o := .lst [.ref t0, .ref t1, .ref t2, .ref t3, .ref t4, .ref t5]) nl4
      refine ⟨.list [.tuple [.int (2), .int 5], .tuple [.int (0), .int 1], .tuple [.int (3), .int 1], .tuple [.int (-1), .int 1], .tuple [.int (1), .int 6], .tuple [.int (3), .int 2]], .list [.tuple [.int (2), .int 5], .tuple [.int (0), .int 1], .tuple [.int (3), .int 1], .tuple [.int (-1), .int 1], .tuple [.int (1), .int 6], .tuple [.int (3), .int 2]], .lst (sql (c7 _ _ el3)) (.cons (tp (c7 _ _ ep0)) (.cons (tp (c7 _ _ ep1)) (.cons (tp (c7 _ _ ep2)) (.cons (tp (c7 _ _ ep3)) (.cons (tp (c7 _ _ ep4)) (.cons (tp (c7 _ _ ep5)) .nil)))))), .lst (sql upd_same) (.cons (tp (c8 _ _ k0)) (.cons (tp (c8 _ _ k1)) (.cons (tp (c8 _ _ k2)) (.cons (tp (c8 _ _ k3)) (.cons (tp (c8 _ _ k4)) (.cons (tp (c8 _ _ k5)) .nil)))))), by decide +kernel, by decide +kernel, ?_⟩
      have e : PyData.eqv (.list [.tuple [.int (2), .int 5], .tuple [.int (0), .int 1], .tuple [.int (3), .int 1], .tuple [.int (-1), .int 1], .tuple [.int (1), .int 6], .tuple [.int (3), .int 2]]) (.list [.tuple [.int (2), .int 5], .tuple [.int (0), .int 1], .tuple [.int (3), .int 1], .tuple [.int (-1), .int 1], .tuple [.int (1), .int 6], .tuple [.int (3), .int 2]]) = true := by decide +kernel
      rw [e]
      exact k _
end
abbrev cC (K : PySem.W.Frag) : Addr := He.ga K "Ratio"
def d_is_integer : He5.DefA := ⟨fun K => He.ga K "is_integer", "is_integer", "is_integer", defArgs s_is_integer, defBody s_is_integer, defScope s_is_integer, [], []⟩
def d_is_fraction : He5.DefA := ⟨fun K => He.ga K "is_fraction", "is_fraction", "is_fraction", defArgs s_is_fraction, defBody s_is_fraction, defScope s_is_fraction, [], []⟩
def d_lowest : He5.DefA := ⟨fun K => He.ga K "lowest", "lowest", "lowest", defArgs s_lowest, defBody s_lowest, defScope s_lowest, [], []⟩
def d_short : He5.DefA := ⟨fun K => He.ga K "short", "short", "short", defArgs s_short, defBody s_short, defScope s_short, [], []⟩
def d_Ratio___init__ : He5.DefA := ⟨fun K => He.ma K (cC K) "__init__", "__init__", "Ratio.__init__", defArgs s_Ratio___init__, defBody s_Ratio___init__, defScope s_Ratio___init__, [.int 1], []⟩
def d_ratio : He5.DefA := ⟨fun K => He.ga K "_ratio", "_ratio", "_ratio", defArgs s_ratio, defBody s_ratio, defScope s_ratio, [], []⟩
def d_Ratio_pair : He5.DefA := ⟨fun K => He5.wf K (cC K) "property" "pair", "pair", "Ratio.pair", defArgs s_Ratio_pair, defBody s_Ratio_pair, defScope s_Ratio_pair, [], []⟩
def d_Ratio_bottom : He5.DefA := ⟨fun K => He5.wf K (cC K) "property" "bottom", "bottom", "Ratio.bottom", defArgs s_Ratio_bottom, defBody s_Ratio_bottom, defScope s_Ratio_bottom, [], []⟩
def d_operand : He5.DefA := ⟨fun K => He.ga K "_operand", "_operand", "_operand", defArgs s_operand, defBody s_operand, defScope s_operand, [], []⟩
def d_Ratio___add__ : He5.DefA := ⟨fun K => He.ma K (cC K) "__add__", "__add__", "Ratio.__add__", defArgs s_Ratio___add__, defBody s_Ratio___add__, defScope s_Ratio___add__, [], []⟩
def d_Ratio___neg__ : He5.DefA := ⟨fun K => He.ma K (cC K) "__neg__", "__neg__", "Ratio.__neg__", defArgs s_Ratio___neg__, defBody s_Ratio___neg__, defScope s_Ratio___neg__, [], []⟩
def d_Ratio___eq__ : He5.DefA := ⟨fun K => He.ma K (cC K) "__eq__", "__eq__", "Ratio.__eq__", defArgs s_Ratio___eq__, defBody s_Ratio___eq__, defScope s_Ratio___eq__, [], []⟩
def d_Ratio_is_below : He5.DefA := ⟨fun K => He.ma K (cC K) "is_below", "is_below", "Ratio.is_below", defArgs s_Ratio_is_below, defBody s_Ratio_is_below, defScope s_Ratio_is_below, [], []⟩
def d_Ratio_of : He5.DefA := ⟨fun K => He5.wf K (cC K) "classmethod" "of", "of", "Ratio.of", defArgs s_Ratio_of, defBody s_Ratio_of, defScope s_Ratio_of, [], []⟩
def d_law_dice : He5.DefA := ⟨fun K => He.ga K "_law_dice", "_law_dice", "_law_dice", defArgs s_law_dice, defBody s_law_dice, defScope s_law_dice, [], []⟩
def d_law_roll : He5.DefA := ⟨fun K => He.ga K "_law_roll", "_law_roll", "_law_roll", defArgs s_law_roll, defBody s_law_roll, defScope s_law_roll, [], []⟩
def d_law_pick : He5.DefA := ⟨fun K => He.ga K "_law_pick", "_law_pick", "_law_pick", defArgs s_law_pick, defBody s_law_pick, defScope s_law_pick, [], []⟩
def d_law_ratio : He5.DefA := ⟨fun K => He.ga K "_law_ratio", "_law_ratio", "_law_ratio", defArgs s_law_ratio, defBody s_law_ratio, defScope s_law_ratio, [], []⟩
def d_law_plus : He5.DefA := ⟨fun K => He.ga K "_law_plus", "_law_plus", "_law_plus", defArgs s_law_plus, defBody s_law_plus, defScope s_law_plus, [], []⟩
def d_law_fraction : He5.DefA := ⟨fun K => He.ga K "_law_fraction", "_law_fraction", "_law_fraction", defArgs s_law_fraction, defBody s_law_fraction, defScope s_law_fraction, [], []⟩
def d_simplest_above_zero : He5.DefA := ⟨fun K => He.ga K "_simplest_above_zero", "_simplest_above_zero", "_simplest_above_zero", defArgs s_simplest_above_zero, defBody s_simplest_above_zero, defScope s_simplest_above_zero, [], []⟩
def d_simplest : He5.DefA := ⟨fun K => He.ga K "simplest", "simplest", "simplest", defArgs s_simplest, defBody s_simplest, defScope s_simplest, [], []⟩
def d_Ratio_between : He5.DefA := ⟨fun K => He.ma K (cC K) "between", "between", "Ratio.between", defArgs s_Ratio_between, defBody s_Ratio_between, defScope s_Ratio_between, [], []⟩
def d_law_between : He5.DefA := ⟨fun K => He.ga K "_law_between", "_law_between", "_law_between", defArgs s_law_between, defBody s_law_between, defScope s_law_between, [], []⟩
def d_law_right : He5.DefA := ⟨fun K => He.ga K "_law_right", "_law_right", "_law_right", defArgs s_law_right, defBody s_law_right, defScope s_law_right, [], []⟩
def d_law : He5.DefA := ⟨fun K => He.ga K "law", "law", "law", defArgs s_law, defBody s_law, defScope s_law, [], []⟩
def fn : List He5.DefA := [d_is_integer, d_is_fraction, d_lowest, d_short, d_Ratio___init__, d_ratio, d_Ratio_pair, d_Ratio_bottom, d_operand, d_Ratio___add__, d_Ratio___neg__, d_Ratio___eq__, d_Ratio_is_below, d_Ratio_of, d_law_dice, d_law_roll, d_law_pick, d_law_ratio, d_law_plus, d_law_fraction, d_simplest_above_zero, d_simplest, d_Ratio_between, d_law_between, d_law_right, d_law]
def fa : List He.Fa := [.glo "Ratio", .cls "Ratio", .mkr "Ratio", .noat "Ratio" "_top", .noat "Ratio" "_bottom", .glo "is_integer", .glo "is_fraction", .glo "lowest", .glo "short", .glo "_ratio", .glo "_operand", .meth "Ratio" "__add__", .meth "Ratio" "__neg__", .meth "Ratio" "__eq__", .meth "Ratio" "is_below", .glo "_law_dice", .glo "_law_roll", .glo "_law_pick", .glo "_law_ratio", .glo "_law_plus", .glo "_law_fraction", .glo "_simplest_above_zero", .glo "simplest", .meth "Ratio" "between", .glo "_law_between", .glo "_law_right", .glo "law", .free "abs", .free "bool", .free "int", .free "isinstance", .free "len", .free "max", .free "min", .free "range", .free "sorted", .free "tuple", .int "MAX_DIGITS" 300, .int "LEAST_LONG" (10 ^ 300)]
def ex (K : PySem.W.Frag) : List Bool := [PySem.W.selfFirst K (cC K),
  decide (PySem.W.findIn K (.ref (cC K)) "__ne__" = some (some (.builtin "object.__ne__"))),
  decide (PySem.W.mroIn K (cC K) (.type "object") = some true),
  PySem.W.readsIn K (cC K) (.type "type"),
  decide (PySem.W.specialIn K (.ref (cC K)) "__getattribute__" = some (some (.builtin "type.__getattribute__"))),
  decide (PySem.W.findIn K (.ref (cC K)) "__class__" = some (some (.builtin "object.__class__"))),
  decide (PySem.W.specialIn K (.builtin "object.__class__") "__get__" = some (some (.builtin "getset_descriptor.__get__"))),
  decide (PySem.W.takesIn K (.builtin "object.__class__") = some true),
  decide (PySem.W.kitOne K (.type "int") (.ref (cC K)) = some false),
  decide (PySem.W.kitOne K (.type "tuple") (.ref (cC K)) = some false),
  decide (PySem.W.nsIn K mainGlobals "gcd" = some (some (.builtin "math.gcd"))),
  decide (PySem.W.findIn K (.ref (cC K)) (dunderR "add") = some none),
  (PySem.W.findIn K (.type "int") (PySem.dunder "add")).isSome,
  (PySem.W.findIn K (.type "int") (dunderR "add")).isSome,
  decide (PySem.W.subIn K (.type "int") (.ref (cC K)) = some false),
  propB K (cC K) "pair",
  propB K (cC K) "bottom",
  He5.wrapB K (cC K) "classmethod" "classmethod.__get__" "of",
  PySem.W.fnIn K (He5.wf K (cC K) "classmethod" "of")]
abbrev R : PySem.W.OpenRow := PySem.W.OpenLaw.row PySem.Challenge.rw_wonbyturns_k07_whole_fractions_between
def hk : PySem.W.Hook where
  α := He.AlD × List Bool
  obs := fun s => (He5.obsAG 5 fa fn s.heap.get?, ex (He.frG s.heap.get? (He5.asA s.heap.get? 5)))
  val := fun _ => (He5.valA fn, List.replicate 19 true)
  says := fun _ h => ∃ K : PySem.W.Frag, K.In h ∧ He5.SaysA fa fn K ∧ ex K = List.replicate 19 true
  of := fun _ _ e => ⟨_, He.frG_in, congrArg Prod.fst e, congrArg Prod.snd e⟩
  keeps := fun _ _ _ ⟨K, hK, c⟩ k => ⟨K, PySem.W.Frag.In.keeps hK k, c⟩
def ob (s : PySem.W.SharedT) : He.AlD × List Bool := (He5.obsAG 5 fa fn (HandSHeadRun.getT s), ex (He.frG (HandSHeadRun.getT s) (He5.asA (HandSHeadRun.getT s) 5)))
theorem ob_eq (s : PySem.W.SharedT) : ob s = hk.obs s.abs := by
  have e : HandSHeadRun.getT s = s.abs.heap.get? := funext fun a => HandSHeadRun.getT_eq s a
  unfold ob
  rw [e]
  rfl
def loose : List Str := [("_wall" : Str), ("__name__" : Str), ("GameError" : Str), ("InvalidFraction" : Str), ("InvalidOperation" : Str), ("ParseError" : Str), ("TooMany" : Str), ("MAX_DIGITS" : Str), ("LEAST_LONG" : Str), ("is_integer" : Str), ("is_fraction" : Str), ("lowest" : Str), ("short" : Str), ("text_of" : Str), ("pair_read" : Str), ("_are_digits" : Str), ("Ratio" : Str), ("_ratio" : Str), ("_operand" : Str), ("simplest" : Str), ("_simplest_above_zero" : Str), ("_law_dice" : Str), ("_law_roll" : Str), ("_law_pick" : Str), ("_law_ratio" : Str), ("_law_plus" : Str), ("_law_fraction" : Str), ("_law_between" : Str), ("_law_right" : Str)]
theorem run (w : World) : HandSHeadRun.RunEqI R (PySem.W.view R.prog [0, 34]) hk ob 20000 loose w := by
  unfold HandSHeadRun.RunEqI
  kernel_rfl
theorem facts {P : Program} {w : World} {K : PySem.W.Frag} {h : Heap} {mg : Str → Option Value} {f : Addr} (X : K.In h) (G : h.Ns mainGlobals mg) (hfa : mg ("law" : Str) = some (.ref f)) (c : He5.SaysA fa fn K) (cx : ex K = List.replicate 19 true) :
    ∃ fd : FuncData, (∀ (s : Shared) (v : Value), BindsTo s fd ⟨[v], []⟩ [("_law_script", v)]) ∧ ∀ base : Heap, K.In base → base.Ns mainGlobals mg → FnOk P w K mg base CX0 9 f fd ["_law_script"] (spLaw K) := by
  obtain ⟨fd_0, F_0⟩ := c.def_ 0 (d := d_is_integer) rfl
  obtain ⟨fd_1, F_1⟩ := c.def_ 1 (d := d_is_fraction) rfl
  obtain ⟨fd_2, F_2⟩ := c.def_ 2 (d := d_lowest) rfl
  obtain ⟨fd_3, F_3⟩ := c.def_ 3 (d := d_short) rfl
  obtain ⟨fd_4, F_4⟩ := c.def_ 4 (d := d_Ratio___init__) rfl
  obtain ⟨fd_5, F_5⟩ := c.def_ 5 (d := d_ratio) rfl
  obtain ⟨fd_6, F_6⟩ := c.def_ 6 (d := d_Ratio_pair) rfl
  obtain ⟨fd_7, F_7⟩ := c.def_ 7 (d := d_Ratio_bottom) rfl
  obtain ⟨fd_8, F_8⟩ := c.def_ 8 (d := d_operand) rfl
  obtain ⟨fd_9, F_9⟩ := c.def_ 9 (d := d_Ratio___add__) rfl
  obtain ⟨fd_10, F_10⟩ := c.def_ 10 (d := d_Ratio___neg__) rfl
  obtain ⟨fd_11, F_11⟩ := c.def_ 11 (d := d_Ratio___eq__) rfl
  obtain ⟨fd_12, F_12⟩ := c.def_ 12 (d := d_Ratio_is_below) rfl
  obtain ⟨fd_13, F_13⟩ := c.def_ 13 (d := d_Ratio_of) rfl
  obtain ⟨fd_14, F_14⟩ := c.def_ 14 (d := d_law_dice) rfl
  obtain ⟨fd_15, F_15⟩ := c.def_ 15 (d := d_law_roll) rfl
  obtain ⟨fd_16, F_16⟩ := c.def_ 16 (d := d_law_pick) rfl
  obtain ⟨fd_17, F_17⟩ := c.def_ 17 (d := d_law_ratio) rfl
  obtain ⟨fd_18, F_18⟩ := c.def_ 18 (d := d_law_plus) rfl
  obtain ⟨fd_19, F_19⟩ := c.def_ 19 (d := d_law_fraction) rfl
  obtain ⟨fd_20, F_20⟩ := c.def_ 20 (d := d_simplest_above_zero) rfl
  obtain ⟨fd_21, F_21⟩ := c.def_ 21 (d := d_simplest) rfl
  obtain ⟨fd_22, F_22⟩ := c.def_ 22 (d := d_Ratio_between) rfl
  obtain ⟨fd_23, F_23⟩ := c.def_ 23 (d := d_law_between) rfl
  obtain ⟨fd_24, F_24⟩ := c.def_ 24 (d := d_law_right) rfl
  obtain ⟨fd_25, F_25⟩ := c.def_ 25 (d := d_law) rfl
  have x_first : (PySem.W.selfFirst K (cC K)) = true := ex_at cx 0 rfl
  have x_ne : decide (PySem.W.findIn K (.ref (cC K)) "__ne__" = some (some (.builtin "object.__ne__"))) = true := ex_at cx 1 rfl
  have x_obj : decide (PySem.W.mroIn K (cC K) (.type "object") = some true) = true := ex_at cx 2 rfl
  have x_rd : (PySem.W.readsIn K (cC K) (.type "type")) = true := ex_at cx 3 rfl
  have x_ga : decide (PySem.W.specialIn K (.ref (cC K)) "__getattribute__" = some (some (.builtin "type.__getattribute__"))) = true := ex_at cx 4 rfl
  have x_cl : decide (PySem.W.findIn K (.ref (cC K)) "__class__" = some (some (.builtin "object.__class__"))) = true := ex_at cx 5 rfl
  have x_cg : decide (PySem.W.specialIn K (.builtin "object.__class__") "__get__" = some (some (.builtin "getset_descriptor.__get__"))) = true := ex_at cx 6 rfl
  have x_ct : decide (PySem.W.takesIn K (.builtin "object.__class__") = some true) = true := ex_at cx 7 rfl
  have x_ki : decide (PySem.W.kitOne K (.type "int") (.ref (cC K)) = some false) = true := ex_at cx 8 rfl
  have x_kt : decide (PySem.W.kitOne K (.type "tuple") (.ref (cC K)) = some false) = true := ex_at cx 9 rfl
  have x_gcd : decide (PySem.W.nsIn K mainGlobals "gcd" = some (some (.builtin "math.gcd"))) = true := ex_at cx 10 rfl
  have x_addr : decide (PySem.W.findIn K (.ref (cC K)) (dunderR "add") = some none) = true := ex_at cx 11 rfl
  have x_add1 : ((PySem.W.findIn K (.type "int") (PySem.dunder "add")).isSome) = true := ex_at cx 12 rfl
  have x_add2 : ((PySem.W.findIn K (.type "int") (dunderR "add")).isSome) = true := ex_at cx 13 rfl
  have x_sub : decide (PySem.W.subIn K (.type "int") (.ref (cC K)) = some false) = true := ex_at cx 14 rfl
  have x_p_pair : (propB K (cC K) "pair") = true := ex_at cx 15 rfl
  have x_p_bottom : (propB K (cC K) "bottom") = true := ex_at cx 16 rfl
  have x_w_of : (He5.wrapB K (cC K) "classmethod" "classmethod.__get__" "of") = true := ex_at cx 17 rfl
  have x_f_of : (PySem.W.fnIn K (He5.wf K (cC K) "classmethod" "of")) = true := ex_at cx 18 rfl
  have B : Blt mg := ⟨He.free_ok X G (c.fact 27 (f := .free "abs") rfl), He.free_ok X G (c.fact 28 (f := .free "bool") rfl), He.free_ok X G (c.fact 29 (f := .free "int") rfl), He.free_ok X G (c.fact 30 (f := .free "isinstance") rfl), He.free_ok X G (c.fact 31 (f := .free "len") rfl), He.free_ok X G (c.fact 32 (f := .free "max") rfl), He.free_ok X G (c.fact 33 (f := .free "min") rfl), He.free_ok X G (c.fact 34 (f := .free "range") rfl), He.free_ok X G (c.fact 35 (f := .free "sorted") rfl), He.free_ok X G (c.fact 36 (f := .free "tuple") rfl)⟩
  have Z : Con mg := ⟨He.int_ok X G (c.fact 37 (f := .int "MAX_DIGITS" 300) rfl), He.int_ok X G (c.fact 38 (f := .int "LEAST_LONG" (10 ^ 300)) rfl)⟩
  have T : RatioC K mg (cC K) := ⟨He.cls_ok (c.fact 1 (f := .cls "Ratio") rfl), He.noat_ok (c.fact 3 (f := .noat "Ratio" "_top") rfl), He.noat_ok (c.fact 4 (f := .noat "Ratio" "_bottom") rfl), He.glo_ok X G (c.fact 0 (f := .glo "Ratio") rfl), x_first, of_decide_eq_true x_ne, of_decide_eq_true x_obj, ⟨x_rd, of_decide_eq_true x_ga⟩, of_decide_eq_true x_cl, of_decide_eq_true x_cg, of_decide_eq_true x_ct, of_decide_eq_true x_ki, of_decide_eq_true x_kt, PySem.W.mg_of X G (of_decide_eq_true x_gcd)⟩
  have I_add : IntSide K (cC K) "add" := ⟨of_decide_eq_true x_addr, Option.isSome_iff_exists.mp x_add1, Option.isSome_iff_exists.mp x_add2, of_decide_eq_true x_sub⟩
  have e := hfa.symm.trans (He.glo_ok X G (c.fact 26 (f := .glo "law") rfl))
  cases e
  have b := FunD.bindsA (ps := ["_law_script"]) F_25 fun _ _ _ _ _ _ us hl => match us, hl with | [_], _ => rfl
  refine ⟨fd_25, fun s v => b s [v] rfl, fun base _ _ => ?_⟩
  have C_is_integer : Cal P w K mg base 1 "is_integer" ["value"] spIsInt := ⟨_, _, (ok_is_integer F_0 B Z T), He.glo_ok X G (c.fact 5 (f := .glo "is_integer") rfl), F_0.kp, (F_0.bindsN (ps := ["value"]) fun _ _ _ _ _ _ us hl => match us, hl with | [_], _ => rfl)⟩
  have C_is_fraction : Cal P w K mg base 2 "is_fraction" ["value"] (spIsFrac K) := ⟨_, _, (ok_is_fraction F_1 B Z T C_is_integer), He.glo_ok X G (c.fact 6 (f := .glo "is_fraction") rfl), F_1.kp, (F_1.bindsN (ps := ["value"]) fun _ _ _ _ _ _ us hl => match us, hl with | [_], _ => rfl)⟩
  have C_lowest : Cal P w K mg base 1 "lowest" ["top", "bottom"] spLowest := ⟨_, _, (ok_lowest F_2 B Z T), He.glo_ok X G (c.fact 7 (f := .glo "lowest") rfl), F_2.kp, (F_2.bindsN (ps := ["top", "bottom"]) fun _ _ _ _ _ _ us hl => match us, hl with | [_, _], _ => rfl)⟩
  have C_short : Cal P w K mg base 2 "short" ["pair"] spShort := ⟨_, _, (ok_short F_3 B Z T C_is_integer), He.glo_ok X G (c.fact 8 (f := .glo "short") rfl), F_3.kp, (F_3.bindsN (ps := ["pair"]) fun _ _ _ _ _ _ us hl => match us, hl with | [_], _ => rfl)⟩
  obtain ⟨ds_3, v_3, b_3⟩ := F_4.binds1 (ps := ["self", "top", "bottom"]) 3 1 (by simp [He5.DefA.dvs, d_Ratio___init__]) rfl fun _ _ _ _ _ _ _ us its hu hi => match us, its, hu, hi with | [_, _, _], [_], _, _ => ⟨_, rfl, rfl⟩
  have C_Ratio_2 : Mkr P w K mg base 2 "Ratio" (cC K) (spInit (cC K)) [] := ⟨_, _, _, _, (ok_Ratio___init__ F_4 B Z T C_is_integer C_lowest), He.mkr_ok (c.fact 2 (f := .mkr "Ratio") rfl), He.glo_ok X G (c.fact 0 (f := .glo "Ratio") rfl), b_3, v_3⟩
  obtain ⟨ds_2, v_2, b_2⟩ := F_4.binds1 (ps := ["self", "top", "bottom"]) 2 0 (by simp [He5.DefA.dvs, d_Ratio___init__]) rfl fun _ _ _ _ _ _ _ us its hu hi => match us, its, hu, hi with | [_, _], [_], _, _ => ⟨_, rfl, rfl⟩
  have C_Ratio_1 : Mkr P w K mg base 2 "Ratio" (cC K) (spInit (cC K)) [.int 1] := ⟨_, _, _, _, (ok_Ratio___init__ F_4 B Z T C_is_integer C_lowest), He.mkr_ok (c.fact 2 (f := .mkr "Ratio") rfl), He.glo_ok X G (c.fact 0 (f := .glo "Ratio") rfl), b_2, v_2⟩
  have C_ratio : Cal P w K mg base 4 "_ratio" ["top", "bottom"] (spRatio (cC K)) := ⟨_, _, (ok_ratio F_5 B Z T C_lowest C_short C_Ratio_2), He.glo_ok X G (c.fact 9 (f := .glo "_ratio") rfl), F_5.kp, (F_5.bindsN (ps := ["top", "bottom"]) fun _ _ _ _ _ _ us hl => match us, hl with | [_, _], _ => rfl)⟩
  have C_Ratio_pair : Prp P w K mg base 1 (cC K) "pair" (spPair (cC K)) := ⟨_, _, _, (ok_Ratio_pair F_6 B Z T), propB_ok x_p_pair, (F_6.bindsN (ps := ["self"]) fun _ _ _ _ _ _ us hl => match us, hl with | [_], _ => rfl)⟩
  have C_Ratio_bottom : Prp P w K mg base 1 (cC K) "bottom" (spBot (cC K)) := ⟨_, _, _, (ok_Ratio_bottom F_7 B Z T), propB_ok x_p_bottom, (F_7.bindsN (ps := ["self"]) fun _ _ _ _ _ _ us hl => match us, hl with | [_], _ => rfl)⟩
  have C_operand : Cal P w K mg base 3 "_operand" ["value"] (spOper (cC K)) := ⟨_, _, (ok_operand F_8 B Z T C_Ratio_pair C_is_integer), He.glo_ok X G (c.fact 10 (f := .glo "_operand") rfl), F_8.kp, (F_8.bindsN (ps := ["value"]) fun _ _ _ _ _ _ us hl => match us, hl with | [_], _ => rfl)⟩
  have C_Ratio___add__ : Mth P w K mg base 5 (cC K) "__add__" ["self", "other"] (spAdd (cC K)) := ⟨_, _, (ok_Ratio___add__ F_9 B Z T C_operand C_ratio), He.meth_ok (c.fact 11 (f := .meth "Ratio" "__add__") rfl), (F_9.bindsN (ps := ["self", "other"]) fun _ _ _ _ _ _ us hl => match us, hl with | [_, _], _ => rfl)⟩
  have C_Ratio___neg__ : Mth P w K mg base 5 (cC K) "__neg__" ["self"] (spNeg (cC K)) := ⟨_, _, (ok_Ratio___neg__ F_10 B Z T C_ratio), He.meth_ok (c.fact 12 (f := .meth "Ratio" "__neg__") rfl), (F_10.bindsN (ps := ["self"]) fun _ _ _ _ _ _ us hl => match us, hl with | [_], _ => rfl)⟩
  have C_Ratio___eq__ : Mth P w K mg base 1 (cC K) "__eq__" ["self", "other"] (spEqR (cC K)) := ⟨_, _, (ok_Ratio___eq__ F_11 B Z T), He.meth_ok (c.fact 13 (f := .meth "Ratio" "__eq__") rfl), (F_11.bindsN (ps := ["self", "other"]) fun _ _ _ _ _ _ us hl => match us, hl with | [_, _], _ => rfl)⟩
  have C_Ratio_is_below : Mth P w K mg base 4 (cC K) "is_below" ["self", "other"] (spBelow (cC K)) := ⟨_, _, (ok_Ratio_is_below F_12 B Z T C_operand), He.meth_ok (c.fact 14 (f := .meth "Ratio" "is_below") rfl), (F_12.bindsN (ps := ["self", "other"]) fun _ _ _ _ _ _ us hl => match us, hl with | [_, _], _ => rfl)⟩
  have C_Ratio_of : Cmt P w K mg base 4 (cC K) "of" (spOf (cC K)) := cmt_of (ok_Ratio_of F_13 B Z T C_is_fraction C_Ratio_2) (F_13.bindsN (ps := ["cls", "pair"]) fun _ _ _ _ _ _ us hl => match us, hl with | [_, _], _ => rfl) (He5.cmet_of x_w_of x_f_of) T.rd
  have C_law_dice : Cal P w K mg base 1 "_law_dice" ["_law_script", "_law_spot"] (spDice K) := ⟨_, _, (ok_law_dice F_14 B Z T), He.glo_ok X G (c.fact 15 (f := .glo "_law_dice") rfl), F_14.kp, (F_14.bindsN (ps := ["_law_script", "_law_spot"]) fun _ _ _ _ _ _ us hl => match us, hl with | [_, _], _ => rfl)⟩
  have C_law_roll : Cal P w K mg base 1 "_law_roll" ["_law_dice_here", "_law_total"] spRoll := ⟨_, _, (ok_law_roll F_15 B Z T), He.glo_ok X G (c.fact 16 (f := .glo "_law_roll") rfl), F_15.kp, (F_15.bindsN (ps := ["_law_dice_here", "_law_total"]) fun _ _ _ _ _ _ us hl => match us, hl with | [_, _], _ => rfl)⟩
  have C_law_pick : Cal P w K mg base 2 "_law_pick" ["_law_dice_here", "_law_items"] (spPick K) := ⟨_, _, (ok_law_pick F_16 B Z T C_law_roll), He.glo_ok X G (c.fact 17 (f := .glo "_law_pick") rfl), F_16.kp, (F_16.bindsN (ps := ["_law_dice_here", "_law_items"]) fun _ _ _ _ _ _ us hl => match us, hl with | [_, _], _ => rfl)⟩
  have C_law_ratio : Cal P w K mg base 1 "_law_ratio" ["_law_top", "_law_bottom"] spLRatio := ⟨_, _, (ok_law_ratio F_17 B Z T), He.glo_ok X G (c.fact 18 (f := .glo "_law_ratio") rfl), F_17.kp, (F_17.bindsN (ps := ["_law_top", "_law_bottom"]) fun _ _ _ _ _ _ us hl => match us, hl with | [_, _], _ => rfl)⟩
  have C_law_plus : Cal P w K mg base 2 "_law_plus" ["_law_one", "_law_other"] (spLPlus K) := ⟨_, _, (ok_law_plus F_18 B Z T C_law_ratio), He.glo_ok X G (c.fact 19 (f := .glo "_law_plus") rfl), F_18.kp, (F_18.bindsN (ps := ["_law_one", "_law_other"]) fun _ _ _ _ _ _ us hl => match us, hl with | [_, _], _ => rfl)⟩
  have C_law_fraction : Cal P w K mg base 3 "_law_fraction" ["_law_dice_here"] spLFrac := ⟨_, _, (ok_law_fraction F_19 B Z T C_law_roll C_law_pick C_law_ratio), He.glo_ok X G (c.fact 20 (f := .glo "_law_fraction") rfl), F_19.kp, (F_19.bindsN (ps := ["_law_dice_here"]) fun _ _ _ _ _ _ us hl => match us, hl with | [_], _ => rfl)⟩
  have C_simplest_above_zero : Cal P w K mg base 1 "_simplest_above_zero" ["low", "high"] (spSaz K) := ⟨_, _, (ok_simplest_above_zero F_20 B Z T), He.glo_ok X G (c.fact 21 (f := .glo "_simplest_above_zero") rfl), F_20.kp, (F_20.bindsN (ps := ["low", "high"]) fun _ _ _ _ _ _ us hl => match us, hl with | [_, _], _ => rfl)⟩
  have C_simplest : Cal P w K mg base 2 "simplest" ["low", "high"] (spSimp K) := ⟨_, _, (ok_simplest F_21 B Z T C_simplest_above_zero), He.glo_ok X G (c.fact 22 (f := .glo "simplest") rfl), F_21.kp, (F_21.bindsN (ps := ["low", "high"]) fun _ _ _ _ _ _ us hl => match us, hl with | [_, _], _ => rfl)⟩
  have C_Ratio_between : Mth P w K mg base 6 (cC K) "between" ["self", "other"] (spBetween (cC K)) := ⟨_, _, (ok_Ratio_between F_22 B Z T C_Ratio___eq__ C_Ratio_is_below C_Ratio_pair C_simplest C_ratio), He.meth_ok (c.fact 23 (f := .meth "Ratio" "between") rfl), (F_22.bindsN (ps := ["self", "other"]) fun _ _ _ _ _ _ us hl => match us, hl with | [_, _], _ => rfl)⟩
  have C_law_between : Cal P w K mg base 2 "_law_between" ["_law_low", "_law_high"] (spLBetween K) := ⟨_, _, (ok_law_between F_23 B Z T C_law_ratio), He.glo_ok X G (c.fact 24 (f := .glo "_law_between") rfl), F_23.kp, (F_23.bindsN (ps := ["_law_low", "_law_high"]) fun _ _ _ _ _ _ us hl => match us, hl with | [_, _], _ => rfl)⟩
  have C_law_right : Cal P w K mg base 8 "_law_right" ["_law_dice_here"] spRight := ⟨_, _, (ok_law_right F_24 B Z T C_law_fraction C_law_pick C_law_plus C_Ratio_of C_Ratio_between C_Ratio_pair C_Ratio_bottom C_law_between C_Ratio_is_below C_Ratio___neg__ C_Ratio___add__ C_Ratio___eq__ I_add), He.glo_ok X G (c.fact 25 (f := .glo "_law_right") rfl), F_24.kp, (F_24.bindsN (ps := ["_law_dice_here"]) fun _ _ _ _ _ _ us hl => match us, hl with | [_], _ => rfl)⟩
  exact (ok_law F_25 B Z T C_law_dice C_law_right C_Ratio_2 C_Ratio_1 C_Ratio_between C_Ratio_pair)
end K07
open PySem PySem.W PySem.Calls PyProof.Rows
set_option maxHeartbeats 0 in
theorem PySem.Challenge.cw_wonbyturns_k07_whole_fractions_between_holds : PySem.Challenge.rw_wonbyturns_k07_whole_fractions_between.Holds := by
  w_on; o_law
  refine HandSHeadRun.head_imp (r := OpenLaw.row PySem.Challenge.rw_wonbyturns_k07_whole_fractions_between) (q := view (OpenLaw.row PySem.Challenge.rw_wonbyturns_k07_whole_fractions_between).prog [0, 34]) (H := K07.hk) (ob := K07.ob) (M := 20000) (loose := K07.loose) (d := HandSHeadRun.topDef (OpenLaw.row PySem.Challenge.rw_wonbyturns_k07_whole_fractions_between).prog 34) (kwd := []) K07.ob_eq K07.run
    (by kernel_rfl) (by kernel_rfl) (by kernel_rfl) (by rfl) (by first | assumption | decide +kernel) (by decide +kernel) ⟨rfl, rfl, rfl, rfl, rfl, by decide +kernel⟩ ?hw ?hc
  case hw => w_witness2
  case hc =>
    refine L2.walk_ofE (l := PySem.Challenge.rw_wonbyturns_k07_whole_fractions_between) (n := 63) (k := 9) (x := "_law_script") (CX := L2.CX0) rfl (by decide) (by kernel_rfl) ⟨rfl, by decide, by decide⟩ ?F (fun _ _ _ _ z => z)
    intro w mg fa h Y G hmg0
    obtain ⟨K, KX, c, cx⟩ := Y
    have hmg : mg ("law" : PySem.Str) = some (.ref fa) := by
      have e : (HandSHeadRun.topDef (OpenLaw.row PySem.Challenge.rw_wonbyturns_k07_whole_fractions_between).prog 34).name = ("law" : PySem.Str) := by kernel_rfl
      rw [← e]
      exact hmg0
    obtain ⟨fd, hb, hF⟩ := K07.facts (P := (PySem.Challenge.rw_wonbyturns_k07_whole_fractions_between).prog) (w := w) KX G hmg c cx
    exact ⟨K, fd, _, KX, hb, fun H a ns hl _ hS => ⟨a, ns, rfl, hS, hl, fun _ => rfl⟩, hF⟩
