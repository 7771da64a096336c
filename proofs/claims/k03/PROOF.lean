import PyProof.Rows.All
import Wide.All
import OpenK.AllK
import Wide.FinOn
import HandS.ForMost
import HandS.Wide
import HandS.IsInst
import HandS.Walk
import HandS.Defaults
import HandS.Head0
import HandS.Head1
import HandS.Head2
import HandS.HeadEnd
import HandS.HeadHook1
import HandS.HeadHook2
import HandS.OwnEq
import HandS.Property
import HandS.ClsMeth
import HandS.HeadNt
import HandS.Gcd
import HandS.CallLocal
import HandS.Codes
import KE.KOpsOwn
import KE.KCallOwn
import KE.KFmtOwn
import PyProof.InstNe
import PyProof.Rows.RuleN_abs
import HandS.Style
import HandS.Head3
import HandS.SortRule
import HandS.FStr
import HandS.RaiseMore
import HandS.Text
import KE.KIntText
import KE.IntTextText
import HandS.StrMore
import HandS.Exc
import HandS.ExcOwn
import HandS.ExcInit
import HandS.ExcField
import HandS.WordsExc
import HandS.TryOnly
import HandS.TupLe
import HandS.Zip
import KE.KMathG
import HandS.SortOrd
import HandS.ListItems
import KE.KDictCopyH
import HandS.More
import HandS.SetKeys
import KE.KDictKeyed
import HandS.TupSets
import HandS.TupMul
import PySem.Challenge.RW_wonbyturns_k03_games_judged
set_option Elab.async false
set_option linter.all false
set_option maxRecDepth 100000
set_option maxHeartbeats 4000000
/-! k03: games judged -/
/-! My own rules beside the layer, and the reading's steps by name. -/
namespace Ow
open PySem PySem.Spec PyProof.Rows L2

/-! ### operations that the layer's rules do not reach -/
section
variable {X : Cx}
/-- a power of a great base -/
def CPowW (i j : Int) : Prop := 0 ≤ j ∧ (Builtin.Int.intBits i : Int) * j ≤ 2 ^ 27
theorem op_powW : OpR X (binaryOp .Pow) (rI CPowW fun i j => .int (i ^ j.toNat)) := opI fun _ _ _ _ _ _ _ hc q => pow_int hc.1 hc.2 q
/-- repr of a truth value -/
def rReprB : List V → Hp → VK → Prop := fun xs H Q => ∃ k : Bool, xs = [.bl k] ∧ Q (.str (if k then "True" else "False")) H
theorem c_reprB : CallR X (.builtin "repr") rReprB := by
  intro pins s σ H xs us Q I r h
  obtain ⟨k, rfl, q⟩ := h
  obtain ⟨u, rfl, rx⟩ := vals1 r
  cases (show u = Value.bool k from rx)
  exact PySem.P.repr_of_bool ⟨.str _, H, I.tok _, ⟨_, rfl⟩, q⟩
/-- the chrs of a text, one by one -/
def chrs (z : Str) : List V := z.cps.toList.map fun c => V.str ⟨#[c]⟩
/-- list(text) -/
def rListS : List V → Hp → VK → Prop := fun xs H Q => ∃ z : Str, xs = [.str z] ∧ z.cps.size ≤ 100000 ∧ ∀ p, H p = none → Q (.ref p) (upd H p (.lst (chrs z)))
theorem vals_chrs : ∀ (l : List Nat) (us : List Value), us.length = l.length → (∀ i, (h : i < l.length) → ∃ c t, l[i]? = some c ∧ us[i]? = some (Value.str ⟨#[c]⟩ t)) → Vals (l.map fun c => V.str ⟨#[c]⟩) us
  | [], [], _, _ => .nil
  | [], _ :: _, h, _ => by simp at h
  | _ :: _, [], h, _ => by simp at h
  | c :: l, u :: us, h, k => by
    obtain ⟨c', t, e1, e2⟩ := k 0 (by simp)
    simp at e1 e2
    subst e1
    subst e2
    refine .cons ⟨t, rfl⟩ (vals_chrs l us (by simpa using h) fun i hi => ?_)
    obtain ⟨c2, t2, e3, e4⟩ := k (i + 1) (by simpa using hi)
    exact ⟨c2, t2, by simpa using e3, by simpa using e4⟩
theorem c_listS (hc : X.calm = true) : CallR X (.type "list") rListS := by
  intro pins s σ H xs us Q I r h
  obtain ⟨z, rfl, hz, q⟩ := h
  obtain ⟨u, rfl, t, rfl⟩ := vals1 r
  have hh : X.A.handled = none := I.ok.hd hc
  refine call_list_str hh z t (fun h' tk acc' c' kp e it => ?_) (Nat.le_trans hz (by decide))
  refine ⟨.ref s.heap.objs.size, _, I.laid (t' := tk) kp (Nat.le_refl _) (show ObjOk X.prog X.w _ h' _ (.lst (chrs z)) from ?_), rfl, q _ (I.hok.fresh (Nat.le_refl _))⟩
  refine ⟨by unfold chrs; rw [List.length_map, Array.length_toList]; exact Nat.le_trans hz (by decide), acc'.toList, c', ?_, e⟩
  refine vals_chrs z.cps.toList acc'.toList (by rw [Array.length_toList, Array.length_toList, it.1]) fun i hi => ?_
  have hi2 : i < acc'.size := by
    rw [it.1]
    simpa using hi
  obtain ⟨c, u, e1, e2⟩ := it.2 i acc'[i] (by simp [hi2])
  exact ⟨c, u, by simpa using e1, by simp [hi2, e2]⟩
end

/-! ### readings by name: each is the reading's own sense, so that a step is found by its head -/
section
variable {σ : L2.St} {H : Hp} {Q : VK} {ta tb te : TE} {tr ts : TA} {n b c : L2.St → Hp → Prop} {rt : VK} {K : PySem.W.Frag}
theorem y_seq {t u : TS} (h : t ⟨u ⟨n, rt, b, c⟩, rt, b, c⟩ σ H) : tSeq t u ⟨n, rt, b, c⟩ σ H := h
theorem y_next (h : n σ H) : tNext ⟨n, rt, b, c⟩ σ H := h
theorem y_asg {g : TG} (h : te σ H fun x H1 => g x σ H1 n) : tAsg te g ⟨n, rt, b, c⟩ σ H := h
theorem y_name {i : Nat} {v : V} {R : L2.St → Hp → Prop} (h : R (σ.set i (some v)) H) : gName i v σ H R := h
theorem y_sub {to ti : TE} {t : TSet} {v : V} {R : L2.St → Hp → Prop} (h : to σ H fun o H1 => ti σ H1 fun i H2 => t o i v H2 fun H3 => R σ H3) : gSub to ti t v σ H R := h
theorem y_ret (h : te σ H rt) : tRet te ⟨n, rt, b, c⟩ σ H := h
theorem y_drop (h : te σ H fun _ H1 => n σ H1) : tDrop te ⟨n, rt, b, c⟩ σ H := h
theorem y_ifs {tc : TT} {t u : TS} (h : tc σ H fun k H1 => if k = true then t ⟨n, rt, b, c⟩ σ H1 else u ⟨n, rt, b, c⟩ σ H1) : tIfS tc t u ⟨n, rt, b, c⟩ σ H := h
theorem y_for {wi : TI} {g : TG} {t : TS} (h : wi σ H fun J H1 => ∃ W : Nat → Nat → L2.St → Hp → Prop, (∃ m, W 0 m σ H1) ∧ ∀ i m σ H, W i m σ H →
  (J.stop i H ∧ n σ H) ∨ (J.go i H ∧ ∃ N : L2.St → Hp → Prop, (∀ σ' H', N σ' H' → ∃ m', m' < m ∧ W (i + 1) m' σ' H') ∧ ∀ x H', J.yld i H x H' → g x σ H' fun σ2 H2 => t ⟨N, rt, n, N⟩ σ2 H2)) : tFor wi g t ⟨n, rt, b, c⟩ σ H := h
theorem y_var {i : Nat} {v : V} (e : σ[i]? = some (some v)) (h : Q v H) : tVar i σ H Q := ⟨v, e, h⟩
theorem y_var2 {i : Nat} (h : ∃ v, σ[i]? = some (some v) ∧ Q v H) : tVar i σ H Q := h
theorem y_con {v : V} (h : Q v H) : tC v σ H Q := h
theorem y_op {r : R2} (h : ta σ H fun x H1 => tb σ H1 fun y H2 => r x y H2 Q) : tOp r ta tb σ H Q := h
theorem y_un {r : V → Hp → VK → Prop} (h : ta σ H fun x H1 => r x H1 Q) : tUn r ta σ H Q := h
theorem y_nil {R : List V → Hp → Prop} (h : R [] H) : tNil σ H R := h
theorem y_cons {R : List V → Hp → Prop} (h : ta σ H fun x H1 => tr σ H1 fun xs H2 => R (x :: xs) H2) : tCons ta tr σ H R := h
theorem y_cb {r : List V → Hp → VK → Prop} (h : tr σ H fun vs H1 => r vs H1 Q) : tCB r tr σ H Q := h
theorem y_I0 {g : Int → Int → V} {i j : Int} (h : Q (g i j) H) : rI0 g (.int i) (.int j) H Q := ⟨i, j, rfl, rfl, h⟩
theorem y_I {C : Int → Int → Prop} {g : Int → Int → V} {i j : Int} (e : C i j) (h : Q (g i j) H) : rI C g (.int i) (.int j) H Q := ⟨i, j, rfl, rfl, e, h⟩
theorem y_test {R : Bool → Hp → Prop} (h : te σ H fun x H' => ∃ k, x = .bl k ∧ R k H') : tTest te σ H R := h
theorem y_B {R : Bool → Hp → Prop} (h : te σ H fun x H' => ∃ k, x = .bl k ∧ R k H') : tB te σ H R := h
theorem y_bl {k : Bool} {R : Bool → Prop} (h : R k) : ∃ k', V.bl k = .bl k' ∧ R k' := ⟨k, rfl, h⟩
theorem y_not {t : TT} {R : Bool → Hp → Prop} (h : t σ H fun k H1 => R (!k) H1) : tNot t σ H R := h
theorem y_and {t u : TT} {R : Bool → Hp → Prop} (h : t σ H fun k H1 => if k = true then u σ H1 R else R false H1) : tAnd t u σ H R := h
theorem y_or {t u : TT} {R : Bool → Hp → Prop} (h : t σ H fun k H1 => if k = true then R true H1 else u σ H1 R) : tOr t u σ H R := h
theorem y_if {t : TT} (h : t σ H fun k H1 => if k = true then ta σ H1 Q else tb σ H1 Q) : tIf t ta tb σ H Q := h
theorem y_chain {r r' : R2} (h : ta σ H fun x H1 => tb σ H1 fun y H2 => r x y H2 fun z H3 => ∃ k, z = .bl k ∧ (if k = true then te σ H3 fun w' H4 => r' y w' H4 Q else Q (.bl false) H3)) : tChain r r' ta tb te σ H Q := h
theorem y_andV (h : ta σ H fun x H1 => ∃ k, x = .bl k ∧ if k = true then tb σ H1 Q else Q (.bl false) H1) : tAndV ta tb σ H Q := h
theorem y_orV (h : ta σ H fun x H1 => ∃ k, x = .bl k ∧ if k = true then Q (.bl true) H1 else tb σ H1 Q) : tOrV ta tb σ H Q := h
theorem y_yes {R : Bool → Hp → Prop} (h : R true H) : tYes σ H R := h
theorem y_lst {t : TA} (h : t σ H fun xs H1 => xs.length ≤ sizeLine ∧ ∀ p, H1 p = none → Q (.ref p) (upd H1 p (.lst xs))) : tLst t σ H Q := h
theorem y_tup {t : TA} (h : t σ H fun xs H1 => xs.length ≤ sizeLine ∧ ∀ p, H1 p = none → Q (.ref p) (upd H1 p (.tup xs))) : tTup t σ H Q := h
theorem y_eqI {i j : Int} (h : Q (.bl (decide (i = j))) H) : rEq (.int i) (.int j) H Q := ⟨rfl, by
  have e : decide (V.int i = V.int j) = decide (i = j) := by
    rw [decide_eq_decide]
    exact ⟨fun z => V.int.inj z, fun z => by rw [z]⟩
  rw [e]
  exact h⟩
theorem y_neI {i j : Int} (h : Q (.bl (!decide (i = j))) H) : rNe (.int i) (.int j) H Q := ⟨rfl, by
  have e : decide (V.int i = V.int j) = decide (i = j) := by
    rw [decide_eq_decide]
    exact ⟨fun z => V.int.inj z, fun z => by rw [z]⟩
  rw [e]
  exact h⟩
theorem y_eqS {i j : Str} (h : Q (.bl (decide (i = j))) H) : rEq (.str i) (.str j) H Q := ⟨rfl, by
  have e : decide (V.str i = V.str j) = decide (i = j) := by
    rw [decide_eq_decide]
    exact ⟨fun z => V.str.inj z, fun z => by rw [z]⟩
  rw [e]
  exact h⟩
theorem y_neS {i j : Str} (h : Q (.bl (!decide (i = j))) H) : rNe (.str i) (.str j) H Q := ⟨rfl, by
  have e : decide (V.str i = V.str j) = decide (i = j) := by
    rw [decide_eq_decide]
    exact ⟨fun z => V.str.inj z, fun z => by rw [z]⟩
  rw [e]
  exact h⟩
/-- calls, by values -/
def rIntI : List V → Hp → VK → Prop := fun xs H Q => (∃ i, xs = [.int i] ∧ Q (.int i) H) ∨ ∃ k, xs = [.bl k] ∧ Q (.int (if k then 1 else 0)) H
theorem c_int {X : Cx} : CallR X (.type "int") rIntI := call_int1
theorem y_intI {i : Int} (h : Q (.int i) H) : rIntI [.int i] H Q := .inl ⟨i, rfl, h⟩
theorem y_intB {k : Bool} (h : Q (.int (if k then 1 else 0)) H) : rIntI [.bl k] H Q := .inr ⟨k, rfl, h⟩
def rAbs : List V → Hp → VK → Prop := fun xs H Q => ∃ i, xs = [.int i] ∧ Q (.int (if i < 0 then -i else i)) H
theorem c_abs {X : Cx} : CallR X (.builtin "abs") rAbs := call_abs
theorem y_abs {i : Int} (h : Q (.int (i.natAbs : Int)) H) : rAbs [.int i] H Q := ⟨i, rfl, by
  have e : (if i < 0 then -i else i) = (i.natAbs : Int) := by split <;> omega
  rw [e]
  exact h⟩
def rMax2 : List V → Hp → VK → Prop := fun xs H Q => ∃ i j, xs = [.int i, .int j] ∧ Q (.int (if j > i then j else i)) H
theorem c_max2 {X : Cx} (hc : X.calm = true) : CallR X (.builtin "max") rMax2 := call_max2 hc
theorem y_max2 {i j : Int} (h : Q (.int (max i j)) H) : rMax2 [.int i, .int j] H Q := ⟨i, j, rfl, by
  have e : (if j > i then j else i) = max i j := by split <;> omega
  rw [e]
  exact h⟩
def rMin2 : List V → Hp → VK → Prop := fun xs H Q => ∃ i j, xs = [.int i, .int j] ∧ Q (.int (if j < i then j else i)) H
theorem c_min2 {X : Cx} (hc : X.calm = true) : CallR X (.builtin "min") rMin2 := call_min2 hc
theorem y_min2 {i j : Int} (h : Q (.int (min i j)) H) : rMin2 [.int i, .int j] H Q := ⟨i, j, rfl, by
  have e : (if j < i then j else i) = min i j := by split <;> omega
  rw [e]
  exact h⟩
def rLenQ (K : PySem.W.Frag) : List V → Hp → VK → Prop := fun xs H Q => ∃ p ys, xs = [.ref p] ∧ (SqL K H p ys ∨ SqT K H p ys) ∧ Q (.int ys.length) H
theorem c_lenQ {X : Cx} {K : PySem.W.Frag} (h : X.K = K := by rfl) : CallR X (.builtin "len") (rLenQ K) := h ▸ call_len_seq
theorem y_lenL {p : Addr} {ys : List V} (e : SqL K H p ys) (h : Q (.int ys.length) H) : rLenQ K [.ref p] H Q := ⟨p, ys, rfl, .inl e, h⟩
theorem y_lenT {p : Addr} {ys : List V} (e : SqT K H p ys) (h : Q (.int ys.length) H) : rLenQ K [.ref p] H Q := ⟨p, ys, rfl, .inr e, h⟩
def rLenS : List V → Hp → VK → Prop := fun xs H Q => ∃ z, xs = [.str z] ∧ z.length ≤ sizeLine ∧ Q (.int z.length) H
theorem c_lenS {X : Cx} : CallR X (.builtin "len") rLenS := call_len_str
theorem y_lenS {z : Str} (e : z.length ≤ 100000) (h : Q (.int z.length) H) : rLenS [.str z] H Q := ⟨z, rfl, Nat.le_trans e (by decide), h⟩
theorem y_reprB {k : Bool} (h : Q (.str (if k then "True" else "False")) H) : rReprB [.bl k] H Q := ⟨k, rfl, h⟩
theorem y_listS {z : Str} (e : z.cps.size ≤ 100000) (h : ∀ p, H p = none → Q (.ref p) (upd H p (.lst (chrs z)))) : rListS [.str z] H Q := ⟨z, rfl, e, h⟩
def rListQ (K : PySem.W.Frag) : List V → Hp → VK → Prop := fun xs H Q => ∃ p ys, xs = [.ref p] ∧ (SqL K H p ys ∨ SqT K H p ys) ∧ ∀ l, H l = none → Q (.ref l) (upd H l (.lst ys))
theorem c_listQ {X : Cx} {K : PySem.W.Frag} (h : X.K = K := by rfl) : CallR X (.type "list") (rListQ K) := h ▸ call_list_of
theorem y_listL {p : Addr} {ys : List V} (e : SqL K H p ys) (h : ∀ l, H l = none → Q (.ref l) (upd H l (.lst ys))) : rListQ K [.ref p] H Q := ⟨p, ys, rfl, .inl e, h⟩
theorem y_listT {p : Addr} {ys : List V} (e : SqT K H p ys) (h : ∀ l, H l = none → Q (.ref l) (upd H l (.lst ys))) : rListQ K [.ref p] H Q := ⟨p, ys, rfl, .inr e, h⟩
theorem y_ixL {p : Addr} {xs : List V} {i : Int} {v : V} (e : SqL K H p xs) (a : atI xs i = some v) (h : Q v H) : rIxL K (.ref p) (.int i) H Q := ⟨p, xs, i, v, rfl, rfl, e, a, h⟩
theorem y_setL {p : Addr} {xs : List V} {k : Int} {j : Nat} {v : V} {R : Hp → Prop} (e : H p = some (.lst xs)) (a : ixN xs.length k = some j) (h : R (upd H p (.lst (xs.set j v)))) : rSetL (.ref p) (.int k) v H R := ⟨p, xs, k, j, rfl, rfl, e, a, h⟩
theorem y_rng1 {t : TA} {R : It → Hp → Prop} (h : t σ H fun vs H1 => ∃ j : Int, vs = [.int j] ∧ -(2 ^ 62) ≤ j ∧ j < 2 ^ 62 ∧ R (Itr 0 j.toNat) H1) : iRng1 t σ H R := h
theorem y_iStr {R : It → Hp → Prop} (h : te σ H fun v H1 => ∃ x, v = .str x ∧ R (Its x) H1) : iStr te σ H R := h
theorem y_iList {R : It → Hp → Prop} (h : te σ H fun x H1 => ∃ a, x = .ref a ∧ (∃ xs, SqL K H1 a xs) ∧ R (Itl K a) H1) : iList K te σ H R := h
end

/-! ### a def that is called: where it stands, how its arguments bind, what it promises -/
structure Cal (P : Program) (w : World) (K : PySem.W.Frag) (mg : Str → Option Value) (base : Heap) (k : Nat) (x : Str) (ps : List Str) (sp : Sp) : Prop where
  ex : ∃ (f : Addr) (fd : FuncData), FnOk P w K mg base CX0 k f fd ps sp ∧ mg x = some (.ref f) ∧ PySem.W.keepIn K (.ref f) = true ∧ Binds K fd ps []
/-- its call: the arguments, then its promise -/
def tFn (sp : Sp) (t : TA) : TE := fun σ H Q => t σ H fun vs H1 => sp vs H1 Q E0
theorem y_fn {σ : L2.St} {H : Hp} {Q : VK} {sp : Sp} {t : TA} (h : t σ H fun vs H1 => sp vs H1 Q E0) : tFn sp t σ H Q := h
theorem pe_fn {X : Cx} {k : Nat} {x : Str} {ps : List Str} {sp : Sp} {p pos : Pos} {e : Expr} {es : List Expr} {t : TA} (c : Cal X.prog X.w X.K X.mg X.base k x ps sp) (hr : Room k X.A) (hg : Gl X x) (ha : PA X (e :: es) t) (hdb : (x == ("__debug__" : Str)) = false := by decide)
    (he : starEach (e :: es) X.env = (false, eval e X.env) :: starEach es X.env := by rfl) (hpl : (backTo pos (starEach es X.env)).any (·.1) = false := by rfl) : PE X (.Call (.Name x p) (e :: es) [] pos) (tFn sp t) := by
  obtain ⟨f, fd, F, hm, hk, hb⟩ := c.ex
  have h := pe_call (p := p) (pos := pos) F hr hg hm hk hb .nil pass0 ha hdb he hpl
  have e : tCall sp [] E0 t = tFn sp t := by
    funext σ H Q
    show t σ H (fun vs H1 => sp (vs ++ []) H1 Q E0) = t σ H fun vs H1 => sp vs H1 Q E0
    congr 1
    funext vs H1
    rw [List.append_nil]
  rw [← e]
  exact h
theorem pe_globI {X : Cx} {x : Str} {i : Int} {pos : Pos} (hg : Gl X x) (hm : ∃ t, X.mg x = some (.int i t)) (hd : (x == ("__debug__" : Str)) = false := by decide) : PE X (.Name x pos) (tC (.int i)) := by
  obtain ⟨t, e⟩ := hm
  exact pe_glob hg e ⟨t, rfl⟩ hd

/-! ### heaps: all that stands but d stands as before -/
def Fr (d : Addr) (H H' : Hp) : Prop := ∀ b o, H b = some o → b ≠ d → H' b = some o
theorem Fr.refl (d : Addr) (H : Hp) : Fr d H H := fun _ _ h _ => h
theorem Fr.trans {d : Addr} {H H1 H2 : Hp} (a : Fr d H H1) (b : Fr d H1 H2) : Fr d H H2 := fun x o h n => b x o (a x o h n) n
theorem Fr.self {d : Addr} {H : Hp} {o : HO} : Fr d H (upd H d o) := fun b u h n => by
  rw [upd_ne n]
  exact h
theorem Fr.new {d p : Addr} {H : Hp} {o : HO} (e : H p = none) : Fr d H (upd H p o) := fun b u h n => by
  rw [upd_ne (ne_of_none h e)]
  exact h
/-- an object that the first heap does not know may change -/
theorem Fr.mut {d p : Addr} {H H1 : Hp} {o : HO} (a : Fr d H H1) (e : H p = none) : Fr d H (upd H1 p o) := fun b u h n => by
  rw [upd_ne (ne_of_none h e)]
  exact a b u h n
theorem Fr.of_same {d : Addr} {H H' : Hp} (a : Same H H') : Fr d H H' := fun b o h _ => a b o h
theorem Fr.lst {d a : Addr} {H H' : Hp} {K : PySem.W.Frag} {xs : List V} (f : Fr d H H') (n : a ≠ d) (h : SqL K H a xs) : SqL K H' a xs := by
  rcases h with (h | ⟨o, h⟩) | h
  · exact .inl (.inl (f _ _ h n))
  · exact .inl (.inr ⟨o, f _ _ h n⟩)
  · exact .inr h
theorem Fr.tup {d a : Addr} {H H' : Hp} {K : PySem.W.Frag} {xs : List V} (f : Fr d H H') (n : a ≠ d) (h : SqT K H a xs) : SqT K H' a xs := by
  rcases h with (h | ⟨o, h⟩) | h
  · exact .inl (.inl (f _ _ h n))
  · exact .inl (.inr ⟨o, f _ _ h n⟩)
  · exact .inr h
/-- what was there ahead of d is there behind -/
theorem same_fr {H0 H H' : Hp} {d : Addr} (s : Same H0 H) (f : Fr d H H') (e : H0 d = none) : Same H0 H' := fun b o h => f b o (s b o h) (ne_of_none h e)
theorem same_new {H : Hp} {p : Addr} {o : HO} (h : H p = none) : Same H (upd H p o) := fun b x e => by
  rw [upd_ne (ne_of_none e h)]
  exact e
theorem same_mut {H H1 : Hp} {p : Addr} {o : HO} (a : Same H H1) (h : H p = none) : Same H (upd H1 p o) := fun b x e => by
  rw [upd_ne (ne_of_none e h)]
  exact a b x e
theorem free_fr {d p : Addr} {H H' : Hp} (f : Fr d H H') (e : H' p = none) (n : p ≠ d) : H p = none := by
  cases q : H p with
  | none => rfl
  | some o =>
    rw [f p o q n] at e
    cases e
theorem sql {K : PySem.W.Frag} {H : Hp} {a : Addr} {xs : List V} (h : H a = some (.lst xs)) : SqL K H a xs := .inl (.inl h)
theorem sqt {K : PySem.W.Frag} {H : Hp} {a : Addr} {xs : List V} (h : H a = some (.tup xs)) : SqT K H a xs := .inl (.inl h)
/-! ### the dice: a list of three numbers that stands at d -/
def DiceAt (H : Hp) (d : Addr) : Prop := ∃ g e c : Int, H d = some (.lst [.int g, .int e, .int c])
theorem DiceAt.new {H : Hp} {d p : Addr} {o : HO} (h : DiceAt H d) (e : H p = none) : DiceAt (upd H p o) d := by
  obtain ⟨g, x, c, h⟩ := h
  exact ⟨g, x, c, by rw [upd_ne (ne_of_none h e)]; exact h⟩
theorem DiceAt.mut {H : Hp} {d p : Addr} {o : HO} (h : DiceAt H d) (e : p ≠ d) : DiceAt (upd H p o) d := by
  obtain ⟨g, x, c, h⟩ := h
  exact ⟨g, x, c, by rw [upd_ne e.symm]; exact h⟩
theorem DiceAt.same {H H' : Hp} {d : Addr} (h : DiceAt H d) (s : Same H H') : DiceAt H' d := by
  obtain ⟨g, x, c, h⟩ := h
  exact ⟨g, x, c, s _ _ h⟩
theorem DiceAt.ne {H : Hp} {d p : Addr} (h : DiceAt H d) (e : H p = none) : p ≠ d := by
  obtain ⟨g, x, c, h⟩ := h
  exact fun z => by
    rw [z, h] at e
    cases e
def spDice (K : PySem.W.Frag) : Sp := fun vs H Q _ => ∃ (a : Addr) (i : Int) (ns : List Int), vs = [.ref a, .int i] ∧ SqL K H a (ns.map V.int) ∧ 0 ≤ i ∧ i ≤ 1000 ∧ ∀ d H', H d = none → DiceAt H' d → Same H H' → Q (.ref d) H'
def spRoll : Sp := fun vs H Q _ => ∃ (d : Addr) (t : Int), vs = [.ref d, .int t] ∧ DiceAt H d ∧ 0 < t ∧ t.natAbs < 2 ^ 4000 ∧ ∀ n H', 0 ≤ n → n < t → DiceAt H' d → Fr d H H' → Q (.int n) H'
def spPick (K : PySem.W.Frag) : Sp := fun vs H Q _ => ∃ (d l : Addr) (ys : List V), vs = [.ref d, .ref l] ∧ DiceAt H d ∧ SqL K H l ys ∧ l ≠ d ∧ 0 < ys.length ∧ ys.length ≤ 100000 ∧ ∀ v H', v ∈ ys → DiceAt H' d → Fr d H H' → Q v H'
theorem big_div {t : Int} (h : 0 < t) (b : t.natAbs < 2 ^ 4000) {i : Int} : CDivW i t := wide_div h b (by decide) (by decide)
theorem getD_at {α : Type} {l : List α} {n : Int} (h0 : 0 ≤ n) (h1 : n < l.length) : ∃ x, l[n.toNat]? = some x ∧ x ∈ l := by
  have hn : n.toNat < l.length := by omega
  exact ⟨l[n.toNat], by simp [hn], List.getElem_mem hn⟩
theorem at_nat {xs : List V} {n : Int} {v : V} (h0 : 0 ≤ n) (h : xs[n.toNat]? = some v) : atI xs n = some v := at_of (j := n.toNat) (by omega) h
/-- both ways of an if without else come together: J is what follows, for any state of the form F x -/
theorem y_join {α : Type} {σ : L2.St} {H : Hp} {k : Bool} {t : TS} {n b c : L2.St → Hp → Prop} {rt : VK} (F : α → L2.St) (x : α) (e : σ = F x) (hJ : ∀ x, n (F x) H) (h : k = true → (∀ x, n (F x) H) → t ⟨n, rt, b, c⟩ σ H) :
    if k = true then t ⟨n, rt, b, c⟩ σ H else tNext ⟨n, rt, b, c⟩ σ H := by
  cases k with
  | true => exact iteT (h rfl hJ)
  | false => exact iteF (show n σ H by rw [e]; exact hJ x)
theorem y_ite {k : Bool} {A B : Prop} (h1 : k = true → A) (h2 : k = false → B) : if k = true then A else B := by
  cases k with
  | true => exact iteT (h1 rfl)
  | false => exact iteF (h2 rfl)
/-! ### rules with the written part by its own name (a comprehension's block has it by another) -/
section
variable {X : Cx} {K : PySem.W.Frag}
theorem x_list (h : X.K = K := by rfl) : IxR X (rIxL K) := h ▸ ix_list
theorem x_tup (h : X.K = K := by rfl) : IxR X (rIxT K) := h ▸ ix_tup
theorem w_list {tg l : Expr} {tl : TE} (hl : PE X l tl) (h : X.K = K := by rfl) : PI X tg l (iList K tl) := h ▸ pi_list hl
theorem w_tup {tg l : Expr} {tl : TE} (hl : PE X l tl) (h : X.K = K := by rfl) : PI X tg l (iTup K tl) := h ▸ pi_tup hl
theorem c_isi (h : X.K = K := by rfl) : CallR X (.builtin "isinstance") (rIsi K) := h ▸ call_isi
theorem c_all (hc : X.calm = true) (h : X.K = K := by rfl) : CallR X (.builtin "all") (rAll K) := h ▸ cr_all hc
theorem o_eqD (hu : X.A.units + 64 < cLine) (h : X.K = K := by rfl) : OpR X (compareOp .Eq) (rEqD K) := h ▸ op_eqD hu
theorem o_neD (hu : X.A.units + 64 < cLine) (h : X.K = K := by rfl) : OpR X (compareOp .NotEq) (rNeD K) := h ▸ op_neD hu
theorem e_bm {o e : Expr} {es : List Expr} {to : TE} {t : TA} {name : Str} {apos cpos : Pos} {T id : String} {r : V → List V → Hp → VK → Prop} (pa : PlainAttrs T) (slot : Slot T name id) (hty : typeOf (.builtin id) = pure (.type "method_descriptor")) (hm : MtR X id r) (ho : PE X o to) (ha : PA X (e :: es) t) (h : X.K = K := by rfl)
    (hbase : attributeBase o name X.env (eval o X.env) = eval o X.env := by rfl)
    (hfew : ((backTo cpos (starEach (e :: es) X.env)).all (fun x => !x.1) && (backToKw cpos (keywordEach [] X.env)).all (fun x => x.1.isSome)
      && decide ((e :: es).length + ([] : List Keyword).length + (if ([] : List Keyword).isEmpty then 0 else 1) < 30)) = true := by rfl)
    (hline : (apos.endLine == cpos.line) = true := by rfl) (hs : starEach (e :: es) X.env = (false, eval e X.env) :: starEach es X.env := by rfl) (hplain : (backTo cpos (starEach es X.env)).any (·.1) = false := by rfl) :
    PE X (.Call (.Attribute o name apos) (e :: es) [] cpos) (tBM K T r to t) := h ▸ pe_bm pa slot hty hm ho ha hbase hfew hline hs hplain
theorem y_bm {σ : L2.St} {H : Hp} {Q : VK} {T : String} {r : V → List V → Hp → VK → Prop} {to : TE} {t : TA} (h : to σ H fun x H1 => tyV K T x H1 ∧ t σ H1 fun xs H2 => r x xs H2 Q) : tBM K T r to t σ H Q := h
theorem y_m1 {σ : L2.St} {H : Hp} {Q : VK} {r : V → List V → Hp → VK → Prop} {to te : TE} (h : to σ H fun x H1 => (∃ a, x = .str a) ∧ te σ H1 fun y H2 => r x [y] H2 Q) : tM1 r to te σ H Q := h
theorem ty_l {H : Hp} {p : Addr} {xs : List V} (h : H p = some (.lst xs)) : tyV K "list" (.ref p) H := .inl ⟨rfl, _, .inl (.inl h)⟩
end
theorem y_lc {σ : L2.St} {H : Hp} {Q : VK} {wi : TI} {g : TG} {tt : TT} {te : TE} {vs : List Nat} (h : wi σ H fun J H1 => ∀ D, H1 D = none → ∃ W : Nat → Nat → Hp → Prop, (∃ m, W 0 m (upd H1 D (.lst []))) ∧ ∀ i m H, W i m H →
  (J.stop i H ∧ Q (.ref D) H) ∨ (J.go i H ∧ ∃ Nx : Hp → Prop, (∀ H', Nx H' → ∃ m', m' < m ∧ W (i + 1) m' H') ∧ ∀ x H', J.yld i H x H' → g x (wipe σ vs) H' fun σ2 H2 => wipe σ2 vs = wipe σ vs ∧ tt σ2 H2 fun b H3 =>
    if b = true then te σ2 H3 fun y H4 => ∃ acc, H4 D = some (.lst acc) ∧ acc.length < sizeLine ∧ Nx (upd H4 D (.lst (acc ++ [y]))) else Nx H3)) : tLc wi g tt te vs σ H Q := h
theorem ix_seq {i : Int} {n : Nat} (h0 : 0 ≤ i) (h1 : i < n) : seqIndex? i n = some i.toNat := by
  unfold seqIndex?
  have e : ¬ i < 0 := by omega
  simp [e, h0, h1]
theorem big_of {t : Int} (h : t.natAbs ≤ 1000000) : t.natAbs < 2 ^ 4000 := Nat.lt_of_le_of_lt h (by decide +kernel)
theorem sz_le {n : Nat} (h : n ≤ 100000) : n ≤ sizeLine := Nat.le_trans h (by decide)
theorem sz_lt {n : Nat} (h : n < 100000) : n < sizeLine := Nat.lt_of_lt_of_le h (by decide)
theorem y_isi {H : Hp} {Q : VK} {K : PySem.W.Frag} {x : V} {t : Value} {T : String} {k : Bool} (ty : TyX K H x t) (e : PySem.W.kitOne K t (.type T) = some k) (h : Q (.bl k) H) : rIsi K [x, .ty T] H Q := ⟨x, .ty T, t, .type T, k, rfl, .ty T, ty, e, h⟩
/-! ### join of texts -/
def rJoin (K : PySem.W.Frag) : V → List V → Hp → VK → Prop := fun x xs H Q => ∃ a p, ∃ ys : List Str, x = .str a ∧ xs = [.ref p] ∧ (SqL K H p (ys.map V.str) ∨ SqT K H p (ys.map V.str)) ∧ (ys.map (·.length)).sum + ys.length * a.length ≤ 16777216 ∧ Q (.str (Txt.join a ys)) H
theorem e_join {X : Cx} {K : PySem.W.Frag} {o e : Expr} {to te : TE} {apos pos : Pos} (ho : PE X o to) (he : PE X e te) (h : X.K = K := by rfl) (hs : starEach [e] X.env = [(false, eval e X.env)] := by rfl) (hbase : attributeBase o "join" X.env (eval o X.env) = eval o X.env := by rfl) (hline : (apos.endLine == pos.line) = true := by rfl) :
    PE X (.Call (.Attribute o "join" apos) [e] [] pos) (tM1 (rJoin K) to te) := by
  subst h
  exact pe_join ho he hs hbase hline
theorem tl_flat : ∀ ps : List (List Nat), TL.joinL [] ps = ps.flatten
  | [] => rfl
  | [p] => by simp [TL.joinL]
  | p :: q :: r => by
    show p ++ ([] ++ TL.joinL [] (q :: r)) = _
    rw [tl_flat (q :: r), List.nil_append]
    rfl
theorem join_nil (ys : List Str) : (Txt.join "" ys).cps.toList = (ys.map fun y => y.cps.toList).flatten := by
  have e : Txt.join "" ys = Str.join "" ys := StrLaws.glued_eq_join "" ys
  rw [e]
  have h := TL.tl_join "" ys
  have z : TL.tl "" = [] := by decide +kernel
  rw [z, tl_flat] at h
  exact h
theorem y_t {k : Bool} {A B : Prop} (e : k = true) (h : A) : if k = true then A else B := by
  rw [e]
  exact iteT h
theorem y_f {k : Bool} {A B : Prop} (e : k = false) (h : B) : if k = true then A else B := by
  rw [e]
  exact iteF h
/-- a for over a range, what stands behind it told part by part -/
theorem y_forR {lo : Int} {m : Nat} {g : TG} {t : TS} {n b c : L2.St → Hp → Prop} {rt : VK} {σ : L2.St} {H : Hp} (Pv : Nat → L2.St → Hp → Prop) (h0 : Pv 0 σ H)
    (hs : ∀ i σ H, i < m → Pv i σ H → g (.int (lo + i)) σ H fun σ2 H2 => t ⟨Pv (i + 1), rt, n, Pv (i + 1)⟩ σ2 H2) (hd : ∀ σ H, Pv m σ H → n σ H) :
    ∃ W : Nat → Nat → L2.St → Hp → Prop, (∃ m, W 0 m σ H) ∧ ∀ i k σ H, W i k σ H →
      ((Itr lo m).stop i H ∧ n σ H) ∨ ((Itr lo m).go i H ∧ ∃ N : L2.St → Hp → Prop, (∀ σ' H', N σ' H' → ∃ m', m' < k ∧ W (i + 1) m' σ' H') ∧ ∀ x H', (Itr lo m).yld i H x H' → g x σ H' fun σ2 H2 => t ⟨N, rt, n, N⟩ σ2 H2) :=
  for_range (D := ⟨n, rt, b, c⟩) Pv h0 hs hd
theorem y_rU {g : Int → V} {i : Int} {H : Hp} {Q : VK} (h : Q (g i) H) : rU g (.int i) H Q := ⟨i, rfl, h⟩
theorem y_ixT {p : Addr} {xs : List V} {i : Int} {v : V} {H : Hp} {Q : VK} {K : PySem.W.Frag} (e : SqT K H p xs) (a : atI xs i = some v) (h : Q v H) : rIxT K (.ref p) (.int i) H Q := ⟨p, xs, i, v, rfl, rfl, e, a, h⟩
/-- x = e; rest: the rest once, for all that P says of the value -/
theorem y_seqAsg {te : TE} {i : Nat} {u : TS} {n b c : L2.St → Hp → Prop} {rt : VK} {σ : L2.St} {H : Hp} (P : V → Hp → Prop) (rest : ∀ v H1, P v H1 → u ⟨n, rt, b, c⟩ (σ.set i (some v)) H1)
    (h : (∀ v H1, P v H1 → u ⟨n, rt, b, c⟩ (σ.set i (some v)) H1) → te σ H (fun v H1 => u ⟨n, rt, b, c⟩ (σ.set i (some v)) H1)) : tSeq (tAsg te (gName i)) u ⟨n, rt, b, c⟩ σ H := h rest
end Ow
/-! Operators upon instances of the text's own classes: the special method's promise. -/
namespace Ow
open PySem PySem.Spec PyProof.Rows L2
section
variable {X : Cx} {CX : CXT} {k : Nat} {C f : Addr} {fd : FuncData} {ps : List Str} {sp : Sp} {E : XK}
/-- a def called from within a built-in, with room -/
theorem run_sub {A : Around} {pins : List (Addr × Obj)} {s : Shared} {σ : L2.St} {H : Hp} {Q : VK} {us : List Value} {vs : List V} (F : FnOk X.prog X.w X.K X.mg X.base CX k f fd ps sp) (sb : Sub X k A) (hb : Binds X.K fd ps []) (hx : Passes CX X E)
    (I : Inv X pins σ H s) (r : Vals vs us) (h : sp vs H Q E) : wpAny (model X.prog X.w) A (call (.ref f) us) (EP X pins σ Q) X.xe s := by
  have e0 : Env0 X.prog X.w X.K X.mg X.base A X.stack s H := by
    have e := I.env0
    exact ⟨by rw [sb.fr]; exact e.frames, e.mod, e.bs, e.bsz, e.funs, e.frf, e.hok, e.bare⟩
  have hl := F.len _ _ _ _ h
  have hl2 : us.length = ps.length := by rw [← r.length]; exact hl
  refine wpAny_call (codeAny_mono (F.run A X.stack s H ⟨us, []⟩ us vs Q E sb.room e0 (by
    have := hb s us I.kIn (by simpa using hl2)
    simpa using this) r h) fun r s' hq => ?_)
  cases r with
  | error e => exact hx pins σ H s e s' I hq
  | ok fl =>
    cases fl with
    | ret w =>
      obtain ⟨z, H', I', rz, q⟩ := I.after hq
      exact ⟨z, H', I', rz, q⟩
    | next => exact False.elim hq
    | brk => exact False.elim hq
    | cont => exact False.elim hq
theorem sub_here (hr : Room k X.A) : Sub X k X.A := ⟨hr, rfl⟩
theorem back_of {Q : Value → Shared → Prop} {z : V} {v : Value} {s' : Shared} (r : RelV z v) (h : Q v s') : PySem.W.CmpBack Q v s' := by
  cases v with
  | notImplemented =>
    exfalso
    cases z <;> first
      | (cases (show Value.notImplemented = _ from r); done)
      | (obtain ⟨t, e⟩ := (show ∃ t, Value.notImplemented = _ from r); cases e)
  | _ => exact h
/-- the class (or one above it) has the name as the def at f -/
structure Spc (K : PySem.W.Frag) (C : Addr) (m : Str) (f : Addr) : Prop where
  at_ : PySem.W.findIn K (.ref C) m = some (some (.ref f))
  fn : PySem.W.isFn K (.ref f) = true
/-- both operands instances of the class -/
def rOwn2 (C : Addr) (sp : Sp) : R2 := fun x y H Q => ∃ a b dx dy fs gs, x = .ref a ∧ y = .ref b ∧ H a = some (.ins C dx fs) ∧ H b = some (.ins C dy gs) ∧ sp [.ref a, .ref b] H Q E0
/-- the right operand an int -/
def rOwnI (C : Addr) (sp : Sp) : R2 := fun x y H Q => ∃ a dx fs i, x = .ref a ∧ y = .int i ∧ H a = some (.ins C dx fs) ∧ sp [.ref a, .int i] H Q E0
def rOwn1 (C : Addr) (sp : Sp) : V → Hp → VK → Prop := fun x H Q => ∃ a dx fs, x = .ref a ∧ H a = some (.ins C dx fs) ∧ sp [.ref a] H Q E0
theorem inst_at {pins : List (Addr × Obj)} {s : Shared} {σ : L2.St} {H : Hp} {a dx : Addr} {fs : List (Str × V)} (I : Inv X pins σ H s) (ha : H a = some (.ins C dx fs)) : ∃ ox od, PySem.W.InstAt s.heap a ox C (some od) := by
  obtain ⟨mA, J, _⟩ := ins_get I.hok ha
  obtain ⟨od, J, _⟩ := J.look
  exact ⟨_, _, J⟩
theorem o_own2 {op : Operator} (F : FnOk X.prog X.w X.K X.mg X.base CX0 k f fd ps sp) (hr : Room k X.A) (hb : Binds X.K fd ps []) (hc : PySem.W.selfFirst X.K C = true) (M : Spc X.K C (PySem.dunder op.info.2) f) : OpR X (binaryOp op) (rOwn2 C sp) := by
  intro pins s σ H x y v u Q I rx ry h
  obtain ⟨a, b, dx, dy, fs, gs, rfl, rfl, ha, hb', hs⟩ := h
  cases rx
  cases ry
  obtain ⟨ox, od, J⟩ := inst_at I ha
  obtain ⟨oy, oe, J'⟩ := inst_at I hb'
  obtain ⟨m, hF⟩ := I.fr
  refine PySem.W.binop_K hF I.ok.mod.kin J J'.type hc M.at_ M.fn ?_
  refine wpAny_mono (run_sub (vs := [.ref a, .ref b]) F (sub_here hr) hb pass0 I (.cons rfl (.cons rfl .nil)) hs) (fun v s' hv => ?_) fun _ _ e => e
  obtain ⟨z, H', I', rz, q⟩ := hv
  exact back_of rz ⟨z, H', I', rz, q⟩
/-- what is asked of int and the class, for an operator -/
structure IntSide (K : PySem.W.Frag) (C : Addr) (nm : String) : Prop where
  hr : PySem.W.findIn K (.ref C) (dunderR nm) = some none
  h1 : ∃ fo, PySem.W.findIn K (.type "int") (PySem.dunder nm) = some fo
  h2 : ∃ ro, PySem.W.findIn K (.type "int") (dunderR nm) = some ro
  sub : PySem.W.subIn K (.type "int") (.ref C) = some false
theorem o_ownI {op : Operator} (F : FnOk X.prog X.w X.K X.mg X.base CX0 k f fd ps sp) (hr : Room k X.A) (hb : Binds X.K fd ps []) (hc : PySem.W.selfFirst X.K C = true) (M : Spc X.K C (PySem.dunder op.info.2) f) (S : IntSide X.K C op.info.2) : OpR X (binaryOp op) (rOwnI C sp) := by
  intro pins s σ H x y v u Q I rx ry h
  obtain ⟨a, dx, fs, i, rfl, rfl, ha, hs⟩ := h
  cases rx
  obtain ⟨t, rfl⟩ := (show ∃ t, u = Value.int i t from ry)
  obtain ⟨ox, od, J⟩ := inst_at I ha
  obtain ⟨m, hF⟩ := I.fr
  obtain ⟨fo, h1⟩ := S.h1
  obtain ⟨ro, h2⟩ := S.h2
  refine PySem.W.ksp_binT (T := "int") hF I.ok.mod.kin J rfl hc M.at_ M.fn S.hr (.inl rfl) h1 h2 S.sub ?_
  refine wpAny_mono (run_sub (vs := [.ref a, .int i]) F (sub_here hr) hb pass0 I (.cons rfl (.cons ⟨t, rfl⟩ .nil)) hs) (fun v s' hv => ?_) fun _ _ e => e
  obtain ⟨z, H', I', rz, q⟩ := hv
  exact back_of rz ⟨z, H', I', rz, q⟩
theorem o_ownNeg (F : FnOk X.prog X.w X.K X.mg X.base CX0 k f fd ps sp) (hr : Room k X.A) (hb : Binds X.K fd ps []) (M : Spc X.K C "__neg__" f) : UnR X (unaryOp .USub) (rOwn1 C sp) := by
  intro pins s σ H x v Q I rx h
  obtain ⟨a, dx, fs, rfl, ha, hs⟩ := h
  cases rx
  obtain ⟨ox, od, J⟩ := inst_at I ha
  obtain ⟨m, hF⟩ := I.fr
  exact PySem.W.ksp_neg hF I.ok.mod.kin J M.at_ M.fn (run_sub (vs := [.ref a]) F (sub_here hr) hb pass0 I (.cons rfl .nil) hs)
/-- a == b, a an instance, b any value whose type is told and is first in nothing -/
def rOwnEq (C : Addr) (sp : Sp) : R2 := fun x y H Q => ∃ a b dx dy fs gs, x = .ref a ∧ y = .ref b ∧ H a = some (.ins C dx fs) ∧ H b = some (.ins C dy gs) ∧ sp [.ref a, .ref b] H Q E0
theorem o_ownEq (F : FnOk X.prog X.w X.K X.mg X.base CX0 k f fd ps sp) (hr : Room k X.A) (hb : Binds X.K fd ps []) (M : Spc X.K C "__eq__" f) : OpR X (compareOp .Eq) (rOwn2 C sp) := by
  intro pins s σ H x y v u Q I rx ry h
  obtain ⟨a, b, dx, dy, fs, gs, rfl, rfl, ha, hb', hs⟩ := h
  cases rx
  cases ry
  obtain ⟨ox, od, J⟩ := inst_at I ha
  obtain ⟨oy, oe, J'⟩ := inst_at I hb'
  obtain ⟨m, hF⟩ := I.fr
  show wpAny _ _ (richCompare .Eq (.ref a) (.ref b)) _ _ _
  refine PySem.W.cmp_K (op := .Eq) (tb := .ref C) hr.units0 hF I.ok.mod.kin J J'.type (by simp [PySem.W.notFirst]) M.at_ M.fn ?_
  refine wpAny_mono (run_sub (vs := [.ref a, .ref b]) F (sub_here hr) hb pass0 I (.cons rfl (.cons rfl .nil)) hs) (fun v s' hv => ?_) fun _ _ e => e
  obtain ⟨z, H', I', rz, q⟩ := hv
  exact back_of rz ⟨z, H', I', rz, q⟩
/-- a special method that is a built-in -/
theorem ifBound_B {M : Model} {A : Around} {E : Value → Shared → Prop} {s : Shared} {K : PySem.W.Frag} {x C : Addr} {ox : Obj} {od : Option Obj} {name : Str} {id : String} {args : List Value} {Q : Option Value → Shared → Prop} (Y : K.In s.heap) (I : PySem.W.InstAt s.heap x ox C od) (hs : PySem.W.findIn K (.ref C) name = some (some (.builtin id)))
    (hb : ∀ self, bindSpecial (.builtin id) self = pure (.builtin id, [self])) (h : wpAny M A (call (.builtin id) (.ref x :: args)) (fun v => Q (some v)) E s) : wpAny M A (callSpecialIfBound? (.ref x) name args) Q E s := by
  simp only [callSpecialIfBound?, bindSpecialIfBound?]
  refine wpAny_holding (wpAny_bind (wpAny_bind (wpAny_bind (I.type.here ((PySem.W.looks_findIn Y hs).here ?_)))))
  refine wpAny_bind (wpAny_askSetting (wpAny_ite ?_))
  have fin : wpAny M A (call (.builtin id) ([.ref x] ++ args) >>= fun v => pure (some v)) Q E s := wpAny_bind (wpAny_mono h (fun v s' h' => wpAny_pure h') fun _ _ h' => h')
  split
  · exact wpAny_bind ((PySem.W.Looks.of_pure (hb _)).here (wpAny_pure (by exact fin)))
  · exact wpAny_tryCatch (wpAny_bind ((PySem.W.Looks.of_pure (hb _)).here (wpAny_pure (by exact fin))))
/-- != by object's own: the own == turned; what the promise gives is a truth value -/
def rOwnNe (C : Addr) (sp : Sp) : R2 := fun x y H Q => ∃ a b dx dy fs gs, x = .ref a ∧ y = .ref b ∧ H a = some (.ins C dx fs) ∧ H b = some (.ins C dy gs) ∧ sp [.ref a, .ref b] H (fun v H' => ∃ t, v = .bl t ∧ Q (.bl (!t)) H') E0
theorem o_ownNe (F : FnOk X.prog X.w X.K X.mg X.base CX0 k f fd ps sp) (hr : Room (k + 1) X.A) (hb : Binds X.K fd ps []) (M : Spc X.K C "__eq__" f) (hn : PySem.W.findIn X.K (.ref C) "__ne__" = some (some (.builtin "object.__ne__"))) (hm : PySem.W.mroIn X.K C (.type "object") = some true) :
    OpR X (compareOp .NotEq) (rOwnNe C sp) := by
  intro pins s σ H x y v u Q I rx ry h
  obtain ⟨a, b, dx, dy, fs, gs, rfl, rfl, ha, hb', hs⟩ := h
  cases rx
  cases ry
  obtain ⟨ox, od, J⟩ := inst_at I ha
  obtain ⟨oy, oe, J'⟩ := inst_at I hb'
  show wpAny _ _ (richCompare .NotEq (.ref a) (.ref b)) _ _ _
  have hu : X.A.units < cLine := hr.units0
  have hu1 : X.A.in1.units < cLine := hr.in1.units0
  have one : wpAny (model X.prog X.w) X.A (tryCompare (.ref a) "__ne__" (.ref b)) (fun r s' => ∃ v, r = some v ∧ EP X pins σ Q v s') X.xe s := by
    unfold tryCompare
    refine wpAny_bind (ifBound_B I.kIn J hn PySem.F.slot_object_ne.bind ?_)
    refine wpAny_call (codeAny_call_builtin PySem.F.slot_object_ne.plain PySem.F.cmpEntry_ne (PySem.W.check_slot (i := "object.__ne__") (owner := "object") (n := "__ne__") PySem.F.cmpKind_ne PySem.F.cmpSplit_ne (J.type.andThen (PySem.W.looks_mroIn I.kIn hm)) (PySem.F.cmpArgs_ne _ _) ?_))
    unfold Builtin.«object.__ne__»
    refine wpAny_bind (m := slotArgs "__ne__" 1 _) (wpAny_pure ?_)
    refine wpAny_bind (m := cRoomFor _ _) (wpAny_cRoomFor hu1 ?_)
    refine wpAny_bind (m := callSpecialIfBound? (.ref a) (Str.ofString "__eq__") _) (PySem.W.ifBound_K I.kIn J M.at_ M.fn (wpAny_mono (run_sub (vs := [.ref a, .ref b]) F (sub_here hr).in1 hb pass0 I (.cons rfl (.cons rfl .nil)) hs) (fun v s' hv => ?_) fun _ _ e => e))
    obtain ⟨z, H', I', rz, t, rfl, q⟩ := hv
    cases (show v = Value.bool t from rz)
    refine wpAny_bind (wpAny_truthy_bool ?_)
    first
      | exact wpAny_pure (wpAny_pure ⟨_, rfl, .bl (!t), H', I', rfl, q⟩)
      | (show wpAny _ _ (ret (Value.bool !t)) _ _ _; exact wpAny_pure (wpAny_pure ⟨_, rfl, .bl (!t), H', I', rfl, q⟩))
      | (refine wpAny_bind (wpAny_pure ?_); exact wpAny_pure (wpAny_pure ⟨_, rfl, .bl (!t), H', I', rfl, q⟩))
  unfold richCompare
  simp only [oneThing_ref]
  refine wpAny_holding (wpAny_bind (wpAny_cRoomFor hu ?_))
  refine wpAny_bind (J.type.here (wpAny_bind (J'.type.here ?_)))
  rw [show (Value.ref C != Value.ref C) = false from by simp]
  simp only [Bool.false_eq_true, if_false]
  refine wpAny_bind (wpAny_pure ?_)
  simp only [Bool.false_eq_true, if_false]
  refine wpAny_bind (wpAny_mono one (fun r s' z => ?_) fun _ _ e => e)
  obtain ⟨v, rfl, hq⟩ := z
  exact wpAny_pure hq
end
section
variable {X : Cx} {C : Addr} {K : PySem.W.Frag}
/-- o.f as a target among others -/
def gFld (K : PySem.W.Frag) (to : TE) (f : Str) : TG := fun v σ H Q => to σ H fun x H1 => ∃ a C dx fs, x = .ref a ∧ H1 a = some (.ins C dx fs) ∧ Cls K C ∧ NoAttr K C f ∧ fs.length < 1000 ∧ Q σ (upd H1 a (.ins C dx (putF f v fs)))
theorem pg_fld {o : Expr} {to : TE} {f : Str} {pos : Pos} (ho : PE X o to) (hk : X.K = K := by rfl) : PG X (.Attribute o f pos) (gFld K to f) := by
  subst hk
  refine ⟨fun pins s σ H v u Q I r h => ?_⟩
  rw [assign_Attribute]
  refine wpAny_bind (wpAny_holding (thn (ho.run pins s σ H _ I h) fun ov s1 ⟨x, H1, I1, r1, a, C, dx, fs, ex, ea, c, n, l, q⟩ => ?_))
  subst ex
  obtain rfl : ov = Value.ref a := r1
  refine wpAny_bind (wpAny_standAt (wpAny_bind (wpAny_holding (setattr_ok I1 ea c n l r fun s2 I2 => ?_))))
  exact wpAny_release ⟨σ, _, I2, q⟩
/-- an instance of the class that a local name holds: cls(..) within a classmethod -/
def tMakeL (i : Nat) (C : Addr) (sp : Sp) (t : TA) : TE := fun σ H Q => σ[i]? = some (some (.ref C)) ∧ t σ H fun vs H1 => ∀ x dx, H1 x = none → H1 dx = none → dx ≠ x →
  sp (.ref x :: vs) (upd (upd H1 dx (.own x)) x (.ins C dx [])) (fun v H2 => v = .non ∧ Q (.ref x) H2) E0
theorem pe_makeL {k i : Nat} {f : Addr} {fd : FuncData} {ps : List Str} {sp : Sp} {x : Str} {p pos : Pos} {e : Expr} {es : List Expr} {t : TA} (M : Mk X.K C f) (F : FnOk X.prog X.w X.K X.mg X.base CX0 k f fd ps sp) (hr : Room (k + 1) X.A) (hN : X.N[i]? = some x) (hv : Vis X.env.scope x) (hb : Binds X.K fd ps [])
    (ha : PA X (e :: es) t) (hdb : (x == ("__debug__" : Str)) = false := by decide) (hcd : (x == ("__classdict__" : Str)) = false := by decide)
    (he : starEach (e :: es) X.env = (false, eval e X.env) :: starEach es X.env := by rfl) (hpl : (backTo pos (starEach es X.env)).any (·.1) = false := by rfl) :
    PE X (.Call (.Name x p) (e :: es) [] pos) (tMakeL i C sp t) := by
  refine ⟨fun pins s σ H Q I h => ?_⟩
  obtain ⟨hs, ht⟩ := h
  refine wpAny_Call_Name_kw (thn ((pe_var (pos := p) hN hv hdb hcd).run pins s σ H (fun v H1 => v = .ref C ∧ H1 = H) I ⟨.ref C, hs, rfl, rfl⟩) fun u s1 ⟨v, H1, I1, r1, q1⟩ => ?_)
  obtain ⟨rfl, rfl⟩ := q1
  cases r1
  refine PySem.W.callWith_K (h₀ := X.base) I.ok.mod.kin M.kp (thn (ha.run pos pins s1 σ _ _ I1 ht) fun us s2 ⟨vs, H2, I2, r, q⟩ => ⟨I2.kIn, ?_⟩) he hpl
  exact run_make M F hr hb .nil pass0 I2 r (by
    intro x dx h1 h2 h3
    have := q x dx h1 h2 h3
    rw [List.append_nil]
    exact this)
end
end Ow
/-! Facts of the text's own classes, told by the head as one Bool. -/
namespace Ow
open PySem PySem.Spec PyProof.Rows L2
/-- o.m(e, ..): the method's promise -/
structure Mth (P : Program) (w : World) (K : PySem.W.Frag) (mg : Str → Option Value) (base : Heap) (k : Nat) (C : Addr) (m : Str) (ps : List Str) (sp : Sp) : Prop where
  ex : ∃ (f : Addr) (fd : FuncData), FnOk P w K mg base CX0 k f fd ps sp ∧ Meth K C m f ∧ Binds K fd ps []
/-- e.m, a property: the getter's promise -/
structure Prp (P : Program) (w : World) (K : PySem.W.Frag) (mg : Str → Option Value) (base : Heap) (k : Nat) (C : Addr) (m : Str) (sp : Sp) : Prop where
  ex : ∃ (p g : Addr) (fd : FuncData), FnOk P w K mg base CX0 k g fd ["self"] sp ∧ PropOf K C m p g ∧ Binds K fd ["self"] []
/-- C.m(e, ..), a classmethod -/
structure Cmt (P : Program) (w : World) (K : PySem.W.Frag) (mg : Str → Option Value) (base : Heap) (k : Nat) (C : Addr) (m : Str) (sp : Sp) : Prop where
  ex : ∃ (p g : Addr), ClX.CMet K C (.type "type") m p g ∧ ClX.CRead K C (.type "type") ∧ FnR P w K mg base CX0 k g sp
/-- C(e, ..): __init__'s promise; n: how many arguments are given, dv: those that fill up -/
structure Mkr (P : Program) (w : World) (K : PySem.W.Frag) (mg : Str → Option Value) (base : Heap) (k : Nat) (x : Str) (C : Addr) (sp : Sp) (dvs : List V) : Prop where
  ex : ∃ (f : Addr) (fd : FuncData) (ps : List Str) (ds : List Value), FnOk P w K mg base CX0 k f fd ps sp ∧ Mk K C f ∧ mg x = some (.ref C) ∧ Binds K fd ps ds ∧ Vals dvs ds
section
variable {X : Cx} {C : Addr} {k : Nat} {m x : Str} {ps : List Str} {sp : Sp} {dvs : List V} {o e : Expr} {es : List Expr} {to ta : TE} {t : TA} {pos apos p : Pos}
def tMth (C : Addr) (m : Str) (sp : Sp) (to : TE) (t : TA) : TE := fun σ H Q => to σ H fun x H1 => ∃ a dx fs, x = .ref a ∧ H1 a = some (.ins C dx fs) ∧ fs.lookup m = none ∧ t σ H1 fun vs H2 => sp (x :: vs) H2 Q E0
theorem e_mth {pl : Sem Bool} (c : Mth X.prog X.w X.K X.mg X.base k C m ps sp) (T : Cls X.K C) (hr : Room k X.A) (ho : PE X o to) (ha : PA X (e :: es) t)
    (hst : starEach (e :: es) X.env = (false, eval e X.env) :: starEach es X.env := by rfl) (hpl : (backTo pos (starEach es X.env)).any (·.1) = false := by rfl)
    (ht : eval (.Call (.Attribute o m apos) (e :: es) [] pos) X.env = (do
      let ov ← eval o X.env
      standAt apos.atName; let (f, first) ← holding [ov] (getMethod ov m pl); callWith pos f first (backTo pos (starEach (e :: es) X.env)) (backToKw pos (keywordEach [] X.env))) := by rfl) :
    PE X (.Call (.Attribute o m apos) (e :: es) [] pos) (tMth C m sp to t) := by
  obtain ⟨f, fd, F, hm, hb⟩ := c.ex
  have h := pe_meth (apos := apos) (pos := pos) (pl := pl) ho T hm F hr hb .nil pass0 ha hst hpl ht
  have e1 : tMeth C m sp [] E0 to t = tMth C m sp to t := by
    funext σ H Q
    show to σ H (fun x H1 => ∃ a dx fs, x = .ref a ∧ H1 a = some (.ins C dx fs) ∧ fs.lookup m = none ∧ t σ H1 fun vs H2 => sp (x :: (vs ++ [])) H2 Q E0) = to σ H (fun x H1 => ∃ a dx fs, x = .ref a ∧ H1 a = some (.ins C dx fs) ∧ fs.lookup m = none ∧ t σ H1 fun vs H2 => sp (x :: vs) H2 Q E0)
    simp only [List.append_nil]
  rw [← e1]
  exact h
def tPrp (C : Addr) (sp : Sp) (ta : TE) : TE := fun σ H Q => ta σ H fun x H1 => ∃ a dx fs, x = .ref a ∧ H1 a = some (.ins C dx fs) ∧ sp [.ref a] H1 Q E0
theorem e_prp (c : Prp X.prog X.w X.K X.mg X.base k C m sp) (T : Cls X.K C) (hr : Room (k + 1) X.A) (he : PE X e ta) (hab : attributeBase e m X.env (eval e X.env) = eval e X.env := by rfl) : PE X (.Attribute e m pos) (tPrp C sp ta) := by
  obtain ⟨p, g, fd, F, hp, hb⟩ := c.ex
  exact pe_prop he T hp F hr hb .nil pass0 hab
def tCmt (C : Addr) (sp : Sp) (ta : TE) (t : TA) : TE := fun σ H Q => ta σ H fun x H1 => x = .ref C ∧ t σ H1 fun vs H2 => sp (.ref C :: vs) H2 Q E0
theorem e_cmt {pl : Sem Bool} (c : Cmt X.prog X.w X.K X.mg X.base k C m sp) (hr : Room k X.A) (ho : PE X o ta) (ha : PA X (e :: es) t)
    (hst : starEach (e :: es) X.env = (false, eval e X.env) :: starEach es X.env := by rfl) (hpl : (backTo pos (starEach es X.env)).any (·.1) = false := by rfl)
    (ht : eval (.Call (.Attribute o m apos) (e :: es) [] pos) X.env = (do
      let ov ← eval o X.env
      standAt apos.atName; let (f, first) ← holding [ov] (getMethod ov m pl); callWith pos f first (backTo pos (starEach (e :: es) X.env)) (backToKw pos (keywordEach [] X.env))) := by rfl) :
    PE X (.Call (.Attribute o m apos) (e :: es) [] pos) (tCmt C sp ta t) := by
  obtain ⟨p, g, hc, hrd, F⟩ := c.ex
  exact ClX.pe_cmeth (pl := pl) ho hrd hc F hr pass0 ha hst hpl ht
def tMkr (C : Addr) (sp : Sp) (dvs : List V) (t : TA) : TE := fun σ H Q => t σ H fun vs H1 => ∀ x dx, H1 x = none → H1 dx = none → dx ≠ x → sp (.ref x :: (vs ++ dvs)) (upd (upd H1 dx (.own x)) x (.ins C dx [])) (fun v H2 => v = .non ∧ Q (.ref x) H2) E0
theorem e_mkr (c : Mkr X.prog X.w X.K X.mg X.base k x C sp dvs) (hr : Room (k + 1) X.A) (hg : Gl X x) (ha : PA X (e :: es) t)
    (hdb : (x == ("__debug__" : Str)) = false := by decide) (he : starEach (e :: es) X.env = (false, eval e X.env) :: starEach es X.env := by rfl) (hpl : (backTo pos (starEach es X.env)).any (·.1) = false := by rfl) :
    PE X (.Call (.Name x p) (e :: es) [] pos) (tMkr C sp dvs t) := by
  obtain ⟨f, fd, ps, ds, F, M, hm, hb, hd⟩ := c.ex
  exact pe_make M F hr hg hm hb hd pass0 ha hdb he hpl
end
section
variable {X : Cx} {K : PySem.W.Frag} {C : Addr} {k : Nat} {nm x : Str} {ps : List Str} {sp : Sp} {e o : Expr} {es : List Expr} {ta : TE} {t : TA} {pos apos p : Pos}
theorem e_fld {f : Str} (he : PE X e ta) (h : X.K = K := by rfl) (hab : attributeBase e f X.env (eval e X.env) = eval e X.env := by rfl) : PE X (.Attribute e f pos) (tFld K ta f) := by
  subst h
  exact pe_fld he hab
theorem g_tup {es : List Expr} {n : Nat} {t : TGs} {j : Nat} (hc : X.calm = true) (h : PGs X es t) (hk : X.K = K := by rfl)
    (hn : (assignEach es X.env).length = n := by rfl) (hst : (assignEach es X.env).findIdx? (·.1) = none := by rfl) : PG X (.Tuple es j pos) (gTup K n t) := by
  subst hk
  exact pg_tup hc h hn hst
/-- cls(e, ..) -/
theorem e_mkl {i : Nat} {y : Str} (c : Mkr X.prog X.w X.K X.mg X.base k x C sp []) (hr : Room (k + 1) X.A) (hN : X.N[i]? = some y) (hv : Vis X.env.scope y) (ha : PA X (e :: es) t)
    (hdb : (y == ("__debug__" : Str)) = false := by decide) (hcd : (y == ("__classdict__" : Str)) = false := by decide)
    (he : starEach (e :: es) X.env = (false, eval e X.env) :: starEach es X.env := by rfl) (hpl : (backTo pos (starEach es X.env)).any (·.1) = false := by rfl) :
    PE X (.Call (.Name y p) (e :: es) [] pos) (tMakeL i C sp t) := by
  obtain ⟨f, fd, ps, ds, F, M, hm, hb, hd⟩ := c.ex
  cases hd
  exact pe_makeL M F hr hN hv hb ha hdb hcd he hpl
theorem q_op2 {op : Operator} (c : Mth X.prog X.w X.K X.mg X.base k C nm ps sp) (hc : PySem.W.selfFirst X.K C = true) (hr : Room k X.A) (hn : PySem.dunder op.info.2 = nm := by decide +kernel) : OpR X (binaryOp op) (rOwn2 C sp) := by
  obtain ⟨f, fd, F, hm, hb⟩ := c.ex
  subst hn
  exact o_own2 F hr hb hc ⟨hm.at_, hm.fn⟩
theorem q_opI {op : Operator} (c : Mth X.prog X.w X.K X.mg X.base k C nm ps sp) (hc : PySem.W.selfFirst X.K C = true) (S : IntSide X.K C op.info.2) (hr : Room k X.A) (hn : PySem.dunder op.info.2 = nm := by decide +kernel) : OpR X (binaryOp op) (rOwnI C sp) := by
  obtain ⟨f, fd, F, hm, hb⟩ := c.ex
  subst hn
  exact o_ownI F hr hb hc ⟨hm.at_, hm.fn⟩ S
theorem q_neg (c : Mth X.prog X.w X.K X.mg X.base k C "__neg__" ps sp) (hr : Room k X.A) : UnR X (unaryOp .USub) (rOwn1 C sp) := by
  obtain ⟨f, fd, F, hm, hb⟩ := c.ex
  exact o_ownNeg F hr hb ⟨hm.at_, hm.fn⟩
theorem q_eq (c : Mth X.prog X.w X.K X.mg X.base k C "__eq__" ps sp) (hr : Room k X.A) : OpR X (compareOp .Eq) (rOwn2 C sp) := by
  obtain ⟨f, fd, F, hm, hb⟩ := c.ex
  exact o_ownEq F hr hb ⟨hm.at_, hm.fn⟩
theorem q_ne (c : Mth X.prog X.w X.K X.mg X.base k C "__eq__" ps sp) (hr : Room (k + 1) X.A) (hn : PySem.W.findIn X.K (.ref C) "__ne__" = some (some (.builtin "object.__ne__"))) (hm : PySem.W.mroIn X.K C (.type "object") = some true) : OpR X (compareOp .NotEq) (rOwnNe C sp) := by
  obtain ⟨f, fd, F, hm2, hb⟩ := c.ex
  exact o_ownNe F hr hb ⟨hm2.at_, hm2.fn⟩ hn hm
theorem cmt_of {P : Program} {w : World} {mg : Str → Option Value} {base : Heap} {g pp : Addr} {fd : FuncData} (F : FnOk P w K mg base CX0 k g fd ps sp) (hb : Binds K fd ps []) (hc : ClX.CMet K C (.type "type") nm pp g) (hr : ClX.CRead K C (.type "type")) : Cmt P w K mg base k C nm sp :=
  ⟨pp, g, hc, hr, (F.raw hb .nil).imp fun vs H Q E h => by rw [List.append_nil]; exact h⟩
/-- // by a great divisor of any sign -/
def CDivWN (_ j : Int) : Prop := j ≠ 0 ∧ j.natAbs.log2 < 9000
theorem op_fdivWN : OpR X (binaryOp .FloorDiv) (rI CDivWN fun i j => .int (i.fdiv j)) := opI fun i j _ _ _ _ _ hc q => floordiv_int hc.1 q (.inl (PyProof.noPylong_of_log2 hc.2))
end
section
variable {σ : L2.St} {H : Hp} {Q : VK} {K : PySem.W.Frag} {C : Addr} {sp : Sp} {ta to : TE} {t : TA} {n b c : L2.St → Hp → Prop} {rt : VK}
theorem y_fld {f : Str} (h : ta σ H fun x H1 => ∃ a C dx fs v, x = .ref a ∧ H1 a = some (.ins C dx fs) ∧ Cls K C ∧ NoAttr K C f ∧ fs.lookup f = some v ∧ Q v H1) : tFld K ta f σ H Q := h
theorem y_prp (h : ta σ H fun x H1 => ∃ a dx fs, x = .ref a ∧ H1 a = some (.ins C dx fs) ∧ sp [.ref a] H1 Q E0) : tPrp C sp ta σ H Q := h
theorem y_mth {m : Str} (h : to σ H fun x H1 => ∃ a dx fs, x = .ref a ∧ H1 a = some (.ins C dx fs) ∧ fs.lookup m = none ∧ t σ H1 fun vs H2 => sp (x :: vs) H2 Q E0) : tMth C m sp to t σ H Q := h
theorem y_cmt (h : ta σ H fun x H1 => x = .ref C ∧ t σ H1 fun vs H2 => sp (.ref C :: vs) H2 Q E0) : tCmt C sp ta t σ H Q := h
theorem y_mkr {dvs : List V} (h : t σ H fun vs H1 => ∀ x dx, H1 x = none → H1 dx = none → dx ≠ x → sp (.ref x :: (vs ++ dvs)) (upd (upd H1 dx (.own x)) x (.ins C dx [])) (fun v H2 => v = .non ∧ Q (.ref x) H2) E0) : tMkr C sp dvs t σ H Q := h
theorem y_mkl {i : Nat} (e : σ[i]? = some (some (.ref C))) (h : t σ H fun vs H1 => ∀ x dx, H1 x = none → H1 dx = none → dx ≠ x → sp (.ref x :: vs) (upd (upd H1 dx (.own x)) x (.ins C dx [])) (fun v H2 => v = .non ∧ Q (.ref x) H2) E0) : tMakeL i C sp t σ H Q := ⟨e, h⟩
theorem y_par {i j : Nat} (h : t σ H fun vs H1 => ∃ v w, vs = [v, w] ∧ n ((σ.set i (some v)).set j (some w)) H1) : tPar i j t ⟨n, rt, b, c⟩ σ H := h
theorem y_par2 {i j : Nat} {v w : V} {R : L2.St → Hp → Prop} (h : R ((σ.set i (some v)).set j (some w)) H) : ∃ v' w', [v, w] = [v', w'] ∧ R ((σ.set i (some v')).set j (some w')) H := ⟨v, w, rfl, h⟩
theorem y_gtup {m : Nat} {g : TGs} {v : V} {R : L2.St → Hp → Prop} {a : Addr} {xs : List V} (e : v = .ref a) (s : SqT K H a xs) (l : xs.length = m) (h : g xs σ H R) : gTup K m g v σ H R := ⟨a, xs, e, s, l, h⟩
theorem y_gcons {g : TG} {u : TGs} {v : V} {vs : List V} {R : L2.St → Hp → Prop} (h : g v σ H fun σ' H' => u vs σ' H' R) : gCons g u (v :: vs) σ H R := ⟨v, vs, rfl, h⟩
theorem y_gnil {R : L2.St → Hp → Prop} (h : R σ H) : gNil [] σ H R := ⟨rfl, h⟩
theorem y_gfld {f : Str} {v : V} {R : L2.St → Hp → Prop} (h : to σ H fun x H1 => ∃ a C dx fs, x = .ref a ∧ H1 a = some (.ins C dx fs) ∧ Cls K C ∧ NoAttr K C f ∧ fs.length < 1000 ∧ R σ (upd H1 a (.ins C dx (putF f v fs)))) : gFld K to f v σ H R := h
theorem y_negI {i : Int} (h : Q (.int (-i)) H) : (∃ j, V.int i = .int j ∧ Q (.int (-j)) H) := ⟨i, rfl, h⟩
theorem y_gcd {i j : Int} (h : Q (.int ((Nat.gcd i.natAbs j.natAbs : Nat) : Int)) H) : rGcd [.int i, .int j] H Q := ⟨i, j, rfl, h⟩
theorem y_rng2 {R : It → Hp → Prop} (h : t σ H fun vs H1 => ∃ i j : Int, vs = [.int i, .int j] ∧ (-(2 ^ 62) ≤ i ∧ i < 2 ^ 62 ∧ -(2 ^ 62) ≤ j ∧ j < 2 ^ 62) ∧ R (Itr i (j - i).toNat) H1) : iRng2 t σ H R := h
theorem y_while {tc : TT} {tb : TS} (h : ∃ W : Nat → L2.St → Hp → Prop, (∃ m, W m σ H) ∧ ∀ m σ H, W m σ H →
  tc σ H fun k H1 => if k = true then ∃ N : L2.St → Hp → Prop, (∀ σ' H', N σ' H' → ∃ m', m' < m ∧ W m' σ' H') ∧ tb ⟨N, rt, n, N⟩ σ H1 else n σ H1) : tWhile tc tb ⟨n, rt, b, c⟩ σ H := h
end
theorem w_rev {X : Cx} {K : PySem.W.Frag} {tg e : Expr} {ta : TA} {p pos : Pos} (hg : Gl X "reversed") (hm : X.mg "reversed" = none) (ha : PA X [e] ta) (h : X.K = K := by rfl) (hs : starEach [e] X.env = [(false, eval e X.env)] := by rfl) : PI X tg (.Call (.Name "reversed" p) [e] [] pos) (iRev K ta) := by
  subst h
  exact pi_reversed hg hm ha hs
theorem y_iRev {σ : L2.St} {H : Hp} {K : PySem.W.Frag} {ta : TA} {R : It → Hp → Prop} (h : ta σ H fun vs H1 => ∃ (a : Addr) (xs : List V), vs = [.ref a] ∧ SqL K H1 a xs ∧ R (Itv K a xs.length) H1) : iRev K ta σ H R := h
theorem e_revL {X : Cx} {K : PySem.W.Frag} {e : Expr} {te : TE} {k : Nat} {p1 p2 p3 pos : Pos} (he : PE X e te) (h : X.K = K := by rfl) : PE X (.Subscript e (.Slice none none (some (.UnaryOp .USub (.Constant (.int 1) k p1) p2)) p3) pos) (tRevL K te) := by
  subst h
  exact pe_revL he
theorem y_revL {σ : L2.St} {H : Hp} {Q : VK} {K : PySem.W.Frag} {te : TE} (h : te σ H fun x H1 => ∃ a xs, x = .ref a ∧ SqL K H1 a xs ∧ ∀ p, H1 p = none → Q (.ref p) (upd H1 p (.lst xs.reverse))) : tRevL K te σ H Q := h
theorem y_forW {J : It} {m : Nat} {G : Hp → Prop} {Y : Nat → Hp → V → Hp → Prop} (w : Walk J m G Y) {g : TG} {t : TS} {n b c : L2.St → Hp → Prop} {rt : VK} {σ : L2.St} {H : Hp} (Pv : Nat → L2.St → Hp → Prop) (h0 : Pv 0 σ H) (hG : ∀ i σ H, i ≤ m → Pv i σ H → G H)
    (hs : ∀ i x σ H H', i < m → Pv i σ H → Y i H x H' → g x σ H' fun σ2 H2 => t ⟨Pv (i + 1), rt, n, Pv (i + 1)⟩ σ2 H2) (hd : ∀ σ H, Pv m σ H → n σ H) :
    ∃ W : Nat → Nat → L2.St → Hp → Prop, (∃ m, W 0 m σ H) ∧ ∀ i k σ H, W i k σ H →
      (J.stop i H ∧ n σ H) ∨ (J.go i H ∧ ∃ N : L2.St → Hp → Prop, (∀ σ' H', N σ' H' → ∃ m', m' < k ∧ W (i + 1) m' σ' H') ∧ ∀ x H', J.yld i H x H' → g x σ H' fun σ2 H2 => t ⟨N, rt, n, N⟩ σ2 H2) :=
  for_it (D := ⟨n, rt, b, c⟩) w Pv h0 hG hs hd
end Ow
/-! Fractions: the mathematics of lowest terms, what a Ratio looks like, the promises. -/
namespace Ow
open PySem PySem.Spec PyProof.Rows L2
/-! ### lowest terms -/
def gI (t b : Int) : Int := (Nat.gcd t.natAbs b.natAbs : Nat)
def lowT (t b : Int) : Int := t.fdiv (if b < 0 then -gI t b else gI t b)
def lowB (t b : Int) : Int := b.fdiv (if b < 0 then -gI t b else gI t b)
def low (t b : Int) : Int × Int := (lowT t b, lowB t b)
theorem gI_pos {t b : Int} (h : b ≠ 0) : 0 < gI t b := by
  unfold gI
  have : 0 < Nat.gcd t.natAbs b.natAbs := Nat.gcd_pos_of_pos_right _ (by omega)
  omega
theorem gI_le {t b : Int} (h : b ≠ 0) : (gI t b).natAbs ≤ b.natAbs := by
  unfold gI
  have : Nat.gcd t.natAbs b.natAbs ≤ b.natAbs := Nat.gcd_le_right _ (by omega)
  omega
theorem gI_dvd_t {t b : Int} : gI t b ∣ t := Int.ofNat_dvd_left.mpr (Nat.gcd_dvd_left _ _)
theorem gI_dvd_b {t b : Int} : gI t b ∣ b := Int.ofNat_dvd_left.mpr (Nat.gcd_dvd_right _ _)
/-- t and b are the lowest terms times one number -/
theorem low_ex {t b : Int} (h : b ≠ 0) : ∃ c : Int, c ≠ 0 ∧ t = c * lowT t b ∧ b = c * lowB t b ∧ (0 < c ↔ 0 < b) ∧ c.natAbs = Nat.gcd t.natAbs b.natAbs := by
  have hg := gI_pos (t := t) h
  obtain ⟨u, hu⟩ := gI_dvd_t (t := t) (b := b)
  obtain ⟨v, hv⟩ := gI_dvd_b (t := t) (b := b)
  have hn : (gI t b).natAbs = Nat.gcd t.natAbs b.natAbs := by unfold gI; exact Int.natAbs_natCast _
  by_cases hb : b < 0
  · refine ⟨-gI t b, by omega, ?_, ?_, by omega, by rw [Int.natAbs_neg]; exact hn⟩
    · unfold lowT
      rw [if_pos hb]
      rw [Int.mul_fdiv_cancel' ]
      exact Int.neg_dvd.mpr gI_dvd_t
    · unfold lowB
      rw [if_pos hb]
      rw [Int.mul_fdiv_cancel' ]
      exact Int.neg_dvd.mpr gI_dvd_b
  · refine ⟨gI t b, by omega, ?_, ?_, by omega, hn⟩
    · unfold lowT
      rw [if_neg hb, Int.mul_fdiv_cancel' gI_dvd_t]
    · unfold lowB
      rw [if_neg hb, Int.mul_fdiv_cancel' gI_dvd_b]
/-- a fraction in lowest terms -/
def Low (p : Int × Int) : Prop := 0 < p.2 ∧ Nat.gcd p.1.natAbs p.2.natAbs = 1
theorem low_low {t b : Int} (h : b ≠ 0) : Low (low t b) := by
  obtain ⟨c, hc, ht, hb, hp, hn⟩ := low_ex (t := t) h
  have hB : 0 < lowB t b := by
    rcases Int.lt_trichotomy (lowB t b) 0 with q | q | q
    · exfalso
      rcases Int.lt_trichotomy c 0 with z | z | z
      · have := Int.mul_pos_of_neg_of_neg z q
        omega
      · exact hc z
      · have := Int.mul_neg_of_pos_of_neg z q
        omega
    · rw [q, Int.mul_zero] at hb
      exact absurd hb h
    · exact q
  refine ⟨hB, ?_⟩
  have e1 : t.natAbs = c.natAbs * (lowT t b).natAbs := by rw [← Int.natAbs_mul, ← ht]
  have e2 : b.natAbs = c.natAbs * (lowB t b).natAbs := by rw [← Int.natAbs_mul, ← hb]
  have hc2 : 0 < c.natAbs := by omega
  have e3 : c.natAbs * Nat.gcd (lowT t b).natAbs (lowB t b).natAbs = c.natAbs * 1 := by
    rw [← Nat.gcd_mul_left, ← e1, ← e2, hn, Nat.mul_one]
  exact Nat.eq_of_mul_eq_mul_left hc2 e3
theorem low_fix {p : Int × Int} (h : Low p) : low p.1 p.2 = p := by
  obtain ⟨h1, h2⟩ := h
  have e : gI p.1 p.2 = 1 := by unfold gI; rw [h2]; rfl
  unfold low lowT lowB
  rw [e, if_neg (by omega), Int.fdiv_one, Int.fdiv_one]
theorem low_le {t b : Int} (h : b ≠ 0) : (lowT t b).natAbs ≤ t.natAbs ∧ (lowB t b).natAbs ≤ b.natAbs := by
  obtain ⟨c, hc, ht, hb, hp, hn⟩ := low_ex (t := t) h
  have hc2 : 0 < c.natAbs := by omega
  have e1 : t.natAbs = c.natAbs * (lowT t b).natAbs := by rw [← Int.natAbs_mul, ← ht]
  have e2 : b.natAbs = c.natAbs * (lowB t b).natAbs := by rw [← Int.natAbs_mul, ← hb]
  exact ⟨by rw [e1]; exact Nat.le_mul_of_pos_left _ hc2, by rw [e2]; exact Nat.le_mul_of_pos_left _ hc2⟩
/-! ### lengths -/
def LONG : Int := 10 ^ 300
def okI (i : Int) : Bool := if decide (-(10 ^ 300) < i) = true then decide (i < 10 ^ 300) else false
theorem okI_iff {i : Int} : okI i = true ↔ i.natAbs < 10 ^ 300 := by
  unfold okI
  have e : ((10 : Int) ^ 300) = ((10 ^ 300 : Nat) : Int) := by rw [Int.natCast_pow]; rfl
  rw [e]
  constructor
  · intro h
    split at h
    · rename_i h1
      have h1 := of_decide_eq_true h1
      have h2 := of_decide_eq_true h
      omega
    · cases h
  · intro h
    have h1 : -((10 ^ 300 : Nat) : Int) < i := by omega
    have h2 : i < ((10 ^ 300 : Nat) : Int) := by omega
    rw [decide_eq_true h1, decide_eq_true h2]
    rfl
theorem okI_nat {i : Int} (h : okI i = true) : i.natAbs < 2 ^ 1000 := Nat.lt_trans (okI_iff.mp h) (by decide +kernel)
theorem okI_mono {i j : Int} (h : okI i = true) (l : j.natAbs ≤ i.natAbs) : okI j = true := okI_iff.mpr (Nat.lt_of_le_of_lt l (okI_iff.mp h))
theorem okI_small {i : Int} (h : i.natAbs ≤ 2 ^ 64) : okI i = true := okI_iff.mpr (Nat.lt_of_le_of_lt h (by decide +kernel))
theorem mulW {i j : Int} (hi : i.natAbs < 2 ^ 4000) (hj : j.natAbs < 2 ^ 4000) : CMulW i j := wide_mul hi hj (by decide) (by decide) (by decide)
theorem mul_lt {i j : Int} {a b : Nat} (hi : i.natAbs < 2 ^ a) (hj : j.natAbs < 2 ^ b) : (i * j).natAbs < 2 ^ (a + b) := wide_lt hi hj
theorem up_lt {i : Int} {a b : Nat} (h : i.natAbs < 2 ^ a) (l : a ≤ b) : i.natAbs < 2 ^ b := Nat.lt_of_lt_of_le h (Nat.pow_le_pow_right (by decide) l)
theorem add_lt {i j : Int} {a : Nat} (hi : i.natAbs < 2 ^ a) (hj : j.natAbs < 2 ^ a) : (i + j).natAbs < 2 ^ (a + 1) := by
  rw [Nat.pow_succ]
  omega
theorem sub_lt {i j : Int} {a : Nat} (hi : i.natAbs < 2 ^ a) (hj : j.natAbs < 2 ^ a) : (i - j).natAbs < 2 ^ (a + 1) := by
  rw [Nat.pow_succ]
  omega
theorem divWN {t b : Int} (h : b ≠ 0) (hb : b.natAbs < 2 ^ 4000) {i : Int} : CDivWN i (if b < 0 then -gI t b else gI t b) := by
  have hg := gI_pos (t := t) h
  have hl := gI_le (t := t) h
  refine ⟨by split <;> omega, ?_⟩
  have e : (if b < 0 then -gI t b else gI t b).natAbs = (gI t b).natAbs := by split <;> simp
  rw [e]
  exact Nat.lt_of_lt_of_le (PySem.Flt.log2_lt_of (show 0 < 4000 by decide) (Nat.lt_of_le_of_lt hl hb)) (by decide)
/-! ### what a Ratio looks like -/
def rf (p : Int × Int) : List (Str × V) := [("_top", .int p.1), ("_bottom", .int p.2)]
theorem ktb : (("_bottom" : Str) == ("_top" : Str)) = false := by decide +kernel
theorem ktt : (("_top" : Str) == ("_top" : Str)) = true := by decide +kernel
theorem kbb : (("_bottom" : Str) == ("_bottom" : Str)) = true := by decide +kernel
theorem rf_t (p : Int × Int) : (rf p).lookup ("_top" : Str) = some (V.int p.1) := by simp [rf, List.lookup, ktt]
theorem rf_b (p : Int × Int) : (rf p).lookup ("_bottom" : Str) = some (V.int p.2) := by simp [rf, List.lookup, ktb, kbb]
theorem rf_no {m : Str} (h1 : (m == ("_top" : Str)) = false) (h2 : (m == ("_bottom" : Str)) = false) (p : Int × Int) : (rf p).lookup m = none := by simp [rf, List.lookup, h1, h2]
theorem rf_put (p : Int × Int) : putF "_bottom" (.int p.2) (putF "_top" (.int p.1) []) = rf p := by
  show (if ("_top" : Str) = "_bottom" then _ else (("_top" : Str), V.int p.1) :: putF "_bottom" (V.int p.2) []) = _
  rw [if_neg (by decide +kernel)]
  rfl
def RAt (H : Hp) (C x : Addr) (p : Int × Int) : Prop := ∃ dx, H x = some (.ins C dx (rf p))
theorem RAt.same {H H' : Hp} {C x : Addr} {p : Int × Int} (s : Same H H') (h : RAt H C x p) : RAt H' C x p := let ⟨dx, h⟩ := h; ⟨dx, s _ _ h⟩
theorem RAt.fr {H H' : Hp} {C x d : Addr} {p : Int × Int} (s : Fr d H H') (n : x ≠ d) (h : RAt H C x p) : RAt H' C x p := let ⟨dx, h⟩ := h; ⟨dx, s _ _ h n⟩
/-- a fraction that a Ratio holds -/
structure Fine (p : Int × Int) : Prop where
  t : okI p.1 = true
  b : okI p.2 = true
  l : Low p
/-- an operand: a Ratio, or an int -/
def Opn (H : Hp) (C : Addr) (v : V) (q : Int × Int) : Prop := (∃ x, v = .ref x ∧ RAt H C x q) ∨ ∃ i, v = .int i ∧ q = (i, 1)
/-- what the head tells of the class -/
structure RatioC (K : PySem.W.Frag) (mg : Str → Option Value) (C : Addr) : Prop where
  cls : Cls K C
  nT : NoAttr K C "_top"
  nB : NoAttr K C "_bottom"
  g : mg "Ratio" = some (.ref C)
  first : PySem.W.selfFirst K C = true
  ne : PySem.W.findIn K (.ref C) "__ne__" = some (some (.builtin "object.__ne__"))
  obj : PySem.W.mroIn K C (.type "object") = some true
  rd : ClX.CRead K C (.type "type")
  cl : PySem.W.findIn K (.ref C) "__class__" = some (some (.builtin "object.__class__"))
  cg : PySem.W.specialIn K (.builtin "object.__class__") "__get__" = some (some (.builtin "getset_descriptor.__get__"))
  ct : PySem.W.takesIn K (.builtin "object.__class__") = some true
  ki : PySem.W.kitOne K (.type "int") (.ref C) = some false
  kt : PySem.W.kitOne K (.type "tuple") (.ref C) = some false
  gcd : mg "gcd" = some (.builtin "math.gcd")
theorem RatioC.ty {K : PySem.W.Frag} {mg : Str → Option Value} {C x : Addr} {H : Hp} {p : Int × Int} (T : RatioC K mg C) (h : RAt H C x p) : TyX K H (.ref x) (.ref C) := let ⟨_, h⟩ := h; .base (.ins h T.cls T.cl T.cg T.ct T.obj)
theorem kit_self {K : PySem.W.Frag} {v : Value} : PySem.W.kitOne K v v = some true := by
  unfold PySem.W.kitOne
  rw [if_pos (by simp)]
theorem y_isC {H : Hp} {Q : VK} {K : PySem.W.Frag} {x : V} {t : Value} {C : Addr} {k : Bool} (ty : TyX K H x t) (e : PySem.W.kitOne K t (.ref C) = some k) (h : Q (.bl k) H) : rIsi K [x, .ref C] H Q := ⟨x, .ref C, t, .ref C, k, rfl, .own C, ty, e, h⟩
theorem y_top {H : Hp} {K : PySem.W.Frag} {mg : Str → Option Value} {C x : Addr} {p : Int × Int} {Q : VK} (T : RatioC K mg C) (h : RAt H C x p) (q : Q (.int p.1) H) : ∃ a C dx fs v, V.ref x = .ref a ∧ H a = some (.ins C dx fs) ∧ Cls K C ∧ NoAttr K C "_top" ∧ fs.lookup ("_top" : Str) = some v ∧ Q v H :=
  let ⟨dx, h⟩ := h; ⟨x, C, dx, rf p, .int p.1, rfl, h, T.cls, T.nT, rf_t p, q⟩
theorem y_bot {H : Hp} {K : PySem.W.Frag} {mg : Str → Option Value} {C x : Addr} {p : Int × Int} {Q : VK} (T : RatioC K mg C) (h : RAt H C x p) (q : Q (.int p.2) H) : ∃ a C dx fs v, V.ref x = .ref a ∧ H a = some (.ins C dx fs) ∧ Cls K C ∧ NoAttr K C "_bottom" ∧ fs.lookup ("_bottom" : Str) = some v ∧ Q v H :=
  let ⟨dx, h⟩ := h; ⟨x, C, dx, rf p, .int p.2, rfl, h, T.cls, T.nB, rf_b p, q⟩
/-! ### promises -/
/-- a new tuple of two ints -/
def New2 (H : Hp) (p : Int × Int) (Q : VK) : Prop := ∀ a H', H a = none → H' a = some (.tup [.int p.1, .int p.2]) → Same H H' → Q (.ref a) H'
/-- a new Ratio -/
def NewR (H : Hp) (C : Addr) (p : Int × Int) (Q : VK) : Prop := ∀ a H', H a = none → RAt H' C a p → Same H H' → Q (.ref a) H'
def spIsInt : Sp := fun vs H Q _ => ∃ i : Int, vs = [.int i] ∧ Q (.bl (okI i)) H
def fracB (p : Int × Int) : Bool := okI p.1 && okI p.2 && decide (1 ≤ p.2) && decide (Nat.gcd p.1.natAbs p.2.natAbs = 1)
def spIsFrac (K : PySem.W.Frag) : Sp := fun vs H Q _ => ∃ (a : Addr) (p : Int × Int), vs = [.ref a] ∧ H a = some (.tup [.int p.1, .int p.2]) ∧ Q (.bl (fracB p)) H
def spLowest : Sp := fun vs H Q _ => ∃ t b : Int, vs = [.int t, .int b] ∧ b ≠ 0 ∧ t.natAbs < 2 ^ 4000 ∧ b.natAbs < 2 ^ 4000 ∧ New2 H (low t b) Q
def spShort : Sp := fun vs H Q _ => ∃ (a : Addr) (p : Int × Int), vs = [.ref a] ∧ H a = some (.tup [.int p.1, .int p.2]) ∧ okI p.1 = true ∧ okI p.2 = true ∧ Q (.ref a) H
def spInit (C : Addr) : Sp := fun vs H Q _ => ∃ (x dx : Addr) (t b : Int), vs = [.ref x, .int t, .int b] ∧ H x = some (.ins C dx []) ∧ okI t = true ∧ okI b = true ∧ b ≠ 0 ∧
  ∀ H', RAt H' C x (low t b) → (∀ c o, H c = some o → c ≠ x → H' c = some o) → Q .non H'
def spRatio (C : Addr) : Sp := fun vs H Q _ => ∃ t b : Int, vs = [.int t, .int b] ∧ b ≠ 0 ∧ t.natAbs < 2 ^ 4000 ∧ b.natAbs < 2 ^ 4000 ∧ okI (lowT t b) = true ∧ okI (lowB t b) = true ∧ NewR H C (low t b) Q
def spOper (C : Addr) : Sp := fun vs H Q _ => ∃ (v : V) (q : Int × Int), vs = [v] ∧ Opn H C v q ∧ okI q.1 = true ∧ New2 H q Q
def spPair (C : Addr) : Sp := fun vs H Q _ => ∃ (x : Addr) (p : Int × Int), vs = [.ref x] ∧ RAt H C x p ∧ New2 H p Q
def spTop (C : Addr) : Sp := fun vs H Q _ => ∃ (x : Addr) (p : Int × Int), vs = [.ref x] ∧ RAt H C x p ∧ Q (.int p.1) H
def spBot (C : Addr) : Sp := fun vs H Q _ => ∃ (x : Addr) (p : Int × Int), vs = [.ref x] ∧ RAt H C x p ∧ Q (.int p.2) H
def addP (p q : Int × Int) : Int × Int := low (p.1 * q.2 + q.1 * p.2) (p.2 * q.2)
def spAdd (C : Addr) : Sp := fun vs H Q _ => ∃ (x : Addr) (v : V) (p q : Int × Int), vs = [.ref x, v] ∧ RAt H C x p ∧ Fine p ∧ Opn H C v q ∧ Fine q ∧ okI (addP p q).1 = true ∧ okI (addP p q).2 = true ∧ NewR H C (addP p q) Q
def negP (p : Int × Int) : Int × Int := (-p.1, p.2)
def spNeg (C : Addr) : Sp := fun vs H Q _ => ∃ (x : Addr) (p : Int × Int), vs = [.ref x] ∧ RAt H C x p ∧ Fine p ∧ NewR H C (negP p) Q
def spEqR (C : Addr) : Sp := fun vs H Q _ => ∃ (x y : Addr) (p q : Int × Int), vs = [.ref x, .ref y] ∧ RAt H C x p ∧ RAt H C y q ∧ Q (.bl (decide (p = q))) H
def lessP (p q : Int × Int) : Bool := decide (p.1 * q.2 < q.1 * p.2)
def spBelow (C : Addr) : Sp := fun vs H Q _ => ∃ (x : Addr) (v : V) (p q : Int × Int), vs = [.ref x, v] ∧ RAt H C x p ∧ Fine p ∧ Opn H C v q ∧ Fine q ∧ ∀ H', Same H H' → Q (.bl (lessP p q)) H'
def spOf (C : Addr) : Sp := fun vs H Q _ => ∃ (a : Addr) (p : Int × Int), vs = [.ref C, .ref a] ∧ H a = some (.tup [.int p.1, .int p.2]) ∧ Fine p ∧ NewR H C p Q
/-! ### the laws' own fractions -/
theorem lowT_eq {t b : Int} (h : b ≠ 0) : ((if b < 0 then -1 else 1) * t) / gI t b = lowT t b := by
  obtain ⟨c, hc, ht, hb, hp, hn⟩ := low_ex (t := t) h
  have hg := gI_pos (t := t) h
  have e : (if b < 0 then -1 else 1) * c = gI t b := by
    have : (gI t b) = (c.natAbs : Int) := by unfold gI; rw [hn]
    rw [this]
    split <;> omega
  have e2 : (if b < 0 then -1 else 1) * t = gI t b * lowT t b := by
    rw [← e, Int.mul_assoc, ← ht]
  rw [e2, Int.mul_ediv_cancel_left _ (by omega)]
theorem lowB_eq {t b : Int} (h : b ≠ 0) : ((if b < 0 then -1 else 1) * b) / gI t b = lowB t b := by
  obtain ⟨c, hc, ht, hb, hp, hn⟩ := low_ex (t := t) h
  have hg := gI_pos (t := t) h
  have e : (if b < 0 then -1 else 1) * c = gI t b := by
    have : (gI t b) = (c.natAbs : Int) := by unfold gI; rw [hn]
    rw [this]
    split <;> omega
  have e2 : (if b < 0 then -1 else 1) * b = gI t b * lowB t b := by
    rw [← e, Int.mul_assoc, ← hb]
  rw [e2, Int.mul_ediv_cancel_left _ (by omega)]
def spLRatio : Sp := fun vs H Q _ => ∃ t b : Int, vs = [.int t, .int b] ∧ b ≠ 0 ∧ t.natAbs < 2 ^ 4000 ∧ b.natAbs < 2 ^ 4000 ∧ New2 H (low t b) Q
def spLPlus (K : PySem.W.Frag) : Sp := fun vs H Q _ => ∃ (a b : Addr) (p q : Int × Int), vs = [.ref a, .ref b] ∧ SqT K H a [.int p.1, .int p.2] ∧ SqT K H b [.int q.1, .int q.2] ∧ Fine p ∧ Fine q ∧ New2 H (addP p q) Q
/-- the small fractions that the laws draw -/
def fracs : List (Int × Int) := ((List.range 13).map fun (i : Nat) => ((i : Int) - 6)).flatMap fun t => [1, 2, 3, 4, 5, 6].map fun b => low t b
def spLFrac : Sp := fun vs H Q _ => ∃ d, vs = [.ref d] ∧ DiceAt H d ∧ ∀ (p : Int × Int) (a : Addr) (H' : Hp), p ∈ fracs → H a = none → H' a = some (.tup [.int p.1, .int p.2]) → DiceAt H' d → Fr d H H' → Q (.ref a) H'
theorem fracs_mem {t b : Int} (h0 : -6 ≤ t) (h1 : t ≤ 6) (hb : b ∈ [1, 2, 3, 4, 5, (6 : Int)]) : low t b ∈ fracs := by
  unfold fracs
  refine List.mem_flatMap.mpr ⟨t, List.mem_map.mpr ⟨(t + 6).toNat, List.mem_range.mpr (by omega), by omega⟩, List.mem_map.mpr ⟨b, hb, rfl⟩⟩
def smallP (p : Int × Int) : Bool := decide (p.1.natAbs ≤ 2 ^ 60) && decide (p.2.natAbs ≤ 2 ^ 60) && decide (0 < p.2) && decide (Nat.gcd p.1.natAbs p.2.natAbs = 1)
theorem fine_small {p : Int × Int} (h : smallP p = true) : Fine p := by
  unfold smallP at h
  simp only [Bool.and_eq_true, decide_eq_true_eq] at h
  exact ⟨okI_small (by omega), okI_small (by omega), h.1.2, h.2⟩
theorem fracs_small : ∀ p ∈ fracs, smallP p = true := by decide +kernel
/-! ### a sorted list of pairs -/
theorem c_sortP {X : Cx} {K : PySem.W.Frag} (h : X.K = K := by rfl) : CallR X (.builtin "sorted") (rSortedPO K) := h ▸ cr_sortedPO
/-- the pair that stands at a reference -/
def keyAt (H : Hp) (v : V) : Int × Int := match v with
  | .ref t => (match H t with
    | some (.tup [.int i, .int j]) => (i, j)
    | _ => (0, 0))
  | _ => (0, 0)
theorem keyAt_of {H : Hp} {t : Addr} {i j : Int} (h : H t = some (.tup [.int i, .int j])) : keyAt H (.ref t) = (i, j) := by
  unfold keyAt
  simp only [h]
def spLaw (K : PySem.W.Frag) : Sp := fun vs H Q _ => ∃ (a : Addr) (ns : List Int), vs = [.ref a] ∧ SqL K H a (ns.map V.int) ∧ ns.length ≤ 63 ∧ ∀ H', Q (.bl true) H'
/-- behind C(..): all that stood stands -/
theorem ini_same {H H2 : Hp} {x dx : Addr} {o : HO} {u : HO} (n1 : H x = none) (n2 : H dx = none) (n3 : dx ≠ x) (c : ∀ c o', (upd (upd H dx u) x o) c = some o' → c ≠ x → H2 c = some o') : Same H H2 := fun b o' h => by
  have nb : b ≠ x := fun e => by
    rw [e, n1] at h
    cases h
  have nd : b ≠ dx := fun e => by
    rw [e, n2] at h
    cases h
  exact c b o' (by rw [upd_ne nb, upd_ne nd]; exact h) nb
/-! ### facts that the head tells as truth values -/
theorem ex_at {l : List Bool} {n : Nat} {b : Bool} (h : l = List.replicate n true) (i' : Nat) (e : l[i']? = some b) : b = true := by
  rw [h] at e
  exact (List.eq_of_mem_replicate (List.mem_of_getElem? e))
def propB (K : PySem.W.Frag) (C : Addr) (m : Str) : Bool := decide (PySem.W.findIn K (.ref C) m = some (some (.ref (He.ma K C m)))) && (decide (PySem.W.specialIn K (.ref (He.ma K C m)) "__get__" = some (some (.builtin "property.__get__"))) && (decide (PySem.W.takesIn K (.ref (He.ma K C m)) = some true) && (match PySem.W.recIn K (He.ma K C m) "property" with
    | some (.ref _ :: _) => true
    | _ => false)))
theorem propB_ok {K : PySem.W.Frag} {C : Addr} {m : Str} (h : propB K C m = true) : PropOf K C m (He.ma K C m) (He5.wf K C "property" m) := by
  obtain ⟨h1, h⟩ := He.ba h
  obtain ⟨h2, h⟩ := He.ba h
  obtain ⟨h3, h4⟩ := He.ba h
  refine ⟨of_decide_eq_true h1, of_decide_eq_true h2, of_decide_eq_true h3, ?_⟩
  unfold He5.wf
  split at h4
  · rename_i g r e
    exact ⟨r, by rw [e]⟩
  · cases h4
end Ow
/-! str, bool, abs of own objects; == with values of other types. -/
namespace Ow
open PySem PySem.Spec PyProof.Rows L2
section
variable {X : Cx} {k : Nat} {C f : Addr} {fd : FuncData} {ps : List Str} {sp : Sp}
/-- a built-in's argument: one instance, whose special method gives what R says -/
def rOwnT (C : Addr) (sp : Sp) (R : V → Prop) : List V → Hp → VK → Prop := fun xs H Q => ∃ a dx fs, xs = [.ref a] ∧ H a = some (.ins C dx fs) ∧ sp [.ref a] H (fun v H' => R v ∧ Q v H') E0
def isTxt (v : V) : Prop := ∃ x, v = .str x
def isTru (v : V) : Prop := ∃ x, v = .bl x
theorem k_strO (F : FnOk X.prog X.w X.K X.mg X.base CX0 k f fd ps sp) (hr : Room (k + 2) X.A) (hb : Binds X.K fd ps []) (M : Spc X.K C "__str__" f) : CallR X (.type "str") (rOwnT C sp isTxt) := by
  intro pins s σ H xs us Q I r h
  obtain ⟨a, dx, fs, rfl, ha, hs⟩ := h
  obtain ⟨u, rfl, rx⟩ := vals1 r
  cases rx
  obtain ⟨ox, od, J⟩ := inst_at I ha
  refine PySem.W.kso_call (hr.in1.in1.units0) I.kIn J M.at_ M.fn ?_
  refine wpAny_mono (run_sub (vs := [.ref a]) F (sub_here hr).in1.in1 hb pass0 I (.cons rfl .nil) hs) (fun v s' hv => ?_) fun _ _ e => e
  obtain ⟨z, H', I', rz, ⟨x, rfl⟩, q⟩ := hv
  obtain ⟨t, rfl⟩ := (show ∃ t, v = Value.str x t from rz)
  exact ⟨.str x, H', I', ⟨t, rfl⟩, q⟩
theorem k_boolO (F : FnOk X.prog X.w X.K X.mg X.base CX0 k f fd ps sp) (hr : Room (k + 2) X.A) (hb : Binds X.K fd ps []) (M : Spc X.K C "__bool__" f) : CallR X (.type "bool") (rOwnT C sp isTru) := by
  intro pins s σ H xs us Q I r h
  obtain ⟨a, dx, fs, rfl, ha, hs⟩ := h
  obtain ⟨u, rfl, rx⟩ := vals1 r
  cases rx
  obtain ⟨ox, od, J⟩ := inst_at I ha
  obtain ⟨m, hF⟩ := I.fr
  have tru : wpAny (model X.prog X.w) X.A.in1.in1 (truthy (.ref a)) (fun b s' => EP X pins σ Q (.bool b) s') X.xe s := by
    refine PySem.W.truthy_K hF I.ok.mod.kin J M.at_ M.fn ?_
    refine wpAny_mono (run_sub (vs := [.ref a]) F (sub_here hr).in1.in1 hb pass0 I (.cons rfl .nil) hs) (fun v s' hv => ?_) fun _ _ e => e
    obtain ⟨z, H', I', rz, ⟨x, rfl⟩, q⟩ := hv
    cases (show v = Value.bool x from rz)
    exact ⟨.bl x, H', I', rfl, q⟩
  refine PySem.callType_codes (T := "bool") (Bi := Builtin.«object.__init__») (Q₁ := fun r s₁ => ∃ b, r = .bool b ∧ EP X pins σ Q r s₁) PySem.F.called_bool (PySem.F.typeCall_bool_1 _) PySem.F.entry_object_init ?_ ?_
  · refine codeAny_of_tree ?_
    show wpAny _ _ (do checkBuiltinCall "bool.__new__" ⟨[.type "bool", .ref a], []⟩; again (.builtin "bool.__new__" ⟨[.type "bool", .ref a], []⟩)) _ _ s
    refine wpAny_bind (wpAny_of_eq (PySem.F.newCall_bool_1 _) (wpAny_pure ⟨plainId_quiet (by decide +kernel) _, codeAny_builtin PySem.F.entry_bool_new ?_⟩))
    rw [Around.under_plainId (by decide +kernel) _]
    have f1 := PySem.F.conv_sub_bool
    have fin : ∀ b s', EP X pins σ Q (.bool b) s' → (fun r s₁ => ∃ b, r = Value.bool b ∧ EP X pins σ Q r s₁) (.bool b) s' := fun b s' h => ⟨b, rfl, h⟩
    unfold Builtin.«bool.__new__»
    obtain ⟨hp, g, d, tk, os⟩ := s
    repeat (any_goals (first | assumption | (with_reducible refine wpAny_mono tru (fun b s' h => ?_) (fun _ _ e => e)) | wp_step))
    all_goals first | exact ⟨_, rfl, h⟩ | skip
  · rintro obj s₁ ⟨b, rfl, hq⟩
    exact ⟨rfl, PySem.F.args_object_init_2 _ _, object_init_meets PySem.F.called_bool.init.lookup PySem.F.called_bool.made (by decide +kernel) X.prog X.w X.A.in1 _ s₁ ⟨rfl, rfl, hq⟩⟩
theorem k_absO (F : FnOk X.prog X.w X.K X.mg X.base CX0 k f fd ps sp) (hr : Room (k + 1) X.A) (hb : Binds X.K fd ps []) (M : Spc X.K C "__abs__" f) : CallR X (.builtin "abs") (fun xs H Q => ∃ a dx fs, xs = [.ref a] ∧ H a = some (.ins C dx fs) ∧ sp [.ref a] H Q E0) := by
  intro pins s σ H xs us Q I r h
  obtain ⟨a, dx, fs, rfl, ha, hs⟩ := h
  obtain ⟨u, rfl, rx⟩ := vals1 r
  cases rx
  obtain ⟨ox, od, J⟩ := inst_at I ha
  refine PySem.Calls.call_function_entry kind_abs plain_abs entry_abs (args_abs _) ?_
  unfold Builtin.«abs»
  refine wpAny_bind (m := oneArg "abs" _) (wpAny_pure ?_)
  refine wpAny_bind (m := callSpecial? (.ref a) (Str.ofString "__abs__")) (PySem.W.special_fn I.kIn J M.at_ (beq_iff_eq.mp M.fn) (wpAny_mono (run_sub (vs := [.ref a]) F (sub_here hr).in1 hb pass0 I (.cons rfl .nil) hs) (fun v s' hv => ?_) fun _ _ e => e))
  exact wpAny_pure ⟨_, rfl, hv⟩
/-- x == y, y of another type, which is not first -/
def rOwnEqX (K : PySem.W.Frag) (C : Addr) (sp : Sp) : R2 := fun x y H Q => ∃ a dx fs t, x = .ref a ∧ H a = some (.ins C dx fs) ∧ TyX K H y t ∧ PySem.W.notFirst K C t = true ∧ sp [.ref a, y] H Q E0
theorem k_eqX (F : FnOk X.prog X.w X.K X.mg X.base CX0 k f fd ps sp) (hr : Room k X.A) (hb : Binds X.K fd ps []) (M : Spc X.K C "__eq__" f) : OpR X (compareOp .Eq) (rOwnEqX X.K C sp) := by
  intro pins s σ H x y v u Q I rx ry h
  obtain ⟨a, dx, fs, t, rfl, ha, ty, nf, hs⟩ := h
  cases rx
  obtain ⟨ox, od, J⟩ := inst_at I ha
  obtain ⟨m, hF⟩ := I.fr
  obtain ⟨P, kx, hp, _⟩ := kit_of I ry ty
  show wpAny _ _ (richCompare .Eq (.ref a) u) _ _ _
  refine PySem.W.cmp_K (op := .Eq) (tb := t) hr.units0 hF I.ok.mod.kin J (kx.ty _ _ I.kIn hp) nf M.at_ M.fn ?_
  refine wpAny_mono (run_sub (vs := [.ref a, y]) F (sub_here hr) hb pass0 I (.cons rfl (.cons ry .nil)) hs) (fun v s' hv => ?_) fun _ _ e => e
  obtain ⟨z, H', I', rz, q⟩ := hv
  exact back_of rz ⟨z, H', I', rz, q⟩
end
end Ow
/-! Fractions: what reckoning keeps, more promises. -/
namespace Ow
open PySem PySem.Spec PyProof.Rows L2
/-! ### lowest terms of multiples -/
theorem div_mul {c x y : Int} (hc : c ≠ 0) (hy : y ≠ 0) : (if c * y < 0 then -gI (c * x) (c * y) else gI (c * x) (c * y)) = c * (if y < 0 then -gI x y else gI x y) := by
  have e : gI (c * x) (c * y) = (c.natAbs : Int) * gI x y := by
    unfold gI
    rw [Int.natAbs_mul, Int.natAbs_mul, Nat.gcd_mul_left, Int.natCast_mul]
  rw [e]
  rcases Int.lt_or_gt_of_ne hc with h | h <;> rcases Int.lt_or_gt_of_ne hy with g | g
  · have p := Int.mul_pos_of_neg_of_neg h g
    have a : (c.natAbs : Int) = -c := by omega
    rw [if_neg (by omega), if_pos g, a, Int.neg_mul, Int.mul_neg]
  · have p := Int.mul_neg_of_neg_of_pos h g
    have a : (c.natAbs : Int) = -c := by omega
    rw [if_pos p, if_neg (by omega), a, Int.neg_mul, Int.neg_neg]
  · have p := Int.mul_neg_of_pos_of_neg h g
    have a : (c.natAbs : Int) = c := by omega
    rw [if_pos p, if_pos g, a, Int.mul_neg]
  · have p := Int.mul_pos h g
    have a : (c.natAbs : Int) = c := by omega
    rw [if_neg (by omega), if_neg (by omega), a]
theorem low_mul {c x y : Int} (hc : c ≠ 0) (hy : y ≠ 0) : low (c * x) (c * y) = low x y := by
  have hd : (if y < 0 then -gI x y else gI x y) ≠ 0 := by
    have := gI_pos (t := x) hy
    split <;> omega
  have hcd : c * (if y < 0 then -gI x y else gI x y) ≠ 0 := Int.mul_ne_zero hc hd
  obtain ⟨u, hu⟩ : (if y < 0 then -gI x y else gI x y) ∣ x := by
    split
    · exact Int.neg_dvd.mpr gI_dvd_t
    · exact gI_dvd_t
  obtain ⟨v, hv⟩ : (if y < 0 then -gI x y else gI x y) ∣ y := by
    split
    · exact Int.neg_dvd.mpr gI_dvd_b
    · exact gI_dvd_b
  unfold low lowT lowB
  rw [div_mul hc hy]
  generalize (if y < 0 then -gI x y else gI x y) = D at *
  subst hu
  subst hv
  rw [← Int.mul_assoc, ← Int.mul_assoc, Int.mul_fdiv_cancel_left _ hcd, Int.mul_fdiv_cancel_left _ hcd, Int.mul_fdiv_cancel_left _ hd, Int.mul_fdiv_cancel_left _ hd]
theorem low_of {t b u v : Int} (hb : b ≠ 0) (hv : v ≠ 0) (h : t * v = u * b) : low t b = low u v := by
  rw [← low_mul (x := t) hv hb, ← low_mul (x := u) hb hv, Int.mul_comm v t, h, Int.mul_comm u b, Int.mul_comm v b]
def subP (p q : Int × Int) : Int × Int := low (p.1 * q.2 - q.1 * p.2) (p.2 * q.2)
def mulP (p q : Int × Int) : Int × Int := low (p.1 * q.1) (p.2 * q.2)
def overP (p q : Int × Int) : Int × Int := low (p.1 * q.2) (p.2 * q.1)
def absP (p : Int × Int) : Int × Int := ((p.1.natAbs : Int), p.2)
section
variable {t b : Int} {p q r : Int × Int}
theorem sub_low (hb : b ≠ 0) (hq : q.2 ≠ 0) : subP (low t b) q = low (t * q.2 - q.1 * b) (b * q.2) := by
  obtain ⟨c, hc, h1, h2, _, _⟩ := low_ex (t := t) hb
  have hB : lowB t b ≠ 0 := fun e => hb (by rw [h2, e, Int.mul_zero])
  have e : low (t * q.2 - q.1 * b) (b * q.2) = low (c * (lowT t b * q.2 - q.1 * lowB t b)) (c * (lowB t b * q.2)) := by
    congr 1
    · conv => lhs; rw [h1, h2]
      grind
    · conv => lhs; rw [h2]
      grind
  rw [e, low_mul hc (Int.mul_ne_zero hB hq)]
  rfl
theorem add_low (hb : b ≠ 0) (hq : q.2 ≠ 0) : addP (low t b) q = low (t * q.2 + q.1 * b) (b * q.2) := by
  obtain ⟨c, hc, h1, h2, _, _⟩ := low_ex (t := t) hb
  have hB : lowB t b ≠ 0 := fun e => hb (by rw [h2, e, Int.mul_zero])
  have e : low (t * q.2 + q.1 * b) (b * q.2) = low (c * (lowT t b * q.2 + q.1 * lowB t b)) (c * (lowB t b * q.2)) := by
    congr 1
    · conv => lhs; rw [h1, h2]
      grind
    · conv => lhs; rw [h2]
      grind
  rw [e, low_mul hc (Int.mul_ne_zero hB hq)]
  rfl
theorem mul_low (hb : b ≠ 0) (hq : q.2 ≠ 0) : mulP (low t b) q = low (t * q.1) (b * q.2) := by
  obtain ⟨c, hc, h1, h2, _, _⟩ := low_ex (t := t) hb
  have hB : lowB t b ≠ 0 := fun e => hb (by rw [h2, e, Int.mul_zero])
  have e : low (t * q.1) (b * q.2) = low (c * (lowT t b * q.1)) (c * (lowB t b * q.2)) := by
    congr 1
    · conv => lhs; rw [h1]
      grind
    · conv => lhs; rw [h2]
      grind
  rw [e, low_mul hc (Int.mul_ne_zero hB hq)]
  rfl
theorem over_low (hb : b ≠ 0) (hq : q.1 ≠ 0) : overP (low t b) q = low (t * q.2) (b * q.1) := by
  obtain ⟨c, hc, h1, h2, _, _⟩ := low_ex (t := t) hb
  have hB : lowB t b ≠ 0 := fun e => hb (by rw [h2, e, Int.mul_zero])
  have e : low (t * q.2) (b * q.1) = low (c * (lowT t b * q.2)) (c * (lowB t b * q.1)) := by
    congr 1
    · conv => lhs; rw [h1]
      grind
    · conv => lhs; rw [h2]
      grind
  rw [e, low_mul hc (Int.mul_ne_zero hB hq)]
  rfl
theorem add_comm' : addP p q = addP q p := by
  unfold addP
  rw [Int.add_comm, Int.mul_comm p.2 q.2]
theorem mul_comm' : mulP p q = mulP q p := by
  unfold mulP
  rw [Int.mul_comm p.1 q.1, Int.mul_comm p.2 q.2]
theorem nz (h : Low p) : p.2 ≠ 0 := Int.ne_of_gt h.1
theorem add_sub (hp : Low p) (hq : Low q) : subP (addP p q) q = p := by
  have h1 := nz hp
  have h2 := nz hq
  unfold addP
  rw [sub_low (Int.mul_ne_zero h1 h2) h2, low_of (Int.mul_ne_zero (Int.mul_ne_zero h1 h2) h2) h1 (u := p.1) (by grind), low_fix hp]
theorem sub_self' (hp : Low p) : subP p p = (0, 1) := by
  have h1 := nz hp
  unfold subP
  rw [low_of (Int.mul_ne_zero h1 h1) (show (1 : Int) ≠ 0 by decide) (u := 0) (by grind)]
  decide
theorem mul_over (hp : Low p) (hq : Low q) (h0 : q.1 ≠ 0) : overP (mulP p q) q = p := by
  have h1 := nz hp
  have h2 := nz hq
  unfold mulP
  rw [over_low (Int.mul_ne_zero h1 h2) h0, low_of (Int.mul_ne_zero (Int.mul_ne_zero h1 h2) h0) h1 (u := p.1) (by grind), low_fix hp]
theorem mul_add' (hp : Low p) (hq : Low q) (hr : Low r) : mulP p (addP q r) = addP (mulP p q) (mulP p r) := by
  have h1 := nz hp
  have h2 := nz hq
  have h3 := nz hr
  have hm : (mulP p r).2 ≠ 0 := nz (low_low (Int.mul_ne_zero h1 h3))
  rw [mul_comm']
  unfold addP
  rw [mul_low (Int.mul_ne_zero h2 h3) h1]
  show _ = addP (mulP p q) (mulP p r)
  rw [show mulP p q = low (p.1 * q.1) (p.2 * q.2) from rfl, add_low (Int.mul_ne_zero h1 h2) hm]
  have e : low ((p.1 * q.1) * (mulP p r).2 + (mulP p r).1 * (p.2 * q.2)) ((p.2 * q.2) * (mulP p r).2) = addP (mulP p r) (p.1 * q.1, p.2 * q.2) := by
    unfold addP
    congr 1
    · grind
    · grind
  rw [e, show mulP p r = low (p.1 * r.1) (p.2 * r.2) from rfl, add_low (Int.mul_ne_zero h1 h3) (Int.mul_ne_zero h1 h2)]
  exact low_of (Int.mul_ne_zero (Int.mul_ne_zero h2 h3) h1) (Int.mul_ne_zero (Int.mul_ne_zero h1 h3) (Int.mul_ne_zero h1 h2)) (by grind)
end
/-- powers by multiplying, before lowest terms -/
def pw (p : Int × Int) : Nat → Int × Int
  | 0 => (1, 1)
  | n + 1 => ((pw p n).1 * p.1, (pw p n).2 * p.2)
theorem pw_nz {p : Int × Int} (h : p.2 ≠ 0) : ∀ n, (pw p n).2 ≠ 0
  | 0 => by show (1 : Int) ≠ 0; decide
  | n + 1 => Int.mul_ne_zero (pw_nz h n) h
theorem pw_nz1 {p : Int × Int} (h : p.1 ≠ 0) : ∀ n, (pw p n).1 ≠ 0
  | 0 => by show (1 : Int) ≠ 0; decide
  | n + 1 => Int.mul_ne_zero (pw_nz1 h n) h
theorem pw_mul {p : Int × Int} (h : p.2 ≠ 0) (n : Nat) : mulP (low (pw p n).1 (pw p n).2) p = low (pw p (n + 1)).1 (pw p (n + 1)).2 := mul_low (pw_nz h n) h
theorem pw_over {p : Int × Int} (h : p.1 ≠ 0) (n : Nat) : overP (low (pw p n).2 (pw p n).1) p = low (pw p (n + 1)).2 (pw p (n + 1)).1 := over_low (pw_nz1 h n) h
/-- digits -/
def Bd (n : Nat) (p : Int × Int) : Prop := p.1.natAbs < 2 ^ n ∧ p.2.natAbs < 2 ^ n
theorem Bd.up {n m : Nat} {p : Int × Int} (h : Bd n p) (l : n ≤ m) : Bd m p := ⟨up_lt h.1 l, up_lt h.2 l⟩
theorem bd_low {n : Nat} {t b : Int} (h0 : b ≠ 0) (h : Bd n (t, b)) : Bd n (low t b) := ⟨Nat.lt_of_le_of_lt (low_le h0).1 h.1, Nat.lt_of_le_of_lt (low_le h0).2 h.2⟩
theorem okI_bd {i : Int} {n : Nat} (h : i.natAbs < 2 ^ n) (l : n ≤ 990) : okI i = true := okI_iff.mpr (Nat.lt_of_lt_of_le (up_lt h l) (by decide +kernel))
theorem Bd.ok {n : Nat} {p : Int × Int} (h : Bd n p) (l : n ≤ 990) : okI p.1 = true ∧ okI p.2 = true := ⟨okI_bd h.1 l, okI_bd h.2 l⟩
theorem Bd.fine {n : Nat} {p : Int × Int} (h : Bd n p) (l : n ≤ 990) (L : Low p) : Fine p := ⟨(h.ok l).1, (h.ok l).2, L⟩
section
variable {n m : Nat} {p q : Int × Int}
theorem bd_add (hp : Bd n p) (hq : Bd m q) (lp : Low p) (lq : Low q) : Bd (n + m + 1) (addP p q) ∧ Low (addP p q) := by
  have h := Int.mul_ne_zero (nz lp) (nz lq)
  have x := mul_lt hq.1 hp.2
  rw [Nat.add_comm m n] at x
  exact ⟨bd_low h ⟨add_lt (mul_lt hp.1 hq.2) x, up_lt (mul_lt hp.2 hq.2) (by omega)⟩, low_low h⟩
theorem bd_sub (hp : Bd n p) (hq : Bd m q) (lp : Low p) (lq : Low q) : Bd (n + m + 1) (subP p q) ∧ Low (subP p q) := by
  have h := Int.mul_ne_zero (nz lp) (nz lq)
  have x := mul_lt hq.1 hp.2
  rw [Nat.add_comm m n] at x
  exact ⟨bd_low h ⟨sub_lt (mul_lt hp.1 hq.2) x, up_lt (mul_lt hp.2 hq.2) (by omega)⟩, low_low h⟩
theorem bd_mul (hp : Bd n p) (hq : Bd m q) (lp : Low p) (lq : Low q) : Bd (n + m) (mulP p q) ∧ Low (mulP p q) := by
  have h := Int.mul_ne_zero (nz lp) (nz lq)
  exact ⟨bd_low h ⟨mul_lt hp.1 hq.1, mul_lt hp.2 hq.2⟩, low_low h⟩
theorem bd_over (hp : Bd n p) (hq : Bd m q) (lp : Low p) (h0 : q.1 ≠ 0) : Bd (n + m) (overP p q) ∧ Low (overP p q) := by
  have h := Int.mul_ne_zero (nz lp) h0
  exact ⟨bd_low h ⟨mul_lt hp.1 hq.2, mul_lt hp.2 hq.1⟩, low_low h⟩
theorem bd_pw (hp : Bd n p) : ∀ k, Bd (n * k + 1) (pw p k)
  | 0 => ⟨by show Int.natAbs 1 < 2 ^ (0 + 1); decide, by show Int.natAbs 1 < 2 ^ (0 + 1); decide⟩
  | k + 1 => by
    have h := bd_pw hp k
    have e : n * (k + 1) + 1 = n * k + 1 + n := by rw [Nat.mul_succ]; omega
    rw [e]
    exact ⟨mul_lt h.1 hp.1, mul_lt h.2 hp.2⟩
end
/-! ### texts -/
def tI (i : Int) : Str := (toString i : String)
def txt (p : Int × Int) : Str := if p.2 = 1 then tI p.1 else tI p.1 ++ "/" ++ tI p.2
theorem tI_len {i : Int} (h : okI i = true) : (tI i).length ≤ 301 := by
  have e := int_text_length_le10 (k := 300) (by decide) (okI_iff.mp h)
  unfold tI
  show (Str.ofString _).length ≤ _
  rw [PySem.ofString_length]
  exact e
theorem tI_log {i : Int} (h : okI i = true) : i.natAbs.log2 < 1920 := PySem.Flt.log2_lt_of (by decide) (Nat.lt_trans (okI_nat h) (by decide))
theorem strOk_iff {x : Str} : PyData.strOk x = true ↔ ∀ c ∈ x.cps.toList, c < 0x110000 := by
  unfold PyData.strOk
  rw [← Array.all_toList, List.all_eq_true]
  exact ⟨fun h c m => of_decide_eq_true (h c m), fun h c m => decide_eq_true (h c m)⟩
theorem tI_ok (i : Int) : PyData.strOk (tI i) = true := strOk_iff.mpr fun c m => by
  apply Decidable.byContradiction
  intro h
  exact int_text_free' c ⟨by omega, by omega⟩ i m
theorem ok_app {x y : Str} (h : PyData.strOk x = true) (g : PyData.strOk y = true) : PyData.strOk (x ++ y) = true := strOk_iff.mpr fun c m => by
  rw [Str.cps_append, Array.toList_append] at m
  rcases List.mem_append.mp m with m | m
  · exact strOk_iff.mp h c m
  · exact strOk_iff.mp g c m
theorem txt_ok (p : Int × Int) : PyData.strOk (txt p) = true := by
  unfold txt
  split
  · exact tI_ok _
  · exact ok_app (ok_app (tI_ok _) (by decide +kernel)) (tI_ok _)
/-! ### promises -/
def powP (p : Int × Int) (e : Int) : Int × Int := if e < 0 then low (pw p e.natAbs).2 (pw p e.natAbs).1 else low (pw p e.natAbs).1 (pw p e.natAbs).2
def sgn (i : Int) : Int := if i < 0 then -1 else if 0 < i then 1 else 0
def spSign (C : Addr) : Sp := fun vs H Q _ => ∃ (x : Addr) (p : Int × Int), vs = [.ref x] ∧ RAt H C x p ∧ Q (.int (sgn p.1)) H
def spWhole (C : Addr) : Sp := fun vs H Q _ => ∃ (x : Addr) (p : Int × Int), vs = [.ref x] ∧ RAt H C x p ∧ Fine p ∧ Q (.int (p.1 / p.2)) H
def spTextOf : Sp := fun vs H Q _ => ∃ (a : Addr) (p : Int × Int), vs = [.ref a] ∧ H a = some (.tup [.int p.1, .int p.2]) ∧ okI p.1 = true ∧ okI p.2 = true ∧ Q (.str (txt p)) H
def spText (C : Addr) : Sp := fun vs H Q _ => ∃ (x : Addr) (p : Int × Int), vs = [.ref x] ∧ RAt H C x p ∧ Fine p ∧ ∀ H', Same H H' → Q (.str (txt p)) H'
def spBool (C : Addr) : Sp := fun vs H Q _ => ∃ (x : Addr) (p : Int × Int), vs = [.ref x] ∧ RAt H C x p ∧ Q (.bl (p.1 != 0)) H
def spSub (C : Addr) : Sp := fun vs H Q _ => ∃ (x : Addr) (v : V) (p q : Int × Int), vs = [.ref x, v] ∧ RAt H C x p ∧ Fine p ∧ Opn H C v q ∧ Fine q ∧ okI (subP p q).1 = true ∧ okI (subP p q).2 = true ∧ NewR H C (subP p q) Q
def spMul (C : Addr) : Sp := fun vs H Q _ => ∃ (x : Addr) (v : V) (p q : Int × Int), vs = [.ref x, v] ∧ RAt H C x p ∧ Fine p ∧ Opn H C v q ∧ Fine q ∧ okI (mulP p q).1 = true ∧ okI (mulP p q).2 = true ∧ NewR H C (mulP p q) Q
def spDiv (C : Addr) : Sp := fun vs H Q _ => ∃ (x : Addr) (v : V) (p q : Int × Int), vs = [.ref x, v] ∧ RAt H C x p ∧ Fine p ∧ Opn H C v q ∧ Fine q ∧ q.1 ≠ 0 ∧ okI (overP p q).1 = true ∧ okI (overP p q).2 = true ∧ NewR H C (overP p q) Q
def spAbs (C : Addr) : Sp := fun vs H Q _ => ∃ (x : Addr) (p : Int × Int), vs = [.ref x] ∧ RAt H C x p ∧ Fine p ∧ NewR H C (absP p) Q
def spEqX (K : PySem.W.Frag) (C : Addr) : Sp := fun vs H Q _ => ∃ (x : Addr) (v : V) (p : Int × Int), vs = [.ref x, v] ∧ RAt H C x p ∧ ((∃ y q, v = .ref y ∧ RAt H C y q ∧ Q (.bl (decide (p = q))) H) ∨ ∃ t, TyX K H v t ∧ PySem.W.kitOne K t (.ref C) = some false ∧ Q (.bl false) H)
def spPow (C : Addr) : Sp := fun vs H Q _ => ∃ (x : Addr) (p : Int × Int) (e : Int), vs = [.ref x, .int e] ∧ RAt H C x p ∧ Low p ∧ Bd 140 p ∧ e.natAbs ≤ 3 ∧ (e < 0 → p.1 ≠ 0) ∧ NewR H C (powP p e) Q
def spLMinus (K : PySem.W.Frag) : Sp := fun vs H Q _ => ∃ (a b : Addr) (p q : Int × Int), vs = [.ref a, .ref b] ∧ SqT K H a [.int p.1, .int p.2] ∧ SqT K H b [.int q.1, .int q.2] ∧ Fine p ∧ Fine q ∧ New2 H (subP p q) Q
def spLTimes (K : PySem.W.Frag) : Sp := fun vs H Q _ => ∃ (a b : Addr) (p q : Int × Int), vs = [.ref a, .ref b] ∧ SqT K H a [.int p.1, .int p.2] ∧ SqT K H b [.int q.1, .int q.2] ∧ Fine p ∧ Fine q ∧ New2 H (mulP p q) Q
def spLOver (K : PySem.W.Frag) : Sp := fun vs H Q _ => ∃ (a b : Addr) (p q : Int × Int), vs = [.ref a, .ref b] ∧ SqT K H a [.int p.1, .int p.2] ∧ SqT K H b [.int q.1, .int q.2] ∧ Fine p ∧ Fine q ∧ q.1 ≠ 0 ∧ New2 H (overP p q) Q
def spLLess (K : PySem.W.Frag) : Sp := fun vs H Q _ => ∃ (a b : Addr) (p q : Int × Int), vs = [.ref a, .ref b] ∧ SqT K H a [.int p.1, .int p.2] ∧ SqT K H b [.int q.1, .int q.2] ∧ Fine p ∧ Fine q ∧ Q (.bl (lessP p q)) H
def spLText (K : PySem.W.Frag) : Sp := fun vs H Q _ => ∃ (a : Addr) (p : Int × Int), vs = [.ref a] ∧ SqT K H a [.int p.1, .int p.2] ∧ Fine p ∧ Q (.str (txt p)) H
def spLPow (K : PySem.W.Frag) : Sp := fun vs H Q _ => ∃ (a : Addr) (p : Int × Int) (e : Int), vs = [.ref a, .int e] ∧ H a = some (.tup [.int p.1, .int p.2]) ∧ Low p ∧ Bd 140 p ∧ e.natAbs ≤ 3 ∧ (e < 0 → p.1 ≠ 0) ∧ New2 H (powP p e) Q
def spLGreat : Sp := fun vs H Q _ => ∃ d, vs = [.ref d] ∧ DiceAt H d ∧ ∀ (p : Int × Int) (a : Addr) (H' : Hp), Low p → Bd 140 p → H a = none → H' a = some (.tup [.int p.1, .int p.2]) → DiceAt H' d → Fr d H H' → Q (.ref a) H'
def spLTold (C : Addr) : Sp := fun vs H Q _ => ∃ (x a : Addr) (p : Int × Int), vs = [.ref x, .ref a] ∧ RAt H C x p ∧ H a = some (.tup [.int p.1, .int p.2]) ∧ Fine p ∧ ∀ H', Same H H' → Q (.bl true) H'
def spLRight : Sp := fun vs H Q _ => ∃ d, vs = [.ref d] ∧ DiceAt H d ∧ ∀ H', DiceAt H' d → Fr d H H' → Q (.bl true) H'
theorem fracs_fine {p : Int × Int} (h : p ∈ fracs) : Low p ∧ Bd 140 p := by
  have a : (fracs.all fun p => decide (0 < p.2) && (decide (Nat.gcd p.1.natAbs p.2.natAbs = 1) && (decide (p.1.natAbs < 100) && decide (p.2.natAbs < 100)))) = true := by decide +kernel
  have a := List.all_eq_true.mp a p h
  simp only [Bool.and_eq_true, decide_eq_true_eq] at a
  exact ⟨⟨a.1, a.2.1⟩, Nat.lt_trans a.2.2.1 (by decide), Nat.lt_trans a.2.2.2 (by decide)⟩
theorem low_abs {p : Int × Int} (h : Low p) : low (p.1.natAbs : Int) p.2 = absP p := low_fix (p := absP p) ⟨h.1, h.2⟩
theorem q_str {X : Cx} {k : Nat} {C : Addr} {ps : List Str} {sp : Sp} (c : Mth X.prog X.w X.K X.mg X.base k C "__str__" ps sp) (hr : Room (k + 2) X.A) : CallR X (.type "str") (rOwnT C sp isTxt) := by
  obtain ⟨f, fd, F, hm, hb⟩ := c.ex
  exact k_strO F hr hb ⟨hm.at_, hm.fn⟩
theorem q_bool {X : Cx} {k : Nat} {C : Addr} {ps : List Str} {sp : Sp} (c : Mth X.prog X.w X.K X.mg X.base k C "__bool__" ps sp) (hr : Room (k + 2) X.A) : CallR X (.type "bool") (rOwnT C sp isTru) := by
  obtain ⟨f, fd, F, hm, hb⟩ := c.ex
  exact k_boolO F hr hb ⟨hm.at_, hm.fn⟩
def rOwnA (C : Addr) (sp : Sp) : List V → Hp → VK → Prop := fun xs H Q => ∃ a dx fs, xs = [.ref a] ∧ H a = some (.ins C dx fs) ∧ sp [.ref a] H Q E0
theorem q_abs {X : Cx} {k : Nat} {C : Addr} {ps : List Str} {sp : Sp} (c : Mth X.prog X.w X.K X.mg X.base k C "__abs__" ps sp) (hr : Room (k + 1) X.A) : CallR X (.builtin "abs") (rOwnA C sp) := by
  obtain ⟨f, fd, F, hm, hb⟩ := c.ex
  exact k_absO F hr hb ⟨hm.at_, hm.fn⟩
theorem q_eqX {X : Cx} {K : PySem.W.Frag} {k : Nat} {C : Addr} {ps : List Str} {sp : Sp} (c : Mth X.prog X.w X.K X.mg X.base k C "__eq__" ps sp) (hr : Room k X.A) (h : X.K = K := by rfl) : OpR X (compareOp .Eq) (rOwnEqX K C sp) := by
  subst h
  obtain ⟨f, fd, F, hm, hb⟩ := c.ex
  exact k_eqX F hr hb ⟨hm.at_, hm.fn⟩
theorem y_absI {i : Int} {H : Hp} {Q : VK} (h : Q (.int (i.natAbs : Int)) H) : rAbs [.int i] H Q := y_abs h
theorem y_neB {i j : Bool} {H : Hp} {Q : VK} (h : Q (.bl (!decide (i = j))) H) : rNe (.bl i) (.bl j) H Q := ⟨rfl, by
  have e : decide (V.bl i = V.bl j) = decide (i = j) := by
    rw [decide_eq_decide]
    exact ⟨fun z => V.bl.inj z, fun z => by rw [z]⟩
  rw [e]
  exact h⟩
theorem dice_neT {H : Hp} {d a : Addr} {xs : List V} (hD : DiceAt H d) (h : H a = some (.tup xs)) : a ≠ d := fun e => by
  obtain ⟨_, _, _, hd⟩ := hD
  rw [e, hd] at h
  cases h
theorem dice_neR {H : Hp} {d a C : Addr} {p : Int × Int} (hD : DiceAt H d) (h : RAt H C a p) : a ≠ d := fun e => by
  obtain ⟨_, _, _, hd⟩ := hD
  obtain ⟨dx, h⟩ := h
  rw [e, hd] at h
  cases h
def tq (t : Int × Int) : PyData := .tuple [.int t.1, .int t.2]
theorem tp {K : PySem.W.Frag} {H : Hp} {a : Addr} {p : Int × Int} (h : H a = some (.tup [.int p.1, .int p.2])) : Dp K H (.ref a) (tq p) := .tup (sqt h) (.cons (.int _) (.cons (.int _) .nil))
theorem dp_pairs {K : PySem.W.Frag} {H : Hp} : ∀ (rs : List Addr) (ps : List (Int × Int)), rs.length = ps.length → (∀ (m : Nat) (r : Addr), rs[m]? = some r → ∃ t, ps[m]? = some t ∧ H r = some (.tup [.int t.1, .int t.2])) → DpAll K H (rs.map V.ref) (ps.map tq)
  | [], [], _, _ => .nil
  | [], _ :: _, h, _ => by cases h
  | _ :: _, [], h, _ => by cases h
  | r :: rs, t :: ts, h, g => by
    obtain ⟨t', e, h'⟩ := g 0 r rfl
    cases Option.some.inj (show some t = some t' from e)
    exact .cons (tp h') (dp_pairs rs ts (Nat.succ.inj h) fun m r hm => g (m + 1) r hm)
theorem eqvT (t : Int × Int) : PyData.eqv (tq t) (tq t) = true := PySem.SeqAt.eqv_refl _ rfl
theorem shT (t : Int × Int) : SeqAt.shaped (tq t) = true := rfl
theorem neg_bd {n : Nat} {p : Int × Int} (h : Bd n p) (l : Low p) : Bd n (negP p) ∧ Low (negP p) :=
  ⟨⟨by show (-p.1).natAbs < _; rw [Int.natAbs_neg]; exact h.1, h.2⟩, l.1, by show Nat.gcd (-p.1).natAbs _ = 1; rw [Int.natAbs_neg]; exact l.2⟩
theorem low_int (n : Int) : Low (n, 1) := ⟨by show (0 : Int) < 1; decide, Nat.gcd_one_right _⟩
theorem bd_int {n : Int} (h : n.natAbs ≤ 4) : Bd 3 (n, 1) := ⟨by show n.natAbs < 2 ^ 3; omega, by show Int.natAbs 1 < 2 ^ 3; decide⟩
theorem nsd {α : Type} [DecidableEq α] {a b : α} (h : a = b) : (!decide (a = b)) = false := by rw [decide_eq_true h]; rfl
theorem less_self (p : Int × Int) : lessP p p = false := decide_eq_false (Int.lt_irrefl _)
theorem sml_fine5 {p : Int × Int} (h : (decide (0 < p.2) && (decide (Nat.gcd p.1.natAbs p.2.natAbs = 1) && (decide (p.1.natAbs ≤ 10000) && decide (p.2.natAbs ≤ 10000)))) = true) : Fine p := by
  simp only [Bool.and_eq_true, decide_eq_true_eq] at h
  exact ⟨okI_small (by omega), okI_small (by omega), h.1, h.2.1⟩
end Ow
/-! Texts of fractions: what reads a text back, as lists of signs. -/
namespace Ow
open PySem PySem.Spec PyProof.Rows L2 TL NumText
/-- the signs of an int's text -/
def iL (n : Int) : List Nat := if n < 0 then 45 :: numL n.natAbs else numL n.natAbs
def txL (p : Int × Int) : List Nat := if p.2 = 1 then iL p.1 else iL p.1 ++ 47 :: iL p.2
def digOk (cs : List Nat) : Bool := !cs.isEmpty && cs.all fun c => decide (48 ≤ c) && decide (c ≤ 57)
def strip : List Nat → List Nat
  | 45 :: r => r
  | cs => cs
def ival : List Nat → Int
  | 45 :: r => -(digitsVal r : Int)
  | cs => (digitsVal cs : Int)
/-- an int as by str -/
def canon (cs : List Nat) : Bool := digOk (strip cs) && (!(decide (1 < (strip cs).length) && decide ((strip cs).head? = some 48)) && !decide (cs = [45, 48]))
theorem tl_tI (n : Int) : tl (tI n) = iL n := by
  unfold iL tI
  by_cases h : n < 0
  · rw [if_pos h]
    obtain ⟨m, rfl⟩ : ∃ m : Nat, n = Int.negSucc m := ⟨n.natAbs - 1, by omega⟩
    show (Str.ofString ("-" ++ Nat.repr (m + 1))).cps.toList = _
    rw [signs_ofString, String.toList_append, List.map_append, Nat.toList_repr]
    rfl
  · rw [if_neg h]
    obtain ⟨m, rfl⟩ := Int.eq_ofNat_of_zero_le (Int.not_lt.mp h)
    exact tl_num m
theorem digOk_iff {cs : List Nat} : digOk cs = true ↔ cs ≠ [] ∧ AllDigits cs := by
  unfold digOk AllDigits
  simp only [Bool.and_eq_true, List.all_eq_true, decide_eq_true_eq, Bool.not_eq_true', List.isEmpty_eq_false_iff]
theorem iL_free {n : Int} : 47 ∉ iL n := by
  unfold iL
  split
  · intro h
    rcases List.mem_cons.mp h with h | h
    · cases h
    · exact numL_free (.inl (by decide)) h
  · exact numL_free (.inl (by decide))
theorem strip_num (n : Nat) : strip (numL n) = numL n ∧ ival (numL n) = n := by
  have h := numL_digits n
  have v := numL_val n
  cases e : numL n with
  | nil => exact absurd e (numL_ne n)
  | cons c r =>
    rw [e] at h v
    have hc := h.head
    have n45 : c ≠ 45 := by omega
    constructor
    · unfold strip
      split
      · rename_i r' q
        injection q with q1 _
        exact absurd q1 n45
      · rfl
    · unfold ival
      split
      · rename_i r' q
        injection q with q1 _
        exact absurd q1 n45
      · rw [v]
theorem ival_iL (n : Int) : ival (iL n) = n := by
  unfold iL
  split
  · show -(digitsVal (numL n.natAbs) : Int) = n
    rw [numL_val]
    omega
  · rw [(strip_num _).2]
    omega
theorem numL_head {n : Nat} (h : 1 < (numL n).length) : (numL n).head? ≠ some 48 := by
  induction n using Nat.strongRecOn with
  | _ n ih =>
    by_cases g : n < 10
    · rw [numL_lt g] at h
      simp at h
    · rw [numL_step (by omega)]
      have ne := numL_ne (n / 10)
      by_cases g2 : 1 < (numL (n / 10)).length
      · have := ih (n / 10) (by omega) g2
        cases e : numL (n / 10) with
        | nil => exact absurd e ne
        | cons c r =>
          rw [e] at this
          exact this
      · by_cases g3 : n / 10 < 10
        · rw [numL_lt g3]
          intro z
          injection z with z
          omega
        · rw [numL_step (show 10 ≤ n / 10 by omega), List.length_append, List.length_singleton] at g2
          have : 0 < (numL (n / 10 / 10)).length := List.length_pos_iff.mpr (numL_ne _)
          omega
theorem canon_iL (n : Int) : canon (iL n) = true := by
  unfold canon iL
  by_cases h : n < 0
  · rw [if_pos h]
    show (digOk (numL n.natAbs) && (!(decide (1 < (numL n.natAbs).length) && decide ((numL n.natAbs).head? = some 48)) && !decide (45 :: numL n.natAbs = [45, 48]))) = true
    rw [digOk_iff.mpr ⟨numL_ne _, numL_digits _⟩]
    have e1 : (decide (1 < (numL n.natAbs).length) && decide ((numL n.natAbs).head? = some 48)) = false := by
      by_cases g : 1 < (numL n.natAbs).length
      · rw [decide_eq_false (numL_head g), Bool.and_false]
      · rw [decide_eq_false g, Bool.false_and]
    have e2 : decide (45 :: numL n.natAbs = [45, 48]) = false := decide_eq_false fun z => by
      injection z with _ z
      have := congrArg digitsVal z
      rw [numL_val] at this
      have e : digitsVal [48] = 0 := rfl
      omega
    rw [e1, e2]
    rfl
  · rw [if_neg h, (strip_num _).1, digOk_iff.mpr ⟨numL_ne _, numL_digits _⟩]
    have e1 : (decide (1 < (numL n.natAbs).length) && decide ((numL n.natAbs).head? = some 48)) = false := by
      by_cases g : 1 < (numL n.natAbs).length
      · rw [decide_eq_false (numL_head g), Bool.and_false]
      · rw [decide_eq_false g, Bool.false_and]
    have e2 : decide (numL n.natAbs = [45, 48]) = false := decide_eq_false fun z => by
      have := numL_digits n.natAbs 45 (by rw [z]; exact List.mem_cons_self)
      omega
    rw [e1, e2]
    rfl
theorem num_canon {cs : List Nat} (h : digOk cs = true) (g : (decide (1 < cs.length) && decide (cs.head? = some 48)) = false) : numL (digitsVal cs) = cs := by
  obtain ⟨hne, hd⟩ := digOk_iff.mp h
  have key := toDigits_digitsVal (cs.length - 1) cs (by have := List.length_pos_iff.mpr hne; omega) hd (by
    by_cases l : 1 < cs.length
    · right
      cases cs with
      | nil => exact absurd rfl hne
      | cons c r =>
        have hc := hd.head
        refine ⟨c, r, rfl, ?_⟩
        rw [decide_eq_true l, Bool.true_and] at g
        have := of_decide_eq_false g
        have n48 : c ≠ 48 := fun z => this (by rw [z]; rfl)
        omega
    · left
      omega)
  unfold numL
  rw [key, List.map_map]
  have : ∀ (l : List Nat), AllDigits l → l.map (Char.toNat ∘ Char.ofNat) = l := by
    intro l hl
    induction l with
    | nil => rfl
    | cons c r ih =>
      have hc := hl.head
      rw [List.map_cons, ih hl.tail]
      congr 1
      have f : ∀ d : Nat, d < 58 → (Char.ofNat d).toNat = d := by decide
      exact f c (by omega)
  exact this cs hd
theorem strip_cases (cs : List Nat) : (∃ r, cs = 45 :: r) ∨ (strip cs = cs ∧ ival cs = (digitsVal cs : Int)) := by
  cases cs with
  | nil => exact .inr ⟨rfl, rfl⟩
  | cons c r =>
    by_cases h : c = 45
    · exact .inl ⟨r, by rw [h]⟩
    · refine .inr ⟨?_, ?_⟩
      · unfold strip
        split
        · rename_i r' q
          injection q with q1 _
          exact absurd q1 h
        · rfl
      · unfold ival
        split
        · rename_i r' q
          injection q with q1 _
          exact absurd q1 h
        · rfl
theorem iL_canon {cs : List Nat} (h : canon cs = true) : iL (ival cs) = cs := by
  unfold canon at h
  simp only [Bool.and_eq_true, Bool.not_eq_true'] at h
  obtain ⟨h1, h2, h3⟩ := h
  rcases strip_cases cs with ⟨r, rfl⟩ | ⟨e1, e2⟩
  · have h1 : digOk r = true := h1
    have h2 : (decide (1 < r.length) && decide (r.head? = some 48)) = false := h2
    have e := num_canon h1 h2
    have pos : 0 < digitsVal r := by
      apply Nat.pos_of_ne_zero
      intro z
      rw [z, numL_lt (by decide)] at e
      rw [← e] at h3
      exact absurd rfl (of_decide_eq_false h3)
    show iL (-(digitsVal r : Int)) = _
    unfold iL
    rw [if_pos (by omega), show (-(digitsVal r : Int)).natAbs = digitsVal r by omega, e]
  · rw [e1] at h1 h2
    have e := num_canon h1 h2
    rw [e2]
    unfold iL
    rw [if_neg (by omega), show ((digitsVal cs : Nat) : Int).natAbs = digitsVal cs by omega, e]
theorem canon_part {cs : List Nat} (h : canon cs = true) : digOk (strip cs) = true := by
  unfold canon at h
  exact (Bool.and_eq_true_iff.mp h).1
/-! ### parts -/
theorem spl_ne : ∀ (cs acc : List Nat), spl [47] 0 acc cs ≠ []
  | [], _ => by simp [spl]
  | c :: r, acc => by
    unfold spl
    split
    · simp
    · exact spl_ne r _
theorem pre1 {c : Nat} {r : List Nat} : pre [47] (c :: r) = true ↔ c = 47 := by
  constructor
  · intro h
    simp [pre] at h
    first | exact h.symm | exact h
  · intro h
    subst h
    simp [pre]
theorem join_spl : ∀ (cs acc : List Nat), joinL [47] (spl [47] 0 acc cs) = acc ++ cs
  | [], acc => by simp [spl, joinL]
  | c :: r, acc => by
    unfold spl
    split
    · rename_i h
      have hc := pre1.mp h
      subst hc
      have ih := join_spl r []
      have ne := spl_ne r []
      show joinL [47] (acc :: spl [47] 0 [] r) = _
      cases e : spl [47] 0 [] r with
      | nil => exact absurd e ne
      | cons p ps =>
        rw [e] at ih
        show acc ++ ([47] ++ joinL [47] (p :: ps)) = _
        rw [ih]
        rfl
    · rw [join_spl r (acc ++ [c]), List.append_assoc]
      rfl
theorem spl_txL (p : Int × Int) : spl [47] 0 [] (txL p) = if p.2 = 1 then [iL p.1] else [iL p.1, iL p.2] := by
  unfold txL
  split
  · exact spl_join (parts := [iL p.1]) (by simp) fun z hz => by
      rw [List.mem_singleton.mp hz]
      exact iL_free
  · exact spl_join (parts := [iL p.1, iL p.2]) (by simp) fun z hz => by
      simp only [List.mem_cons, List.not_mem_nil, or_false] at hz
      rcases hz with rfl | rfl <;> exact iL_free
/-- what the program reads -/
def pread (cs : List Nat) : Option (Int × Int) :=
  let ps := spl [47] 0 [] cs
  if ps.all (fun p => digOk (strip p)) = true then
    (let pr : Int × Int := (ival (ps.headD []), (ps[1]?.map ival).getD 1)
     if fracB pr && decide (txL pr = cs) then some pr else none)
  else none
/-- what the law reads -/
def lread (cs : List Nat) : Option (Int × Int) := match spl [47] 0 [] cs with
  | [p] => if canon p = true then some (ival p, 1) else none
  | [p, q] => if canon p = true ∧ canon q = true ∧ 1 < ival q ∧ low (ival p) (ival q) = (ival p, ival q) then some (ival p, ival q) else none
  | _ => none
theorem canon_fix {cs : List Nat} : canon cs = true ↔ iL (ival cs) = cs := ⟨iL_canon, fun h => by rw [← h]; exact canon_iL _⟩
theorem txL_join (p : Int × Int) (h : p.2 ≠ 1) : txL p = iL p.1 ++ 47 :: iL p.2 := by
  unfold txL
  rw [if_neg h]
/-- an int's signs bound it -/
theorem ival_ok {cs : List Nat} (h : canon cs = true) (l : cs.length ≤ 200) : okI (ival cs) = true := by
  have e := iL_canon h
  generalize ival cs = n at e
  subst e
  have ln : (numL n.natAbs).length ≤ 200 := by
    unfold iL at l
    split at l
    · rw [List.length_cons] at l
      omega
    · exact l
  refine okI_iff.mpr (Nat.lt_of_lt_of_le (m := 10 ^ 200) ?_ (by decide +kernel))
  have dv : ∀ (m : Nat), m < 10 ^ (numL m).length := by
    intro m
    induction m using Nat.strongRecOn with
    | _ m ih =>
      by_cases g : m < 10
      · rw [numL_lt g]
        exact g
      · have i := ih (m / 10) (by omega)
        rw [numL_step (by omega), List.length_append, List.length_singleton, Nat.pow_succ]
        omega
  exact Nat.lt_of_lt_of_le (dv _) (Nat.pow_le_pow_right (by decide) ln)
theorem low_iff {t b : Int} (h : 1 < b) : low t b = (t, b) ↔ Nat.gcd t.natAbs b.natAbs = 1 := by
  constructor
  · intro e
    have := (low_low (t := t) (b := b) (by omega)).2
    rw [e] at this
    exact this
  · intro e
    exact low_fix (p := (t, b)) ⟨by show 0 < b; omega, e⟩
theorem read_eq {cs : List Nat} (l : cs.length ≤ 200) : pread cs = lread cs := by
  have J := join_spl cs []
  rw [List.nil_append] at J
  unfold pread lread
  generalize hps : spl [47] 0 [] cs = ps at J
  have len : ∀ p ∈ ps, p.length ≤ 200 := by
    intro p hp
    rw [← J] at l
    clear J hps
    induction ps with
    | nil => cases hp
    | cons a r ih =>
      cases r with
      | nil =>
        rw [List.mem_singleton.mp hp]
        exact l
      | cons b r =>
        have l : (a ++ ([47] ++ joinL [47] (b :: r))).length ≤ 200 := l
        rw [List.length_append, List.length_append] at l
        rcases List.mem_cons.mp hp with h | h
        · rw [h]
          omega
        · exact ih (by omega) h
  -- what is told by a text has its parts
  have told : ∀ pr : Int × Int, txL pr = cs → ps = if pr.2 = 1 then [iL pr.1] else [iL pr.1, iL pr.2] := fun pr e => by
    rw [← hps, ← e]
    exact spl_txL pr
  match ps, J, len, told with
  | [], J, _, _ => exact absurd hps (spl_ne _ _)
  | [p], J, len, told =>
    have J : p = cs := J
    subst J
    have hl := len p (by simp)
    show (if ([p].all fun p => digOk (strip p)) = true then _ else none) = if canon p = true then _ else none
    by_cases c : canon p = true
    · have d : ([p].all fun p => digOk (strip p)) = true := by
        rw [List.all_cons, canon_part c]
        rfl
      have e : txL (ival p, 1) = p := by
        unfold txL
        rw [if_pos rfl]
        exact iL_canon c
      have f : fracB (ival p, 1) = true := by
        show (okI (ival p) && okI 1 && decide ((1 : Int) ≤ 1) && decide (Nat.gcd (ival p).natAbs 1 = 1)) = true
        rw [ival_ok c hl, okI_small (i := 1) (by decide), decide_eq_true (show (1 : Int) ≤ 1 by decide), decide_eq_true (Nat.gcd_one_right _)]
        rfl
      rw [if_pos d, if_pos c]
      show (if (fracB (ival p, 1) && decide (txL (ival p, 1) = p)) = true then some (ival p, (1 : Int)) else none) = _
      rw [f, decide_eq_true e]
      rfl
    · rw [if_neg c]
      split
      · show (if (fracB (ival p, 1) && decide (txL (ival p, 1) = p)) = true then some (ival p, (1 : Int)) else none) = _
        have e : ¬ txL (ival p, 1) = p := fun e => c (by
          unfold txL at e
          rw [if_pos rfl] at e
          exact canon_fix.mpr e)
        rw [decide_eq_false e, Bool.and_false]
        rfl
      · rfl
  | [p, q], J, len, told =>
    have J : p ++ 47 :: q = cs := J
    have lp := len p (by simp)
    have lq := len q (by simp)
    show (if ([p, q].all fun p => digOk (strip p)) = true then (if (fracB (ival p, ival q) && decide (txL (ival p, ival q) = cs)) = true then some (ival p, ival q) else none) else none) = if _ then _ else _
    by_cases c : canon p = true ∧ canon q = true ∧ 1 < ival q ∧ low (ival p) (ival q) = (ival p, ival q)
    · obtain ⟨c1, c2, c3, c4⟩ := c
      have d : ([p, q].all fun p => digOk (strip p)) = true := by
        rw [List.all_cons, List.all_cons, canon_part c1, canon_part c2]
        rfl
      have e : txL (ival p, ival q) = cs := by
        rw [txL_join _ (by show ival q ≠ 1; omega), ← J]
        show iL (ival p) ++ 47 :: iL (ival q) = _
        rw [iL_canon c1, iL_canon c2]
      have f : fracB (ival p, ival q) = true := by
        unfold fracB
        rw [ival_ok c1 lp, ival_ok c2 lq, decide_eq_true (show (1 : Int) ≤ ival q by omega), decide_eq_true ((low_iff c3).mp c4)]
        rfl
      rw [if_pos d, f, decide_eq_true e]
      exact (if_pos ⟨c1, c2, c3, c4⟩).symm
    · rw [if_neg c]
      split
      · split
        · rename_i h
          obtain ⟨f, e⟩ := Bool.and_eq_true_iff.mp h
          have e := of_decide_eq_true e
          exfalso
          have t := told _ e
          unfold fracB at f
          simp only [Bool.and_eq_true, decide_eq_true_eq] at f
          by_cases z : ival q = 1
          · rw [if_pos (show (ival p, ival q).2 = 1 from z)] at t
            exact absurd (congrArg List.length t) (by simp)
          · rw [if_neg (show ¬ (ival p, ival q).2 = 1 from z)] at t
            obtain ⟨t1, t2⟩ : p = iL (ival p) ∧ q = iL (ival q) := by
              have a := congrArg (fun l => l[0]?) t
              have b := congrArg (fun l => l[1]?) t
              exact ⟨Option.some.inj a, Option.some.inj b⟩
            have g : 1 < ival q := by have := f.1.2; omega
            exact c ⟨canon_fix.mpr t1.symm, canon_fix.mpr t2.symm, g, (low_iff g).mpr f.2⟩
        · rfl
      · rfl
  | p :: q :: r :: rest, J, _, told =>
    show (if _ then _ else _) = none
    split
    · show (if (fracB (ival p, ival q) && decide (txL (ival p, ival q) = cs)) = true then some (ival p, ival q) else none) = none
      have e : ¬ txL (ival p, ival q) = cs := fun e => by
        have t := told _ e
        have t := congrArg List.length t
        split at t <;> simp at t
      rw [decide_eq_false e, Bool.and_false]
      rfl
    · rfl
end Ow
/-! Texts: what the methods give, as lists of signs; promises of k06. -/
namespace Ow
open PySem PySem.Spec PyProof.Rows L2 TL NumText
theorem tl_minus : tl ("-" : Str) = [45] := by decide +kernel
theorem tl_slash : tl ("/" : Str) = [47] := by decide +kernel
theorem rm_minus (x : Str) : tl (Txt.removeprefix x "-") = strip (tl x) := by
  have hy : (("-" : Str)).length = 1 := by decide +kernel
  rw [PySem.StrLaws.removeprefix_eq, hy]
  have hs : Builtin.Str.subAt x "-" 0 = decide ((tl x).head? = some 45) := by
    unfold Builtin.Str.subAt
    rw [Bool.eq_iff_iff, decide_eq_true_eq, beq_iff_eq, ← Array.toList_inj, Array.toList_extract]
    show _ = tl ("-" : Str) ↔ _
    rw [tl_minus, hy, List.extract_eq_take_drop]
    have e : x.length = (tl x).length := len_tl x
    show ((tl x).drop 0).take _ = [45] ↔ _
    rw [List.drop_zero]
    cases tl x with
    | nil => simp
    | cons c r => simp
  rw [hs]
  have e : x.length = (tl x).length := len_tl x
  by_cases h : (tl x).head? = some 45
  · rw [decide_eq_true h]
    have l : 1 ≤ (tl x).length := by
      cases q : tl x with
      | nil => rw [q] at h; cases h
      | cons c r => simp
    rw [if_pos (by rw [e, decide_eq_true (by omega)]; rfl), tl_mk]
    show ((tl x).drop 1).take (x.length - 1) = _
    rw [e]
    cases q : tl x with
    | nil => rw [q] at h; cases h
    | cons c r =>
      rw [q] at h
      injection h with h
      subst h
      show ((45 :: r).drop 1).take _ = r
      simp
  · rw [decide_eq_false h, Bool.and_false, if_neg Bool.false_ne_true]
    rcases strip_cases (tl x) with ⟨r, q⟩ | ⟨q, _⟩
    · rw [q] at h
      exact absurd rfl h
    · exact q.symm
theorem uni_dig : ∀ c : Nat, c < 128 → Unicode.isDigit c = (decide (48 ≤ c) && decide (c ≤ 57)) := by decide +kernel
/-- signs below 128 -/
def Asc (cs : List Nat) : Prop := ∀ c ∈ cs, c < 128
theorem digits_is {x : Str} (h : Asc (tl x)) : (Txt.isascii x && Txt.isdigit x) = digOk (tl x) := by
  have a : Txt.isascii x = true := by
    unfold Txt.isascii
    rw [← Array.all_toList, List.all_eq_true]
    exact fun c m => decide_eq_true (h c m)
  rw [a, Bool.true_and]
  unfold Txt.isdigit digOk
  rw [← Array.all_toList, len_tl]
  have e1 : decide ((tl x).length > 0) = !(tl x).isEmpty := by cases tl x <;> simp
  have e2 : ∀ l : List Nat, Asc l → l.all Unicode.isDigit = l.all fun c => decide (48 ≤ c) && decide (c ≤ 57) := by
    intro l hl
    induction l with
    | nil => rfl
    | cons c r ih =>
      rw [List.all_cons, List.all_cons, uni_dig c (hl c List.mem_cons_self), ih fun d m => hl d (List.mem_cons_of_mem _ m)]
  rw [e1]
  congr 1
  exact e2 _ h
theorem isascii_t {x : Str} (h : Asc (tl x)) : Txt.isascii x = true := by
  unfold Txt.isascii
  rw [← Array.all_toList, List.all_eq_true]
  exact fun c m => decide_eq_true (h c m)
theorem isdigit_t {x : Str} (h : Asc (tl x)) : Txt.isdigit x = digOk (tl x) := by
  rw [← digits_is h, isascii_t h, Bool.true_and]
theorem strip_mem {cs : List Nat} {c : Nat} (h : c ∈ strip cs) : c ∈ cs := by
  rcases strip_cases cs with ⟨r, rfl⟩ | ⟨q, _⟩
  · exact List.mem_cons_of_mem _ h
  · rw [q] at h
    exact h
theorem strip_len (cs : List Nat) : (strip cs).length ≤ cs.length := by
  rcases strip_cases cs with ⟨r, rfl⟩ | ⟨q, _⟩
  · show r.length ≤ (45 :: r).length
    simp
  · rw [q]
    exact Nat.le_refl _
/-- int(part) -/
theorem int_part {x : Str} (h : digOk (strip (tl x)) = true) (l : (tl x).length ≤ 300) : intText? x = some (ival (tl x)) := by
  obtain ⟨hne, hd⟩ := digOk_iff.mp h
  rcases strip_cases (tl x) with ⟨r, q⟩ | ⟨q, e⟩
  · rw [q] at hne hd
    rw [intText_neg q hd hne (by rw [len_tl]; omega), q]
    rfl
  · rw [q] at hne hd
    rw [intText_digits hd hne (by rw [len_tl]; omega), e]
theorem split_tl (x : Str) : (Txt.split x "/").map tl = spl [47] 0 [] (tl x) := by
  have h := split_spl x "/" (by rw [tl_slash]; simp) (kind_ok (by decide +kernel))
  rw [tl_slash] at h
  exact h
theorem tl_txt (p : Int × Int) : tl (txt p) = txL p := by
  unfold txt txL
  split
  · exact tl_tI _
  · rw [tl_append, tl_append, tl_tI, tl_tI, tl_slash, List.append_assoc]
    rfl
theorem spl_mem : ∀ (cs acc : List Nat) (p : List Nat), p ∈ spl [47] 0 acc cs → (∀ c ∈ p, c ∈ acc ∨ c ∈ cs) ∧ p.length ≤ acc.length + cs.length
  | [], acc, p, h => by
    have h : p ∈ [acc] := h
    rw [List.mem_singleton.mp h]
    exact ⟨fun c m => .inl m, by simp⟩
  | c :: r, acc, p, h => by
    unfold spl at h
    split at h
    · rcases List.mem_cons.mp h with h | h
      · rw [h]
        exact ⟨fun c m => .inl m, by simp⟩
      · obtain ⟨a, b⟩ := spl_mem r [] p h
        exact ⟨fun d m => .inr (List.mem_cons_of_mem _ ((a d m).resolve_left (by simp))), by simp at b ⊢; omega⟩
    · obtain ⟨a, b⟩ := spl_mem r (acc ++ [c]) p h
      refine ⟨fun d m => ?_, by simp at b ⊢; omega⟩
      rcases a d m with a | a
      · rcases List.mem_append.mp a with a | a
        · exact .inl a
        · rw [List.mem_singleton.mp a]
          exact .inr List.mem_cons_self
      · exact .inr (List.mem_cons_of_mem _ a)
/-! ### promises -/
/-- what a value is read as -/
def Rd (K : PySem.W.Frag) (H : Hp) (v : V) (R : Option (Int × Int)) : Prop := (∃ t : Str, v = .str t ∧ Asc (tl t) ∧ (tl t).length ≤ 200 ∧ R = pread (tl t)) ∨ ∃ ty, TyX K H v ty ∧ PySem.W.kitOne K ty (.type "str") = some false ∧ R = none
def spAreDig : Sp := fun vs H Q _ => ∃ t : Str, vs = [.str t] ∧ Asc (tl t) ∧ (tl t).length ≤ 200 ∧ Q (.bl (digOk (tl t))) H
def spPairRead (K : PySem.W.Frag) : Sp := fun vs H Q _ => ∃ (v : V) (R : Option (Int × Int)), vs = [v] ∧ Rd K H v R ∧ (R = none → ∀ H', Same H H' → Q .non H') ∧ (∀ p, R = some p → ∀ a H', H a = none → H' a = some (.tup [.int p.1, .int p.2]) → Same H H' → Q (.ref a) H')
theorem pread_all {t : Str} : ((Txt.split t "/").map fun s => digOk (strip (tl s))).all id = (spl [47] 0 [] (tl t)).all fun p => digOk (strip p) := by
  rw [← split_tl, List.all_map, List.all_map]
  rfl
theorem pread_no {t : Str} (h : ((Txt.split t "/").map fun s => digOk (strip (tl s))).all id = false) : pread (tl t) = none := by
  rw [pread_all] at h
  unfold pread
  exact if_neg (by rw [h]; exact Bool.false_ne_true)
def prOf (t : Str) : Int × Int := (ival ((spl [47] 0 [] (tl t)).headD []), ((spl [47] 0 [] (tl t))[1]?.map ival).getD 1)
theorem pread_yes {t : Str} (h : ((Txt.split t "/").map fun s => digOk (strip (tl s))).all id = true) : pread (tl t) = if (fracB (prOf t) && decide (txL (prOf t) = tl t)) = true then some (prOf t) else none := by
  rw [pread_all] at h
  unfold pread
  exact if_pos h
theorem split_ne (t : Str) : Txt.split t "/" ≠ [] := fun e => by
  have h := split_tl t
  rw [e] at h
  exact spl_ne _ _ h.symm
theorem nums0 (t : Str) : ((Txt.split t "/").map (fun s => V.int (ival (tl s))) ++ [V.int 1])[0]? = some (.int (prOf t).1) := by
  unfold prOf
  rw [← split_tl]
  cases q : Txt.split t "/" with
  | nil => exact absurd q (split_ne t)
  | cons a r => rfl
theorem nums1 (t : Str) : ((Txt.split t "/").map (fun s => V.int (ival (tl s))) ++ [V.int 1])[1]? = some (.int (prOf t).2) := by
  unfold prOf
  rw [← split_tl]
  cases q : Txt.split t "/" with
  | nil => exact absurd q (split_ne t)
  | cons a r =>
    cases r with
    | nil => rfl
    | cons b r => rfl
theorem part_ok {t s : Str} (h : s ∈ Txt.split t "/") (a : Asc (tl t)) (l : (tl t).length ≤ 200) : Asc (tl s) ∧ (tl s).length ≤ 200 := by
  have m : tl s ∈ spl [47] 0 [] (tl t) := by
    rw [← split_tl]
    exact List.mem_map.mpr ⟨s, h, rfl⟩
  obtain ⟨x, y⟩ := spl_mem _ _ _ m
  exact ⟨fun c hc => a c ((x c hc).resolve_left (by simp)), by rw [List.length_nil] at y; omega⟩
theorem spl_count (t : Str) (l : (tl t).length ≤ 200) : (Txt.split t "/").length ≤ 1000 := by
  have e : (Txt.split t "/").length = (spl [47] 0 [] (tl t)).length := by rw [← split_tl, List.length_map]
  have c : ∀ (cs acc : List Nat), (spl [47] 0 acc cs).length ≤ cs.length + 1 := by
    intro cs
    induction cs with
    | nil => intro acc; simp [spl]
    | cons d r ih =>
      intro acc
      unfold spl
      split
      · have := ih []
        simp at this ⊢
        omega
      · have := ih (acc ++ [d])
        simp at this ⊢
        omega
  have := c (tl t) []
  omega
theorem txt_iff {p : Int × Int} {t : Str} : txt p = t ↔ txL p = tl t := by
  rw [← tl_txt]
  exact ⟨fun h => by rw [h], fun h => ext_tl h⟩
end Ow
/-! Errors of the text's own classes: raised by a classmethod, caught by its caller; ParseError, Ratio.read. -/
namespace Ow
open PySem PySem.Spec PyProof.Rows L2 TL
/-- C.m(e, ..), a classmethod that may raise -/
structure CmtX (P : Program) (w : World) (K : PySem.W.Frag) (mg : Str → Option Value) (base : Heap) (k : Nat) (C : Addr) (m : Str) (sp : Sp) : Prop where
  ex : ∃ (p g : Addr), ClX.CMet K C (.type "type") m p g ∧ ClX.CRead K C (.type "type") ∧ FnR P w K mg base (L2.CX P w) k g sp
theorem cmtX_of {P : Program} {w : World} {K : PySem.W.Frag} {mg : Str → Option Value} {base : Heap} {k : Nat} {C g pp : Addr} {nm : Str} {ps : List Str} {sp : Sp} {fd : FuncData} (F : FnOk P w K mg base (L2.CX P w) k g fd ps sp) (hb : Binds K fd ps []) (hc : ClX.CMet K C (.type "type") nm pp g) (hr : ClX.CRead K C (.type "type")) : CmtX P w K mg base k C nm sp :=
  ⟨pp, g, hc, hr, (F.raw hb .nil).imp fun vs H Q E h => by rw [List.append_nil]; exact h⟩
section
variable {X : Cx} {C : Addr} {k : Nat} {m : Str} {sp : Sp} {W : WX} {o e : Expr} {es : List Expr} {ta : TE} {t : TA} {pos apos : Pos}
/-- its call within a try, or where what is raised goes on: W tells what is wished of it -/
def tCmtS (C : Addr) (sp : Sp) (W : WX) (ta : TE) (t : TA) : TE := fun σ H Q => ta σ H fun x H1 => x = .ref C ∧ t σ H1 fun vs H2 => sp (.ref C :: vs) H2 Q (WE W σ)
theorem e_cmtS {pl : Sem Bool} (c : CmtX X.prog X.w X.K X.mg X.base k C m sp) (hr : Room k X.A) (tk : Takes X W) (ho : PE X o ta) (ha : PA X (e :: es) t)
    (hst : starEach (e :: es) X.env = (false, eval e X.env) :: starEach es X.env := by rfl) (hpl : (backTo pos (starEach es X.env)).any (·.1) = false := by rfl)
    (ht : eval (.Call (.Attribute o m apos) (e :: es) [] pos) X.env = (do
      let ov ← eval o X.env
      standAt apos.atName; let (f, first) ← holding [ov] (getMethod ov m pl); callWith pos f first (backTo pos (starEach (e :: es) X.env)) (backToKw pos (keywordEach [] X.env))) := by rfl) :
    PE X (.Call (.Attribute o m apos) (e :: es) [] pos) (tCmtS C sp W ta t) := by
  obtain ⟨p, g, hc, hrd, F⟩ := c.ex
  refine ⟨fun pins s σ H Q J h => ?_⟩
  refine PySem.W.methodCall_KW (pl := pl) (thn (ho.run pins s σ H _ J h) fun u s1 hh => ?_) ht
  obtain ⟨x, H1, J1, rx, ex, q⟩ := hh
  subst ex
  cases (show u = Value.ref C from rx)
  refine ClX.getmethcm_ok J1 hrd hc fun s2 J2 => ?_
  refine ClX.callwith_cm J2 (ClX.base_none J1 (Nat.le_refl _)) hc.fi (thn (ha.run pos _ s2 σ H1 _ J2 q) fun us s3 hh => ?_) hst hpl
  obtain ⟨vs, H2, J3, rv, q2⟩ := hh
  refine ⟨⟨ClX.pin_at J3, J3.kIn⟩, ?_⟩
  have z : wpAny (model X.prog X.w) X.A (call (.ref s1.heap.objs.size) us) (EP X ((s1.heap.objs.size, PySem.W.methodObj (.ref g) (.ref C)) :: pins) σ Q) X.xe s3 := by
    refine wpAny_call (PySem.W.method_call (ClX.pin_at J3) (codeAny_mono (F X.A X.stack s3 H2 (.ref C :: us) (.ref C :: vs) Q (WE W σ) hr J3.env0 (.cons rfl rv) q2) fun r s' hq => ?_))
    cases r with
    | error e => exact passAt tk σ _ H2 s3 e s' J3 hq
    | ok fl =>
      cases fl with
      | ret v => exact J3.after hq
      | next => exact False.elim hq
      | brk => exact False.elim hq
      | cont => exact False.elim hq
  exact thn z fun _ _ y => ClX.unpinE y
end
/-- an own error class with an __init__ that keeps its one argument under the name f -/
structure PEC (K : PySem.W.Frag) (mg : Str → Option Value) (x f : Str) (C fI : Addr) : Prop where
  oex : OexC K C
  g : mg x = some (.ref C)
  iC : PySem.W.findIn K (.ref C) "__init__" = some (some (.ref fI))
  tI : PySem.W.typeIn K (.ref fI) = some (.type "function")
  no : PySem.W.findIn K (.ref C) f = some none
  xf : XfC K C
  te : PySem.W.exmOne K (.ref C) (.ref C) = some true
def spPE (C : Addr) (f : Str) : Sp := fun vs H Q _ => ∃ (a : Addr) (v : V), vs = [.ref a, v] ∧ H a = some (exo a C none) ∧ ∀ d, H d = none → d ≠ a → Q .non (upd (upd H d (exd d [(f, v)])) a (exo a C (some d)))
/-- X(v): how the raising reads on -/
theorem mk_pe {C : Addr} {f : Str} {v : V} {H : Hp} {E : XK} (h : ∀ d H', H d = none → H' d = some (.xd [(f, v)]) → Same H H' → E (.ref C) (some d) H') :
    [v].length ≤ 1000 ∧ ∀ a, H a = none → spPE C f (.ref a :: ([v] ++ [])) (upd H a (exo a C none))
      (fun u H2 => u = .non ∧ ∃ (d : Addr) (fs : List (Str × V)), H2 a = some (exo a C (some d)) ∧ H2 d = some (exd d fs) ∧ H d = none ∧ E (.ref C) (some d) (upd (del H2 a) d (.xd fs))) (fun _ _ _ => False) := by
  refine ⟨by show 1 ≤ 1000; decide, fun a na => ⟨a, v, rfl, upd_same, fun d nd da => ⟨rfl, d, [(f, v)], upd_same, by rw [upd_ne da, upd_same], ?_, ?_⟩⟩⟩
  · rw [upd_ne da] at nd
    exact nd
  · rw [upd_ne da] at nd
    refine h d _ nd upd_same fun b o hb => ?_
    have b1 : b ≠ d := ne_of_none hb nd
    have b2 : b ≠ a := ne_of_none hb na
    rw [upd_ne b1, del_ne b2, upd_ne b2, upd_ne b1, upd_ne b2]
    exact hb
/-- Ratio.read: the fraction, or ParseError(None) -/
def spReadX (K : PySem.W.Frag) (C CP : Addr) : Sp := fun vs H Q E => ∃ (v : V) (R : Option (Int × Int)), vs = [.ref C, v] ∧ Rd K H v R ∧ (∀ p, R = some p → Fine p → NewR H C p Q) ∧
  (R = none → ∀ d H', H d = none → H' d = some (.xd [("line", .non)]) → Same H H' → E (.ref CP) (some d) H')
/-- _law_got: the pair, or a list with None -/
def spGot (K : PySem.W.Frag) : Sp := fun vs H Q _ => ∃ (v : V) (R : Option (Int × Int)), vs = [v] ∧ Rd K H v R ∧ (∀ p, R = some p → ∀ a H', H a = none → H' a = some (.tup [.int p.1, .int p.2]) → Same H H' → Q (.ref a) H') ∧
  (R = none → ∀ a H', H a = none → H' a = some (.lst [.non]) → Same H H' → Q (.ref a) H')
theorem fracB_fine {p : Int × Int} (h : fracB p = true) : Fine p := by
  unfold fracB at h
  simp only [Bool.and_eq_true, decide_eq_true_eq] at h
  exact ⟨h.1.1.1, h.1.1.2, by have := h.1.2; omega, h.2⟩
theorem pread_fine {cs : List Nat} {p : Int × Int} (h : pread cs = some p) : Fine p := by
  unfold pread at h
  simp only at h
  split at h
  · split at h
    · rename_i c
      cases h
      exact fracB_fine (Bool.and_eq_true_iff.mp c).1
    · cases h
  · cases h
theorem Rd.fine {K : PySem.W.Frag} {H : Hp} {v : V} {p : Int × Int} (h : Rd K H v (some p)) : Fine p := by
  rcases h with ⟨t, _, _, _, e⟩ | ⟨_, _, _, e⟩
  · exact pread_fine e.symm
  · cases e
/-! ### what the head tells of such a class -/
def oexB (K : PySem.W.Frag) (C : Addr) : Bool := match K.lookup C with
  | some ⟨.type "type", _, .cls cd, sl⟩ => (match cd.mro, sl.toList with
    | .ref D :: up, [_, _, _, _, some (.builtin mk), _] => D == C && (mk == "ValueError.__new__" && (!cd.hasDel && (cd.hasDict && PySem.HandSPX.refsVE up)))
    | _, _ => false)
  | _ => false
theorem oexB_ok {K : PySem.W.Frag} {C : Addr} (h : oexB K C = true) : ∃ nm q N bs bm sn sub ab col dd k0 k1 k2 k3 k5, K.lookup C = some (excClassObj nm q C N bs bm true sn sub ab col dd k0 k1 k2 k3 k5 "ValueError.__new__") ∧ PySem.HandSPX.refsVE bm = true := by
  unfold oexB at h
  split at h
  · rename_i dct cdat slo e
    split at h
    · rename_i D up s0 s1 s2 s3 mk s5 em es
      simp only [Bool.and_eq_true, beq_iff_eq, Bool.not_eq_true'] at h
      obtain ⟨rfl, rfl, hdl, hdd, hr⟩ := h
      obtain ⟨c1, c2, c3, c4, c5, c6, c7, c8, c9, c10, c11⟩ := cdat
      dsimp only at em hdl hdd
      subst em hdl hdd
      have z : slo = #[s0, s1, s2, s3, some (.builtin "ValueError.__new__"), s5] := by
        obtain ⟨l⟩ := slo
        simp only at es
        rw [es]
      subst z
      exact ⟨_, _, _, _, _, _, _, _, _, _, _, _, _, _, _, e, hr⟩
    · cases h
  · cases h
end Ow
/-! Data of any form in the heap, and what the program and the laws judge of it: integers, fractions, moves, games. -/
namespace Ow
open PySem PySem.Spec PyProof.Rows L2
/-- any dict, whatever its keys are -/
def DicO (a : Addr) : HO := .ext fun h => ∃ o, h.get? a = some o ∧ o.cls = .type "dict"
mutual
/-- data that stands in the heap (a dict is told by its kind alone) -/
inductive Da (H : Hp) : V → PyData → Prop
  | non : Da H .non .none
  | bl (b : Bool) : Da H (.bl b) (.bool b)
  | int (i : Int) : Da H (.int i) (.int i)
  | str (x : Str) : Da H (.str x) (.str x)
  | lst {a : Addr} {xs : List V} {ds : List PyData} : H a = some (.lst xs) → DaL H xs ds → Da H (.ref a) (.list ds)
  | tup {a : Addr} {xs : List V} {ds : List PyData} : H a = some (.tup xs) → DaL H xs ds → Da H (.ref a) (.tuple ds)
  | dct {a : Addr} {kvs : List (Key × V)} : H a = some (.dK kvs) → Da H (.ref a) (.dict [])
  | dcx {a : Addr} : H a = some (DicO a) → Da H (.ref a) (.dict [])
inductive DaL (H : Hp) : List V → List PyData → Prop
  | nil : DaL H [] []
  | cons {v : V} {vs : List V} {d : PyData} {ds : List PyData} : Da H v d → DaL H vs ds → DaL H (v :: vs) (d :: ds)
end
mutual
theorem Da.same {H H' : Hp} (s : Same H H') {v : V} {d : PyData} : Da H v d → Da H' v d
  | .non => .non
  | .bl b => .bl b
  | .int i => .int i
  | .str x => .str x
  | .lst e h => .lst (s _ _ e) (DaL.same s h)
  | .tup e h => .tup (s _ _ e) (DaL.same s h)
  | .dct e => .dct (s _ _ e)
  | .dcx e => .dcx (s _ _ e)
theorem DaL.same {H H' : Hp} (s : Same H H') {v : List V} {d : List PyData} : DaL H v d → DaL H' v d
  | .nil => .nil
  | .cons h t => .cons (Da.same s h) (DaL.same s t)
end
theorem DaL.len {H : Hp} : ∀ {xs : List V} {ds : List PyData}, DaL H xs ds → xs.length = ds.length
  | [], [], .nil => rfl
  | _ :: _, _ :: _, .cons _ t => congrArg (· + 1) (DaL.len t)
theorem DaL.at {H : Hp} : ∀ {xs : List V} {ds : List PyData} {j : Nat} {v : V}, DaL H xs ds → xs[j]? = some v → ∃ d, ds[j]? = some d ∧ Da H v d
  | _ :: _, _ :: _, 0, _, .cons h _, e => by cases e; exact ⟨_, rfl, h⟩
  | _ :: _, _ :: _, j + 1, _, .cons _ t, e => DaL.at (j := j) t e
  | [], [], _, _, .nil, e => by simp at e
/-- the kinds -/
def tupB : PyData → Bool
  | .tuple _ => true
  | _ => false
def strK : PyData → Bool
  | .str _ => true
  | _ => false
def dicK : PyData → Bool
  | .dict _ => true
  | _ => false
def intK : PyData → Bool
  | .int _ => true
  | .bool _ => true
  | _ => false
def boolK : PyData → Bool
  | .bool _ => true
  | _ => false
/-- isinstance of any value, of a dict of any kind too -/
def rIsiM (K : PySem.W.Frag) : List V → Hp → VK → Prop := fun xs H Q => rIsi K xs H Q ∨ ∃ (a : Addr) (T : String) (b : Bool), xs = [.ref a, .ty T] ∧ H a = some (DicO a) ∧ PySem.W.kitOne K (.type "dict") (.type T) = some b ∧ Q (.bl b) H
theorem call_isiM {X : Cx} : CallR X (.builtin "isinstance") (rIsiM X.K) := by
  intro pins s σ H xs us Q I r h
  rcases h with h | ⟨a, T, b, rfl, ea, e, q⟩
  · exact call_isi pins s σ H xs us Q I r h
  · obtain ⟨u1, u2, rfl, r1, r2⟩ := vals2 r
    cases (show u1 = Value.ref a from r1)
    have e2 := (ClsV.ty T).eq r2
    subst e2
    obtain ⟨o, ho, hc⟩ := (I.hok a _ ea).1
    exact PySem.W.kia_one PySem.W.kitx_dict I.kIn ⟨o, ho, hc⟩ e (fun z => nomatch z) fun tk => ⟨.bl b, H, I.tok tk, rfl, q⟩
theorem c_isiM {X : Cx} {K : PySem.W.Frag} (h : X.K = K := by rfl) : CallR X (.builtin "isinstance") (rIsiM K) := h ▸ call_isiM
section
variable {K : PySem.W.Frag} {H : Hp} {Q : VK} {v : V} {d : PyData}
theorem y_isTup (h : Da H v d) (q : Q (.bl (tupB d)) H) : rIsiM K [v, .ty "tuple"] H Q := by
  cases h with
  | non => exact .inl <| y_isi (k := false) (.base .non) (kit_ty (by decide +kernel)) q
  | bl b => exact .inl <| y_isi (k := false) (.base (.bl b)) (kit_ty (by decide +kernel)) q
  | int i => exact .inl <| y_isi (k := false) (.base (.int i)) (kit_ty (by decide +kernel)) q
  | str x => exact .inl <| y_isi (k := false) (.base (.str x)) (kit_ty (by decide +kernel)) q
  | lst e _ => exact .inl <| y_isi (k := false) (.base (.lst e)) (kit_ty (by decide +kernel)) q
  | tup e _ => exact .inl <| y_isi (k := true) (.base (.tup e)) (kit_ty (by decide +kernel)) q
  | dct e => exact .inl <| y_isi (k := false) (.base (.dK e)) (kit_ty (by decide +kernel)) q
  | dcx e => exact .inr ⟨_, "tuple", false, rfl, e, kit_ty (by decide +kernel), q⟩
theorem y_isInt (h : Da H v d) (q : Q (.bl (intK d)) H) : rIsiM K [v, .ty "int"] H Q := by
  cases h with
  | non => exact .inl <| y_isi (k := false) (.base .non) (kit_ty (by decide +kernel)) q
  | bl b => exact .inl <| y_isi (k := true) (.base (.bl b)) (kit_ty (by decide +kernel)) q
  | int i => exact .inl <| y_isi (k := true) (.base (.int i)) (kit_ty (by decide +kernel)) q
  | str x => exact .inl <| y_isi (k := false) (.base (.str x)) (kit_ty (by decide +kernel)) q
  | lst e _ => exact .inl <| y_isi (k := false) (.base (.lst e)) (kit_ty (by decide +kernel)) q
  | tup e _ => exact .inl <| y_isi (k := false) (.base (.tup e)) (kit_ty (by decide +kernel)) q
  | dct e => exact .inl <| y_isi (k := false) (.base (.dK e)) (kit_ty (by decide +kernel)) q
  | dcx e => exact .inr ⟨_, "int", false, rfl, e, kit_ty (by decide +kernel), q⟩
theorem y_isBool (h : Da H v d) (q : Q (.bl (boolK d)) H) : rIsiM K [v, .ty "bool"] H Q := by
  cases h with
  | non => exact .inl <| y_isi (k := false) (.base .non) (kit_ty (by decide +kernel)) q
  | bl b => exact .inl <| y_isi (k := true) (.base (.bl b)) (kit_ty (by decide +kernel)) q
  | int i => exact .inl <| y_isi (k := false) (.base (.int i)) (kit_ty (by decide +kernel)) q
  | str x => exact .inl <| y_isi (k := false) (.base (.str x)) (kit_ty (by decide +kernel)) q
  | lst e _ => exact .inl <| y_isi (k := false) (.base (.lst e)) (kit_ty (by decide +kernel)) q
  | tup e _ => exact .inl <| y_isi (k := false) (.base (.tup e)) (kit_ty (by decide +kernel)) q
  | dct e => exact .inl <| y_isi (k := false) (.base (.dK e)) (kit_ty (by decide +kernel)) q
  | dcx e => exact .inr ⟨_, "bool", false, rfl, e, kit_ty (by decide +kernel), q⟩
theorem y_isStr (h : Da H v d) (q : Q (.bl (strK d)) H) : rIsiM K [v, .ty "str"] H Q := by
  cases h with
  | non => exact .inl <| y_isi (k := false) (.base .non) (kit_ty (by decide +kernel)) q
  | bl b => exact .inl <| y_isi (k := false) (.base (.bl b)) (kit_ty (by decide +kernel)) q
  | int i => exact .inl <| y_isi (k := false) (.base (.int i)) (kit_ty (by decide +kernel)) q
  | str x => exact .inl <| y_isi (k := true) (.base (.str x)) (kit_ty (by decide +kernel)) q
  | lst e _ => exact .inl <| y_isi (k := false) (.base (.lst e)) (kit_ty (by decide +kernel)) q
  | tup e _ => exact .inl <| y_isi (k := false) (.base (.tup e)) (kit_ty (by decide +kernel)) q
  | dct e => exact .inl <| y_isi (k := false) (.base (.dK e)) (kit_ty (by decide +kernel)) q
  | dcx e => exact .inr ⟨_, "str", false, rfl, e, kit_ty (by decide +kernel), q⟩
theorem y_isDic (h : Da H v d) (q : Q (.bl (dicK d)) H) : rIsiM K [v, .ty "dict"] H Q := by
  cases h with
  | non => exact .inl <| y_isi (k := false) (.base .non) (kit_ty (by decide +kernel)) q
  | bl b => exact .inl <| y_isi (k := false) (.base (.bl b)) (kit_ty (by decide +kernel)) q
  | int i => exact .inl <| y_isi (k := false) (.base (.int i)) (kit_ty (by decide +kernel)) q
  | str x => exact .inl <| y_isi (k := false) (.base (.str x)) (kit_ty (by decide +kernel)) q
  | lst e _ => exact .inl <| y_isi (k := false) (.base (.lst e)) (kit_ty (by decide +kernel)) q
  | tup e _ => exact .inl <| y_isi (k := false) (.base (.tup e)) (kit_ty (by decide +kernel)) q
  | dct e => exact .inl <| y_isi (k := true) (.base (.dK e)) (kit_ty (by decide +kernel)) q
  | dcx e => exact .inr ⟨_, "dict", true, rfl, e, kit_ty (by decide +kernel), q⟩
end
theorem Da.tupI {H : Hp} {v : V} {d : PyData} (h : Da H v d) (he : tupB d = true) : ∃ a xs ds, v = .ref a ∧ d = .tuple ds ∧ H a = some (.tup xs) ∧ DaL H xs ds := by
  cases h with
  | tup e h => exact ⟨_, _, _, rfl, rfl, e, h⟩
  | _ => cases he
theorem Da.intI {H : Hp} {v : V} {d : PyData} (h : Da H v d) (e : intK d = true) (e2 : boolK d = false) : ∃ i, v = .int i ∧ d = .int i := by
  cases h with
  | int i => exact ⟨i, rfl, rfl⟩
  | bl b => cases e2
  | _ => cases e
/-! ### what is judged -/
def intB : PyData → Bool
  | .int i => okI i
  | _ => false
def fracDB : PyData → Bool
  | .tuple [.int a, .int b] => fracB (a, b)
  | _ => false
def stdB (n : Int) : PyData → Bool
  | .int i => okI i && (decide (0 ≤ i) && decide (i < n))
  | _ => false
def gainB : PyData → Bool
  | .int i => okI i && (decide (-99 ≤ i) && decide (i ≤ 99))
  | _ => false
def topPos : PyData → Bool
  | .tuple (.int a :: _) => decide (0 < a)
  | _ => false
def moveB (n : Int) : PyData → Bool
  | .tuple [t, g, c] => stdB n t && (gainB g && (fracDB c && topPos c))
  | _ => false
def chOf : PyData → Int × Int
  | .tuple [_, _, .tuple [.int a, .int b]] => (a, b)
  | _ => (0, 1)
def sumP (ps : List (Int × Int)) : Int × Int := ps.foldl addP (0, 1)
def movesB (most n : Int) : PyData → Bool
  | .tuple ms => (decide (1 ≤ ms.length) && decide ((ms.length : Int) ≤ most)) && (ms.all (moveB n) && decide (sumP (ms.map chOf) = (1, 1)))
  | _ => false
def keyOf : PyData → List Int
  | .tuple (.int t :: .int g :: _) => [t, g]
  | _ => []
def ascB : List PyData → Bool
  | x :: y :: r => HT.lexLt (keyOf x) (keyOf y) && ascB (y :: r)
  | _ => true
def ascD : PyData → Bool
  | .tuple l => ascB l
  | _ => false
def gameB : PyData → Bool
  | .tuple gs => (decide (1 ≤ gs.length) && decide (gs.length ≤ 8)) && gs.all fun ms => movesB 12 gs.length ms && ascD ms
  | _ => false
mutual
/-- small numbers alone -/
def smD : PyData → Bool
  | .int i => decide (i.natAbs < 1024)
  | .list l => smDs l
  | .tuple l => smDs l
  | _ => true
def smDs : List PyData → Bool
  | [] => true
  | d :: ds => smD d && smDs ds
end
theorem smDs_mem : ∀ {l : List PyData}, smDs l = true → ∀ d ∈ l, smD d = true
  | d :: ds, h, x, m => by
    obtain ⟨h1, h2⟩ := Bool.and_eq_true_iff.mp h
    rcases List.mem_cons.mp m with rfl | m
    · exact h1
    · exact smDs_mem h2 x m
/-! ### sums -/
def smPair (p : Int × Int) : Prop := p.1.natAbs < 1024 ∧ 0 < p.2 ∧ p.2 < 1024
/-- the loop's turn -/
def sumS (r : Int × Int) (p : Int × Int) : Int × Int :=
  (r.1 * (((r.2.natAbs.lcm p.2.natAbs : Nat) : Int) / r.2) + p.1 * (((r.2.natAbs.lcm p.2.natAbs : Nat) : Int) / p.2), ((r.2.natAbs.lcm p.2.natAbs : Nat) : Int))
theorem sumS_ok {r p : Int × Int} {i : Nat} (hp : smPair p) (h0 : 0 < r.2) (hb : r.2.natAbs ≤ 1024 ^ i) (ht : r.1.natAbs ≤ 1024 * i * r.2.natAbs) :
    0 < (sumS r p).2 ∧ (sumS r p).2.natAbs ≤ 1024 ^ (i + 1) ∧ (sumS r p).1.natAbs ≤ 1024 * (i + 1) * (sumS r p).2.natAbs ∧ low (sumS r p).1 (sumS r p).2 = addP (low r.1 r.2) p := by
  obtain ⟨t, b⟩ := r
  obtain ⟨u, q⟩ := p
  obtain ⟨h1, h2, h3⟩ := hp
  simp only at h0 hb ht h1 h2 h3
  obtain ⟨bn, rfl⟩ : ∃ n : Nat, b = n := ⟨b.natAbs, by omega⟩
  obtain ⟨qn, rfl⟩ : ∃ n : Nat, q = n := ⟨q.natAbs, by omega⟩
  have b0 : 0 < bn := by omega
  have q0 : 0 < qn := by omega
  simp only [Int.natAbs_natCast] at hb ht
  have c0 : 0 < bn.lcm qn := Nat.lcm_pos b0 q0
  obtain ⟨x, hx⟩ := Nat.dvd_lcm_left bn qn
  obtain ⟨y, hy⟩ := Nat.dvd_lcm_right bn qn
  have hle : bn.lcm qn ≤ bn * qn := Nat.le_of_dvd (Nat.mul_pos b0 q0) (Nat.lcm_dvd_mul bn qn)
  have e1 : ((bn.lcm qn : Nat) : Int) / (bn : Int) = x := by
    rw [hx, ← Int.natCast_ediv, Nat.mul_div_cancel_left _ b0]
  have e2 : ((bn.lcm qn : Nat) : Int) / (qn : Int) = y := by
    rw [hy, ← Int.natCast_ediv, Nat.mul_div_cancel_left _ q0]
  have es : sumS (t, (bn : Int)) (u, (qn : Int)) = (t * x + u * y, ((bn.lcm qn : Nat) : Int)) := by
    unfold sumS
    simp only [Int.natAbs_natCast]
    rw [e1, e2]
  rw [es]
  refine ⟨by show (0 : Int) < ((bn.lcm qn : Nat) : Int); omega, ?_, ?_, ?_⟩
  · show (((bn.lcm qn : Nat) : Int)).natAbs ≤ _
    rw [Int.natAbs_natCast, Nat.pow_succ]
    exact Nat.le_trans hle (Nat.mul_le_mul hb (by omega))
  · show (t * x + u * y).natAbs ≤ _ * (((bn.lcm qn : Nat) : Int)).natAbs
    rw [Int.natAbs_natCast]
    have z1 : (t * x).natAbs ≤ 1024 * i * bn.lcm qn := by
      rw [Int.natAbs_mul, Int.natAbs_natCast]
      have := Nat.mul_le_mul_right x ht
      rw [Nat.mul_assoc, ← hx] at this
      exact this
    have yc : y ≤ bn.lcm qn := by
      have := Nat.le_mul_of_pos_left y q0
      rw [← hy] at this
      exact this
    have z2 : (u * y).natAbs ≤ 1024 * bn.lcm qn := by
      rw [Int.natAbs_mul, Int.natAbs_natCast]
      exact Nat.mul_le_mul (by omega) yc
    have z3 := Int.natAbs_add_le (t * x) (u * y)
    have z4 : 1024 * (i + 1) * bn.lcm qn = 1024 * i * bn.lcm qn + 1024 * bn.lcm qn := by
      rw [Nat.mul_add, Nat.mul_one, Nat.add_mul]
    omega
  · have bz : (bn : Int) ≠ 0 := by omega
    have qz : ((u, (qn : Int)) : Int × Int).2 ≠ 0 := by show (qn : Int) ≠ 0; omega
    rw [add_low bz qz]
    refine low_of (by show ((bn.lcm qn : Nat) : Int) ≠ 0; omega) (Int.mul_ne_zero bz qz) ?_
    show (t * x + u * y) * ((bn : Int) * qn) = (t * qn + u * bn) * ((bn.lcm qn : Nat) : Int)
    have f1 : ((bn.lcm qn : Nat) : Int) = (bn : Int) * x := by rw [hx]; exact Int.natCast_mul _ _
    have f2 : ((bn.lcm qn : Nat) : Int) = (qn : Int) * y := by rw [hy]; exact Int.natCast_mul _ _
    rw [Int.add_mul, Int.add_mul]
    have g1 : t * x * ((bn : Int) * qn) = t * qn * ((bn.lcm qn : Nat) : Int) := by rw [f1]; grind
    have g2 : u * y * ((bn : Int) * qn) = u * bn * ((bn.lcm qn : Nat) : Int) := by rw [f2]; grind
    rw [g1, g2]
theorem low_zero : low 0 1 = (0, 1) := by decide +kernel
/-- n turns -/
theorem sumS_take {ps : List (Int × Int)} (hs : ∀ p ∈ ps, smPair p) : ∀ i, i ≤ ps.length → 0 < ((ps.take i).foldl sumS (0, 1)).2 ∧ ((ps.take i).foldl sumS (0, 1)).2.natAbs ≤ 1024 ^ i ∧ ((ps.take i).foldl sumS (0, 1)).1.natAbs ≤ 1024 * i * ((ps.take i).foldl sumS (0, 1)).2.natAbs ∧
    low ((ps.take i).foldl sumS (0, 1)).1 ((ps.take i).foldl sumS (0, 1)).2 = sumP (ps.take i)
  | 0, _ => ⟨by show (0 : Int) < 1; decide, by show (1 : Int).natAbs ≤ 1024 ^ 0; decide, by show (0 : Int).natAbs ≤ 1024 * 0 * (1 : Int).natAbs; decide, low_zero⟩
  | i + 1, h => by
    obtain ⟨h0, h1, h2, h3⟩ := sumS_take hs i (by omega)
    have hi : i < ps.length := by omega
    obtain ⟨p, ep⟩ : ∃ p, ps[i]? = some p := ⟨ps[i], by simp [hi]⟩
    have et : ps.take (i + 1) = ps.take i ++ [p] := by rw [List.take_add_one, ep]; rfl
    rw [et, List.foldl_append]
    obtain ⟨k0, k1, k2, k3⟩ := sumS_ok (hs p (List.mem_of_getElem? ep)) h0 h1 h2
    refine ⟨k0, k1, k2, ?_⟩
    show low (sumS _ p).1 (sumS _ p).2 = _
    rw [k3, h3]
    unfold sumP
    rw [List.foldl_append]
    rfl
theorem cr_lcm {X : Cx} : CallR X (.builtin "math.lcm") (fun vs H Q => ∃ a b : Int, vs = [.int a, .int b] ∧ a.natAbs < 2 ^ 4000 ∧ b.natAbs < 2 ^ 4000 ∧ Q (.int ((a.natAbs.lcm b.natAbs : Nat) : Int)) H) := by
  intro pins s σ H vs us Q I r h
  obtain ⟨a, b, rfl, ha, hb, q⟩ := h
  obtain ⟨t, u, rfl⟩ := Vals.int2 r
  have lg : ∀ n : Nat, n < 2 ^ 4000 → n.log2 ≤ 4000 := fun n h => by
    by_cases z : n = 0
    · subst z
      decide
    · exact Nat.le_of_lt ((Nat.log2_lt z).mpr h)
  have e1 : Nat.lcm 1 a.natAbs = a.natAbs := Nat.lcm_one_left a.natAbs
  have m1 := lg (max 1 a.natAbs) (Nat.max_lt.mpr ⟨Nat.one_lt_two_pow (by decide), ha⟩)
  have m2 := lg (max a.natAbs b.natAbs) (Nat.max_lt.mpr ⟨ha, hb⟩)
  have hl : (((Nat.lcm 1 a.natAbs).lcm b.natAbs : Nat) : Int).natAbs < 2 ^ 8000 := by
    rw [e1, Int.natAbs_natCast]
    by_cases z : a.natAbs = 0
    · rw [z, Nat.lcm_zero_left]
      exact Nat.two_pow_pos _
    by_cases z2 : b.natAbs = 0
    · rw [z2, Nat.lcm_zero_right]
      exact Nat.two_pow_pos _
    refine Nat.lt_of_le_of_lt (Nat.le_of_dvd (Nat.mul_pos (Nat.pos_of_ne_zero z) (Nat.pos_of_ne_zero z2)) (Nat.lcm_dvd_mul _ _)) ?_
    have := Nat.mul_lt_mul'' ha hb
    rw [← Nat.pow_add] at this
    exact this
  refine PySem.call_function_meets PySem.W.MGF.kind_lcm PySem.W.MGF.plain_lcm PySem.W.MGF.entry_lcm (PySem.W.MGF.args_lcm _ _) (PySem.W.mg_run_lcm a t b u (by omega) (by omega) (PySem.Flt.log2_lt_of (by decide) (Nat.lt_of_lt_of_le hl (Nat.pow_le_pow_right (by decide) (show 8000 ≤ 134217728 by decide))))).meets ?_
  rw [e1]
  exact ⟨.int _, H, I.tok _, ⟨_, rfl⟩, q⟩
theorem RZ_walk {K : PySem.W.Frag} {a b : Addr} {xs ys : List V} {n : Nat} (hn : n = min xs.length ys.length) : Walk (RZ.ItzT K a b) n (fun H => SqT K H a xs ∧ SqT K H b ys) (YPair (fun i => xs[i]?) (fun i => ys[i]?)) := by
  subst hn
  refine ⟨fun i _ hi q => ⟨xs, ys, xs[i]'(by omega), ys[i]'(by omega), q.1, q.2, by simp, by simp⟩, fun _ q => ⟨xs, ys, q.1, q.2, by omega⟩, fun i H v H' _ q y => ?_⟩
  obtain ⟨T, x, z, e1, e2, e3, f, g⟩ := y
  exact ⟨T, x, z, e1, e2, e3, f xs q.1, g ys q.2⟩
structure GcdF (mg : Str → Option Value) : Prop where
  gcd : mg "gcd" = some (.builtin "math.gcd")
  lcm : mg "lcm" = some (.builtin "math.lcm")
theorem fracDB_inv {d : PyData} (h : fracDB d = true) : ∃ a b, d = .tuple [.int a, .int b] ∧ fracB (a, b) = true := by
  unfold fracDB at h
  split at h
  · exact ⟨_, _, rfl, h⟩
  · cases h
theorem intB_inv {d : PyData} (h : intB d = true) : ∃ i, d = .int i ∧ okI i = true := by
  unfold intB at h
  split at h
  · exact ⟨_, rfl, h⟩
  · cases h
theorem stdB_inv {n : Int} {d : PyData} (h : stdB n d = true) : ∃ i, d = .int i ∧ 0 ≤ i ∧ i < n := by
  unfold stdB at h
  split at h
  · simp only [Bool.and_eq_true, decide_eq_true_eq] at h
    exact ⟨_, rfl, h.2⟩
  · cases h
theorem gainB_inv {d : PyData} (h : gainB d = true) : ∃ i, d = .int i ∧ -99 ≤ i ∧ i ≤ 99 := by
  unfold gainB at h
  split at h
  · simp only [Bool.and_eq_true, decide_eq_true_eq] at h
    exact ⟨_, rfl, h.2⟩
  · cases h
theorem moveB_inv {n : Int} {d : PyData} (h : moveB n d = true) : ∃ t g a b, d = .tuple [.int t, .int g, .tuple [.int a, .int b]] ∧ 0 ≤ t ∧ t < n ∧ -99 ≤ g ∧ g ≤ 99 ∧ fracB (a, b) = true ∧ 0 < a := by
  unfold moveB at h
  split at h
  · rename_i t g c
    simp only [Bool.and_eq_true] at h
    obtain ⟨h1, h2, h3, h4⟩ := h
    obtain ⟨i, rfl, q1, q2⟩ := stdB_inv h1
    obtain ⟨j, rfl, q3, q4⟩ := gainB_inv h2
    obtain ⟨a, b, rfl, q5⟩ := fracDB_inv h3
    exact ⟨i, j, a, b, rfl, q1, q2, q3, q4, q5, of_decide_eq_true h4⟩
  · cases h
theorem fracDB_len {ds : List PyData} (h : ds.length ≠ 2) : fracDB (.tuple ds) = false := by
  cases e : fracDB (.tuple ds) with
  | false => rfl
  | true =>
    obtain ⟨a, b, z, _⟩ := fracDB_inv e
    cases z
    exact absurd rfl h
theorem moveB_len {n : Int} {ds : List PyData} (h : ds.length ≠ 3) : moveB n (.tuple ds) = false := by
  cases e : moveB n (.tuple ds) with
  | false => rfl
  | true =>
    obtain ⟨t, g, a, b, z, _⟩ := moveB_inv e
    cases z
    exact absurd rfl h
theorem DaL.app {H : Hp} : ∀ {xs : List V} {ds : List PyData} {ys : List V} {es : List PyData}, DaL H xs ds → DaL H ys es → DaL H (xs ++ ys) (ds ++ es)
  | [], [], _, _, .nil, h => h
  | _ :: _, _ :: _, _, _, .cons a t, h => .cons a (DaL.app t h)
/-- the heap without a thing that changes -/
def sans (H : Hp) (d : Addr) : Hp := fun b => if b = d then none else H b
theorem sans_sub {H : Hp} {d : Addr} : Same (sans H d) H := fun b o e => by
  unfold sans at e
  split at e
  · cases e
  · exact e
theorem sans_upd {H : Hp} {d : Addr} {o : HO} : sans (upd H d o) d = sans H d := by
  funext b
  unfold sans
  split
  · rfl
  · rename_i n
    exact upd_ne n
theorem same_sans {G H : Hp} {d : Addr} (s : Same G H) (e : G d = none) : Same G (sans H d) := fun b o h => by
  unfold sans
  rw [if_neg (ne_of_none h e)]
  exact s b o h
theorem smPair_of {t g : PyData} {a b : Int} (h : smD (.tuple [t, g, .tuple [.int a, .int b]]) = true) (f : fracB (a, b) = true) : smPair (a, b) := by
  have h : (smD t && (smD g && ((decide (a.natAbs < 1024) && (decide (b.natAbs < 1024) && true)) && true))) = true := h
  simp only [Bool.and_eq_true, decide_eq_true_eq, Bool.and_true] at h
  unfold fracB at f
  simp only [Bool.and_eq_true, decide_eq_true_eq] at f
  exact ⟨h.2.2.1, by have := f.1.2; omega, by have := h.2.2.2; have := f.1.2; omega⟩
section
variable {X : Cx} {K : PySem.W.Frag} {σ : L2.St} {H : Hp} {Q : VK}
theorem s_tup (h : X.K = K := by rfl) : SlR X (rSlT K) := h ▸ sl_tup
theorem o_ltT (hu : X.A.units < cLine) (h : X.K = K := by rfl) : OpR X (compareOp .Lt) (rLtT K) := h ▸ op_ltT hu
theorem w_zipA {e e2 : Expr} {ta : TA} {p pos tpos : Pos} {elts : List Expr} {kk : Nat} (hg : Gl X "zip") (hm : X.mg "zip" = none) (ha : PA X [e, e2] ta) (h : X.K = K := by rfl)
    (hs : starEach [e, e2] X.env = (false, eval e X.env) :: starEach [e2] X.env := by rfl) (hpl : (backTo pos (starEach [e2] X.env)).any (·.1) = false := by rfl) : PI X (.Tuple elts kk tpos) (.Call (.Name "zip" p) [e, e2] [] pos) (RZ.iZipA K ta) := by
  subst h
  exact RZ.pi_zipA hg hm ha hs hpl
theorem y_sl {r : V → Option Int → Option Int → Hp → VK → Prop} {te : TE} {tl th : TO} (h : te σ H fun x H1 => tl σ H1 fun l H2 => th σ H2 fun u H3 => r x l u H3 Q) : tSl r te tl th σ H Q := h
theorem y_noP {R : Option Int → Hp → Prop} (h : R none H) : tNoPart σ H R := h
theorem y_prt {te : TE} {R : Option Int → Hp → Prop} (h : te σ H fun x H1 => ∃ i : Int, x = .int i ∧ R (some i) H1) : tPart te σ H R := h
theorem y_iZipA {ta : TA} {R : It → Hp → Prop} (h : ta σ H fun vs H1 => ∃ a b xs ys, vs = [.ref a, .ref b] ∧ ((SqL K H1 a xs ∧ SqL K H1 b ys ∧ R (Itz K a b) H1) ∨ (SqT K H1 a xs ∧ SqT K H1 b ys ∧ R (RZ.ItzT K a b) H1))) : RZ.iZipA K ta σ H R := h
end
theorem y_iTup {σ : L2.St} {H : Hp} {K : PySem.W.Frag} {te : TE} {R : It → Hp → Prop} (h : te σ H fun x H1 => ∃ a, x = .ref a ∧ (∃ xs, SqT K H1 a xs) ∧ R (Itt K a) H1) : iTup K te σ H R := h
theorem key_of {n : Int} {d : PyData} {H : Hp} {v : V} (h : moveB n d = true) (hd : Da H v d) : ∃ (a : Addr) (x y z : V) (t g : Int), v = .ref a ∧ H a = some (.tup [.int t, .int g, z]) ∧ keyOf d = [t, g] := by
  obtain ⟨t, g, u, w, rfl, _⟩ := moveB_inv h
  cases hd with
  | tup e hl =>
  cases hl with
  | cons q1 hl =>
  cases hl with
  | cons q2 hl =>
  cases hl with
  | @cons z _ _ _ q3 hl =>
  cases hl
  cases q1
  cases q2
  exact ⟨_, .non, .non, z, t, g, rfl, e, rfl⟩
theorem cut2 : ¬ (HT.sIx 3 0 none = 0 ∧ HT.sIx 3 3 (some 2) = 3) := by decide
/-- which neighbours ascend -/
def ascL (ms : List PyData) : List Bool := (ms.zip (ms.drop 1)).map fun p => HT.lexLt (keyOf p.1) (keyOf p.2)
theorem ascL_all : ∀ ms : List PyData, (ascL ms).all id = ascB ms
  | [] => rfl
  | [_] => rfl
  | x :: y :: r => by
    show (HT.lexLt (keyOf x) (keyOf y) && (ascL (y :: r)).all id) = _
    rw [ascL_all (y :: r)]
    rfl
theorem movesB_inv {most : Int} {n : Int} {d : PyData} (h : movesB most n d = true) : ∃ ms, d = .tuple ms ∧ 1 ≤ ms.length ∧ (ms.length : Int) ≤ most ∧ ∀ m ∈ ms, moveB n m = true := by
  unfold movesB at h
  split at h
  · simp only [Bool.and_eq_true, decide_eq_true_eq, List.all_eq_true] at h
    exact ⟨_, rfl, h.1.1, h.1.2, h.2.1⟩
  · cases h
/-! ### promises -/
def frD (p : Int × Int) : PyData := .tuple [.int p.1, .int p.2]
theorem eqv_pair {p q : Int × Int} : PyData.eqv (frD p) (.tuple [.int q.1, .int q.2]) = decide (p = q) := by
  show (p.1 == q.1 && (p.2 == q.2 && true)) = _
  rw [Bool.and_true, Bool.eq_iff_iff, Bool.and_eq_true, beq_iff_eq, beq_iff_eq, decide_eq_true_iff]
  exact ⟨fun h => Prod.ext h.1 h.2, fun h => ⟨congrArg Prod.fst h, congrArg Prod.snd h⟩⟩
def spIntD : Sp := fun vs H Q _ => ∃ v d, vs = [v] ∧ Da H v d ∧ Q (.bl (intB d)) H
def spFracD : Sp := fun vs H Q _ => ∃ v d, vs = [v] ∧ Da H v d ∧ Q (.bl (fracDB d)) H
def spStd : Sp := fun vs H Q _ => ∃ v d n, vs = [v, .int n] ∧ Da H v d ∧ Q (.bl (stdB n d)) H
def spMove : Sp := fun vs H Q _ => ∃ v d n, vs = [v, .int n] ∧ Da H v d ∧ Q (.bl (moveB n d)) H
def spSumOf (K : PySem.W.Frag) : Sp := fun vs H Q _ => ∃ (a : Addr) (xs : List V) (ps : List (Int × Int)), vs = [.ref a] ∧ SqL K H a xs ∧ DaL H xs (ps.map frD) ∧ (∀ p ∈ ps, smPair p) ∧ ps.length ≤ 100 ∧ New2 H (sumP ps) Q
/-- the chances of what are moves are small -/
def mvsm (n : Int) : PyData → Prop
  | .tuple ms => ∀ m ∈ ms, moveB n m = true → smPair (chOf m)
  | _ => True
def gmsm : PyData → Prop
  | .tuple gs => ∀ ms ∈ gs, mvsm gs.length ms
  | _ => True
theorem mvsm_of {n : Int} {d : PyData} (h : smD d = true) : mvsm n d := by
  unfold mvsm
  split
  · rename_i ms
    intro m mm hm
    obtain ⟨t, g, u, w, rfl, _, _, _, _, f, _⟩ := moveB_inv hm
    exact smPair_of (smDs_mem (show smDs ms = true from h) _ mm) f
  · trivial
theorem gmsm_of {d : PyData} (h : smD d = true) : gmsm d := by
  unfold gmsm
  split
  · rename_i gs
    exact fun ms mm => mvsm_of (smDs_mem (show smDs gs = true from h) _ mm)
  · trivial
def spMoves : Sp := fun vs H Q _ => ∃ v d most n, vs = [v, .int most, .int n] ∧ Da H v d ∧ mvsm n d ∧ most ≤ 100 ∧ ∀ H', Same H H' → Q (.bl (movesB most n d)) H'
def spAsc : Sp := fun vs H Q _ => ∃ v ms n, vs = [v] ∧ Da H v (.tuple ms) ∧ (∀ m ∈ ms, moveB n m = true) ∧ 1 ≤ ms.length ∧ ms.length ≤ 100 ∧ ∀ H', Same H H' → Q (.bl (ascB ms)) H'
def spMovesG : Sp := fun vs H Q _ => ∃ v d n, vs = [v, .int n] ∧ Da H v d ∧ mvsm n d ∧ ∀ H', Same H H' → Q (.bl (movesB 12 n d && ascD d)) H'
def spGame : Sp := fun vs H Q _ => ∃ v d, vs = [v] ∧ Da H v d ∧ gmsm d ∧ ∀ H', Same H H' → Q (.bl (gameB d)) H'
end Ow
/-! sorted of triples (int, int, thing) no two of which have the same two ints. -/
namespace SrtO
open PySem PySem.Spec PyProof.Rows Srt
def IsTri (h : Heap) (v : Value) (x y : Int) : Prop := ∃ a o t u z n, v = .ref a ∧ h.get? a = some o ∧ o.cls = .type "tuple" ∧ o.data = .seq #[.int x t, .int y u, z] n
theorem IsTri.keeps {h h' : Heap} {v : Value} {x y : Int} (p : IsTri h v x y) (k : ∀ b o, h.get? b = some o → o.cls = .type "tuple" → h'.get? b = some o) : IsTri h' v x y := by
  obtain ⟨a, o, t, u, z, n, e, ho, hc, hd⟩ := p
  exact ⟨a, o, t, u, z, n, e, k _ _ ho hc, hc, hd⟩
section
variable {prog : Program} {w : World} {A : Around} {s : Shared}
theorem tri_cmp {vs : List Value} {k : Value → Int × Int} (hi : ∀ v ∈ vs, ∀ u ∈ vs, k v = k u → v = u) (hp : ∀ v ∈ vs, IsTri s.heap v (k v).1 (k v).2) : Cmp prog w A s (tuples' true) (fun p => p.1 ∈ vs) (lt2 fun v u => lexB (k v) (k u)) := by
  intro p q hm hm'
  have h1 := hp _ hm
  have h2 := hp _ hm'
  have hpq : (k p.1).1 = (k q.1).1 → (k p.1).2 = (k q.1).2 → p.1 = q.1 := fun e1 e2 => hi _ hm _ hm' (Prod.ext e1 e2)
  show wpAny (model prog w) A (keyLt' (tuples' true) p.1 q.1) (fun r s' => s' = s ∧ r = lexB (k p.1) (k q.1)) (fun _ _ => False) s
  unfold lexB
  generalize (k p.1).1 = x at h1 hpq ⊢
  generalize (k p.1).2 = y at h1 hpq ⊢
  generalize (k q.1).1 = x' at h2 hpq ⊢
  generalize (k q.1).2 = y' at h2 hpq ⊢
  obtain ⟨a, o, t, u, z, n, e, ho, hc, hd⟩ := h1
  obtain ⟨a', o', t', u', z', n', e', ho', hc', hd'⟩ := h2
  rw [e, e']
  rw [e, e'] at hpq
  refine PySem.W.kat_lt ho hd ho' hd' ?_
  show PySem.W.KatLex prog w A true (decide (3 < 3)) _ [(.int x t, .int x' t'), (.int y u, .int y' u'), (z, z')] 0 s
  refine PySem.W.kat_cons (SeqAt.EqAt.int_int x t x' t' prog w _ _ ?_)
  refine PySem.W.kat_go (fun e1 => ?_) (fun e1 => ?_)
  · have ex : x = x' := by simpa using e1
    refine PySem.W.kat_yes (PySem.W.kat_cons (SeqAt.EqAt.int_int y u y' u' prog w _ _ ?_))
    refine PySem.W.kat_go (fun e2 => ?_) (fun e2 => ?_)
    · have ey : y = y' := by simpa using e2
      have ea : a = a' := Value.ref.inj (hpq ex ey)
      subst ea
      have eo : some o = some o' := ho.symm.trans ho'
      cases eo
      rw [hd] at hd'
      have ez : z = z' := by
        injection hd' with h3 _
        have := congrArg (fun (x : Array Value) => x[2]?) h3
        simpa using this
      subst ez
      have e3 : (if x = x' then decide (y < y') else decide (x < x')) = false := by
        rw [if_pos ex, ey]
        exact decide_eq_false (Int.lt_irrefl _)
      refine PySem.W.kat_yes (PySem.W.kat_cons (SeqAt.EqAt.same z prog w _ _ ?_))
      exact PySem.W.kat_yes (PySem.W.kat_nil ⟨rfl, e3.symm⟩)
    · have e3 : (if x = x' then decide (y < y') else decide (x < x')) = decide (y < y') := if_pos ex
      refine PySem.W.kat_no (PySem.W.kat_one _ _ (PyProof.Rows.lt_int ?_))
      exact (show s = s ∧ decide (y < y') = (if x = x' then decide (y < y') else decide (x < x')) from ⟨rfl, e3.symm⟩)
  · have ex : ¬ x = x' := by simpa using e1
    have e3 : (if x = x' then decide (y < y') else decide (x < x')) = decide (x < x') := if_neg ex
    exact PySem.W.kat_no (oneLt_int ⟨rfl, e3.symm⟩)
theorem tri_firsts {h : Heap} : ∀ {vs : List Value}, (∀ v ∈ vs, ∃ x y, IsTri h v x y) → ∃ fs : List Value, PySem.W.KatTups h vs fs ∧ fs.length = vs.length ∧ ∀ f ∈ fs, ∃ x t, f = Value.int x t
  | [], _ => ⟨[], PySem.W.KatTups.nil, rfl, fun _ hm => by simp at hm⟩
  | v :: vs, hp => by
    obtain ⟨fs, h1, h2, h3⟩ := tri_firsts (vs := vs) fun v' hm => hp v' (List.mem_cons_of_mem _ hm)
    obtain ⟨x, y, a, o, t, u, z, n, rfl, ho, hc, hd⟩ := hp v List.mem_cons_self
    refine ⟨.int x t :: fs, PySem.W.KatTups.cons ho hc hd rfl h1, by simp [h2], fun f hf => ?_⟩
    rcases List.mem_cons.mp hf with rfl | hf
    · exact ⟨x, t, rfl⟩
    · exact h3 f hf
theorem tri_sortable {a : Addr} {vs : List Value} {k : Value → Int × Int} (h0 : 0 < vs.length) (hi : ∀ v ∈ vs, ∀ u ∈ vs, k v = k u → v = u) (hp : ∀ v ∈ vs, IsTri s.heap v (k v).1 (k v).2) (ha : ∀ o, s.heap.get? a = some o → o.cls ≠ .type "tuple") : SortableO prog w A s a vs fun v u => lexB (k v) (k u) := by
  intro h' keep
  have hp' : ∀ v ∈ vs, IsTri h' v (k v).1 (k v).2 := fun v hm => (hp v hm).keeps fun b o e c => keep b o (fun z => by subst z; exact ha o e c) e
  obtain ⟨fs, h1, h2, h3⟩ := tri_firsts fun v hm => ⟨_, _, hp' v hm⟩
  refine ⟨tuples' true, fun Q E hq => ?_, tri_cmp hi hp'⟩
  refine PySem.W.kat_kind (T := .type "int") h1 (by omega) (fun f hm => ?_) (by rfl) ?_
  · obtain ⟨x, t, rfl⟩ := h3 f hm
    exact PySem.W.Looks.now
  · have e : (Value.type "int" != Value.type "tuple") = true := by first | decide +kernel | rfl | decide
    rw [e]
    exact hq
theorem sorted_tris {E : Value → Shared → Prop} {l : Addr} {vs : List Value} {k : Value → Int × Int} {Q : Value → Shared → Prop} (hl : s.heap.IsList l vs.toArray) (hz : vs.length ≤ sizeLine) (hi : ∀ v ∈ vs, ∀ u ∈ vs, k v = k u → v = u) (hp : ∀ v ∈ vs, IsTri s.heap v (k v).1 (k v).2)
    (h : ∀ (h' : Heap) (d : Addr) (out : List Value), Srtd (fun v u => lexB (k v) (k u)) out → Stb (fun v u => lexB (k v) (k u)) out vs → (∀ b o, s.heap.get? b = some o → h'.get? b = some o) → s.heap.objs.size ≤ d → (∃ n, h'.get? d = some (seqObj "list" out.toArray n)) → Q (.ref d) { s with heap := h' }) :
    wpAny (model prog w) A (call (.builtin "sorted") [.ref l]) Q E s := by
  refine sorted_ord (swo_lex k) hl hz (fun h2 h₁ a ha kk => ?_) fun out hs hb => ?_
  · refine tri_sortable (s := { s with heap := h₁ }) (by omega) hi (fun v hm => (hp v hm).keeps fun b o e _ => (kk b o e).2) fun o e => ?_
    have e' : some o = some (seqObj "list" vs.toArray 0) := e.symm.trans ha
    cases e'
    intro c
    exact absurd (Value.type.inj c) (by decide)
  · exact h _ _ out hs hb (fun b o e => sortedAll_old e) (Nat.le_succ _) (sortedAll_at s.heap vs out.toArray)
end
end SrtO
namespace L2
open PySem PySem.Spec PyProof.Rows
def rSorted3 (K : PySem.W.Frag) : List V → Hp → VK → Prop := fun vs H Q => ∃ (a : Addr) (xs : List V) (k : V → Int × Int), vs = [V.ref a] ∧ SqL K H a xs ∧ (∀ x ∈ xs, ∀ y ∈ xs, k x = k y → x = y) ∧ (∀ x ∈ xs, ∃ t z, x = V.ref t ∧ H t = some (.tup [.int (k x).1, .int (k x).2, z])) ∧
  ∀ ys p, SrtO.Srtd (ltP k) ys → ys.Perm xs → H p = none → Q (.ref p) (upd H p (.lst ys))
section
variable {X : Cx}
theorem cr_sorted3 : CallR X (.builtin "sorted") (rSorted3 X.K) := by
  intro pins s σ H vs us Q I r h
  obtain ⟨a, xs, k, rfl, hs, hi, hx, q⟩ := h
  obtain ⟨its, rv, hl, hz⟩ := I.list hs
  obtain ⟨u, rfl, ru⟩ := vals1 r
  obtain rfl : u = Value.ref a := ru
  obtain ⟨e1, e2⟩ := refs_back rv fun x m => by
    obtain ⟨t, _, e, _⟩ := hx x m
    exact ⟨t, e⟩
  refine SrtO.sorted_tris (k := fun u => k (backV u)) hl.isList (by rw [← rv.length]; exact hz) (fun v hv u hu e => ?_) (fun v hv => ?_) fun h' d out h1 h2 kp hd hn => ?_
  · obtain ⟨t, rfl⟩ := e2 v hv
    obtain ⟨t', rfl⟩ := e2 u hu
    have m1 : V.ref t ∈ xs := by rw [e1]; exact List.mem_map.mpr ⟨_, hv, rfl⟩
    have m2 : V.ref t' ∈ xs := by rw [e1]; exact List.mem_map.mpr ⟨_, hu, rfl⟩
    have := hi _ m1 _ m2 e
    rw [V.ref.inj this]
  · obtain ⟨t, rfl⟩ := e2 v hv
    have hm : V.ref t ∈ xs := by rw [e1]; exact List.mem_map.mpr ⟨_, hv, rfl⟩
    obtain ⟨t', z, e, ht⟩ := hx _ hm
    cases e
    obtain ⟨_, its2, r2, o, ho, hc, n, hd⟩ := I.hok _ _ ht
    match its2, r2 with
    | [u1, u2, u3], .cons ri (.cons rj (.cons _ .nil)) =>
    obtain ⟨t1, rfl⟩ := ri
    obtain ⟨t2, rfl⟩ := rj
    exact ⟨t, o, t1, t2, u3, n, rfl, ho, hc, hd⟩
  · have h3 : ∀ u ∈ out, ∃ a, u = Value.ref a := fun u hu => e2 u (h2.perm.mem_iff.mp hu)
    obtain ⟨n, hn⟩ := hn
    have hb : SrtO.Stb (ltP k) (out.map backV) xs := by
      rw [e1]
      exact SrtO.Stb.map (ltP_swo k) backV h2
    refine ⟨.ref d, upd H d (.lst (out.map backV)), I.laid (t' := s.toks) kp hd ⟨?_, out, n, vals_back h3, hn⟩, rfl, q _ d (SrtO.srtd_map h1) hb.perm (I.hok.fresh hd)⟩
    rw [hb.len]
    exact hz
end
end L2
/-! Drawn plain houses: displays of data, what is known of them. -/
namespace Ow
open PySem PySem.Spec PyProof.Rows L2
theorem sans_mono {H H' : Hp} {d : Addr} (s : Same H H') : Same (sans H d) (sans H' d) := fun b o e => by
  unfold sans at e ⊢
  split at e
  · cases e
  · rename_i n
    rw [if_neg n]
    exact s _ _ e
theorem sans_fr {H H' : Hp} {d : Addr} (f : Fr d H H') : Same (sans H d) (sans H' d) := fun b o e => by
  unfold sans at e ⊢
  split at e
  · cases e
  · rename_i n
    rw [if_neg n]
    exact f _ _ e n
theorem sans_at {H : Hp} {d p : Addr} {o : HO} (n : p ≠ d) (e : H p = some o) : sans H d p = some o := by
  unfold sans
  rw [if_neg n]
  exact e
/-- a display of data, from the heap H0 on, while the dice stand at d -/
def DaE (d : Addr) (H0 : Hp) (σ : L2.St) (te : TE) (dd : PyData) : Prop := ∀ H Q, Same H0 H → (∀ v H', Same H H' → Da (sans H' d) v dd → Q v H') → te σ H Q
def DaA (d : Addr) (H0 : Hp) (σ : L2.St) (ta : TA) (ds : List PyData) : Prop := ∀ H R, Same H0 H → (∀ vs H', Same H H' → DaL (sans H' d) vs ds → R vs H') → ta σ H R
section
variable {d : Addr} {H0 : Hp} {σ : L2.St} {te : TE} {ta : TA} {x : PyData} {ds : List PyData}
theorem dae_int {i : Int} : DaE d H0 σ (tC (.int i)) (.int i) := fun H Q _ k => k _ H (Same.refl H) (.int i)
theorem dae_str {i : Str} : DaE d H0 σ (tC (.str i)) (.str i) := fun H Q _ k => k _ H (Same.refl H) (.str i)
theorem dae_non : DaE d H0 σ (tC .non) .none := fun H Q _ k => k _ H (Same.refl H) .non
theorem dae_bl {b : Bool} : DaE d H0 σ (tC (.bl b)) (.bool b) := fun H Q _ k => k _ H (Same.refl H) (.bl b)
theorem dae_neg {i : Int} : DaE d H0 σ (tUn (rU fun i => .int (-i)) (tC (.int i))) (.int (-i)) := fun H Q _ k => ⟨i, rfl, k _ H (Same.refl H) (.int _)⟩
theorem dae_var {i : Nat} {v : V} (e : σ[i]? = some (some v)) (h : Da (sans H0 d) v x) : DaE d H0 σ (tVar i) x := fun H Q s k => ⟨v, e, k v H (Same.refl H) (h.same (sans_mono s))⟩
theorem daa_nil : DaA d H0 σ tNil [] := fun H R _ k => k [] H (Same.refl H) .nil
theorem daa_cons (h : DaE d H0 σ te x) (t : DaA d H0 σ ta ds) : DaA d H0 σ (tCons te ta) (x :: ds) := fun H R s k =>
  h H _ s fun v H1 s1 h1 => t H1 _ (s.trans s1) fun vs H2 s2 h2 => k (v :: vs) H2 (s1.trans s2) (.cons (h1.same (sans_mono s2)) h2)
theorem dae_tup (D : DiceAt H0 d) (hl : ds.length ≤ 1000) (t : DaA d H0 σ ta ds) : DaE d H0 σ (tTup ta) (.tuple ds) := fun H Q s k =>
  t H _ s fun vs H1 s1 h1 => ⟨sz_le (by rw [h1.len]; omega), fun p np => k _ _ (s1.trans (same_new np)) (.tup (sans_at ((D.same (s.trans s1)).ne np) upd_same) (h1.same (sans_mono (same_new np))))⟩
theorem dae_lst (D : DiceAt H0 d) (hl : ds.length ≤ 1000) (t : DaA d H0 σ ta ds) : DaE d H0 σ (tLst ta) (.list ds) := fun H Q s k =>
  t H _ s fun vs H1 s1 h1 => ⟨sz_le (by rw [h1.len]; omega), fun p np => k _ _ (s1.trans (same_new np)) (.lst (sans_at ((D.same (s.trans s1)).ne np) upd_same) (h1.same (sans_mono (same_new np))))⟩
end
/-- the display's reading -/
theorem DaE.use {d : Addr} {H : Hp} {σ : L2.St} {te : TE} {x : PyData} {Q : VK} (h : DaE d H σ te x) (k : ∀ v H', Same H H' → Da (sans H' d) v x → Q v H') : te σ H Q := h H Q (Same.refl H) k

theorem s_lst {X : Cx} {K : PySem.W.Frag} (h : X.K = K := by rfl) : SlR X (rSlL K) := h ▸ sl_list
theorem erase_perm {α : Type} : ∀ {l : List α} {i : Nat} {v : α}, l[i]? = some v → (v :: l.eraseIdx i).Perm l
  | x :: l, 0, v, e => by
    cases (show some x = some v from e)
    exact List.Perm.refl _
  | x :: l, i + 1, v, e => by
    have h := erase_perm (l := l) (i := i) (v := v) e
    exact (List.Perm.swap x v _).trans (h.cons x)
  | [], i, v, e => by simp at e
theorem cut_from {xs : List V} {n : Nat} (h : n ≤ xs.length) : cutV xs (some (n : Int)) none = xs.drop n := by
  unfold cutV
  rw [show HT.sIx xs.length 0 (some (n : Int)) = min n xs.length from HT.sIx_nat xs.length 0 n, HT.sIx_none, Nat.min_eq_left h, List.take_of_length_le (by rw [List.length_drop]; exact Nat.le_refl _)]
theorem DaL.len_of {H : Hp} {xs : List V} {ds : List PyData} {n : Nat} (h : DaL H xs ds) (e : ds.length = n) : xs.length = n := h.len.trans e
theorem DaL.mem {H : Hp} : ∀ {xs : List V} {ds : List PyData} {v : V}, DaL H xs ds → v ∈ xs → ∃ x ∈ ds, Da H v x
  | _ :: _, _ :: _, v, .cons h t, m => by
    rcases List.mem_cons.mp m with rfl | m
    · exact ⟨_, List.mem_cons_self, h⟩
    · obtain ⟨x, mx, hx⟩ := DaL.mem t m
      exact ⟨x, List.mem_cons_of_mem _ mx, hx⟩
theorem DaL.at2 {H : Hp} : ∀ {xs : List V} {ds : List PyData} {j : Nat} {x : PyData}, DaL H xs ds → ds[j]? = some x → ∃ v, xs[j]? = some v ∧ Da H v x
  | _ :: _, _ :: _, 0, _, .cons h _, e => by cases e; exact ⟨_, rfl, h⟩
  | _ :: _, _ :: _, j + 1, _, .cons _ t, e => DaL.at2 (j := j) t e
  | [], [], _, _, .nil, e => by simp at e
theorem DaL.drop {H : Hp} : ∀ {xs : List V} {ds : List PyData} (n : Nat), DaL H xs ds → DaL H (xs.drop n) (ds.drop n)
  | _, _, 0, h => h
  | [], [], _ + 1, .nil => .nil
  | _ :: _, _ :: _, n + 1, .cons _ t => DaL.drop n t
/-- the chances that are drawn -/
def chTab : Nat → List (List (Int × Int))
  | 1 => [[(1, 1)]]
  | 2 => [[(1, 2), (1, 2)], [(1, 3), (2, 3)], [(3, 4), (1, 4)], [(1, 6), (5, 6)]]
  | 3 => [[(1, 3), (1, 3), (1, 3)], [(1, 2), (1, 4), (1, 4)], [(1, 6), (1, 3), (1, 2)], [(1, 4), (1, 2), (1, 4)]]
  | _ => []
def prL (ps : List (Int × Int)) : PyData := .list (ps.map frD)
def spSomeP (K : PySem.W.Frag) : Sp := fun vs H Q _ => ∃ (d l : Addr) (ys : List V) (n : Int), vs = [.ref d, .ref l, .int n] ∧ DiceAt H d ∧ SqL K H l ys ∧ l ≠ d ∧ ys.length ≤ 1000 ∧ 0 ≤ n ∧ n ≤ 1000 ∧
  ∀ p us rest H', (us ++ rest).Perm ys → us.length = min n.toNat ys.length → DiceAt H' d → Fr d H H' → H p = none → H' p = some (.lst us) → Q (.ref p) H'
def spChances : Sp := fun vs H Q _ => ∃ (d : Addr) (n : Nat), vs = [.ref d, .int n] ∧ DiceAt H d ∧ 1 ≤ n ∧ n ≤ 3 ∧
  ∀ v ps H', ps ∈ chTab n → Da (sans H' d) v (prL ps) → DiceAt H' d → Fr d H H' → Q v H'
end Ow
/-! Drawn moves and games: tuples alone, which stand whatever lists change. -/
namespace Ow
open PySem PySem.Spec PyProof.Rows L2
/-- the heap's tuples alone -/
def tu (H : Hp) : Hp := fun b => match H b with
  | some (.tup xs) => some (.tup xs)
  | _ => none
theorem tu_inv {H : Hp} {b : Addr} {o : HO} (e : tu H b = some o) : ∃ xs, o = .tup xs ∧ H b = some (.tup xs) := by
  unfold tu at e
  split at e
  · rename_i xs h
    exact ⟨xs, (Option.some.inj e).symm, h⟩
  · cases e
theorem tu_sub {H : Hp} : Same (tu H) H := fun b o e => by
  obtain ⟨xs, rfl, h⟩ := tu_inv e
  exact h
theorem tu_at {H : Hp} {p : Addr} {xs : List V} (e : H p = some (.tup xs)) : tu H p = some (.tup xs) := by
  unfold tu
  rw [e]
theorem tu_same {H H' : Hp} (s : Same H H') : Same (tu H) (tu H') := fun b o e => by
  obtain ⟨xs, rfl, h⟩ := tu_inv e
  exact tu_at (s _ _ h)
theorem tu_fr {H H' : Hp} {d : Addr} (f : Fr d H H') (D : DiceAt H d) : Same (tu H) (tu H') := fun b o e => by
  obtain ⟨xs, rfl, h⟩ := tu_inv e
  refine tu_at (f _ _ h fun z => ?_)
  obtain ⟨_, _, _, D⟩ := D
  rw [z, D] at h
  cases h
theorem tu_mut {H : Hp} {p : Addr} {xs : List V} {o : HO} (h : H p = some (.lst xs)) : Same (tu H) (tu (upd H p o)) := fun b u e => by
  obtain ⟨ys, rfl, e1⟩ := tu_inv e
  refine tu_at ?_
  rw [upd_ne (fun z => by rw [z, h] at e1; cases e1)]
  exact e1
theorem tu_new {H : Hp} {p : Addr} {o : HO} (h : H p = none) : Same (tu H) (tu (upd H p o)) := tu_same (same_new h)
theorem tu_sans {H : Hp} {d : Addr} (D : DiceAt H d) : Same (tu H) (sans H d) := fun b o e => by
  obtain ⟨xs, rfl, e1⟩ := tu_inv e
  refine sans_at (fun z => ?_) e1
  obtain ⟨_, _, _, D⟩ := D
  rw [z, D] at e1
  cases e1
mutual
/-- no list and no dict in it -/
def tupO : PyData → Bool
  | .list _ => false
  | .dict _ => false
  | .tuple l => tupOs l
  | _ => true
def tupOs : List PyData → Bool
  | [] => true
  | x :: l => tupO x && tupOs l
end
mutual
theorem Da.tu {G H : Hp} (s : Same G H) {v : V} {x : PyData} : Da G v x → tupO x = true → Da (tu H) v x
  | .non, _ => .non
  | .bl b, _ => .bl b
  | .int i, _ => .int i
  | .str z, _ => .str z
  | .lst e h, z => by cases z
  | .tup e h, z => .tup (tu_at (s _ _ e)) (DaL.tu s h z)
  | .dct e, z => by cases z
  | .dcx e, z => by cases z
theorem DaL.tu {G H : Hp} (s : Same G H) {v : List V} {x : List PyData} : DaL G v x → tupOs x = true → DaL (Ow.tu H) v x
  | .nil, _ => .nil
  | .cons h t, z => .cons (Da.tu s h (Bool.and_eq_true_iff.mp z).1) (DaL.tu s t (Bool.and_eq_true_iff.mp z).2)
end
/-! ### lists of things that are told one by one -/
section
variable {α β : Type} {F : α → β → Prop}
theorem pr_perm {xs ys : List α} (p : ys.Perm xs) : ∀ {ks : List β}, Paired F xs ks → ∃ ks', Paired F ys ks' ∧ ks'.Perm ks := by
  suffices h : ∀ {xs ys : List α}, xs.Perm ys → ∀ {ks : List β}, Paired F xs ks → ∃ ks', Paired F ys ks' ∧ ks'.Perm ks by
    intro ks h'
    exact h p.symm h'
  intro xs ys p
  induction p with
  | nil => exact fun h => ⟨_, h, List.Perm.refl _⟩
  | cons x _ ih =>
    intro ks h
    cases h with
    | cons h t =>
    obtain ⟨ks', h1, h2⟩ := ih t
    exact ⟨_ :: ks', .cons h h1, h2.cons _⟩
  | swap x y l =>
    intro ks h
    cases h with
    | cons h t =>
    cases t with
    | cons h2 t =>
    exact ⟨_, .cons h2 (.cons h t), List.Perm.swap _ _ _⟩
  | trans _ _ ih1 ih2 =>
    intro ks h
    obtain ⟨k1, a1, b1⟩ := ih1 h
    obtain ⟨k2, a2, b2⟩ := ih2 a1
    exact ⟨k2, a2, b2.trans b1⟩
theorem pr_app : ∀ {xs ys : List α} {ks ls : List β}, Paired F xs ks → Paired F ys ls → Paired F (xs ++ ys) (ks ++ ls)
  | [], _, [], _, .nil, h => h
  | _ :: _, _, _ :: _, _, .cons h t, h2 => .cons h (pr_app t h2)
theorem pr_split : ∀ {xs ys : List α} {ks : List β}, Paired F (xs ++ ys) ks → ∃ k1 k2, ks = k1 ++ k2 ∧ Paired F xs k1 ∧ Paired F ys k2
  | [], _, ks, h => ⟨[], ks, rfl, .nil, h⟩
  | _ :: xs, ys, _ :: ks, .cons h t => by
    obtain ⟨k1, k2, rfl, h1, h2⟩ := pr_split (xs := xs) t
    exact ⟨_ :: k1, k2, rfl, .cons h h1, h2⟩
theorem pr_at : ∀ {xs : List α} {ks : List β} {j : Nat} {x : α}, Paired F xs ks → xs[j]? = some x → ∃ k, ks[j]? = some k ∧ F x k
  | _ :: _, _ :: _, 0, _, .cons h _, e => by cases e; exact ⟨_, rfl, h⟩
  | _ :: _, _ :: _, j + 1, _, .cons _ t, e => pr_at (j := j) t e
  | [], [], _, _, .nil, e => by simp at e
theorem pr_at2 : ∀ {xs : List α} {ks : List β} {j : Nat} {k : β}, Paired F xs ks → ks[j]? = some k → ∃ x, xs[j]? = some x ∧ F x k
  | _ :: _, _ :: _, 0, _, .cons h _, e => by cases e; exact ⟨_, rfl, h⟩
  | _ :: _, _ :: _, j + 1, _, .cons _ t, e => pr_at2 (j := j) t e
  | [], [], _, _, .nil, e => by simp at e
theorem pr_mem : ∀ {xs : List α} {ks : List β} {x : α}, Paired F xs ks → x ∈ xs → ∃ k ∈ ks, F x k
  | _ :: _, _ :: _, x, .cons h t, m => by
    rcases List.mem_cons.mp m with rfl | m
    · exact ⟨_, List.mem_cons_self, h⟩
    · obtain ⟨k, mk, hk⟩ := pr_mem t m
      exact ⟨k, List.mem_cons_of_mem _ mk, hk⟩
theorem pr_map {γ : Type} {f : γ → β} : ∀ {xs : List α} {ks : List γ}, Paired F xs (ks.map f) → Paired (fun x k => F x (f k)) xs ks
  | [], [], .nil => .nil
  | _ :: _, _ :: _, .cons h t => .cons h (pr_map t)
end
theorem DaL.pr {H : Hp} {β : Type} {f : β → PyData} : ∀ {xs : List V} {ks : List β}, Paired (fun v k => Da H v (f k)) xs ks → DaL H xs (ks.map f)
  | [], [], .nil => .nil
  | _ :: _, _ :: _, .cons h t => .cons h (DaL.pr t)
theorem DaL.pr' {H : Hp} {β : Type} {f : β → PyData} : ∀ {xs : List V} {ks : List β}, DaL H xs (ks.map f) → Paired (fun v k => Da H v (f k)) xs ks
  | [], [], .nil => .nil
  | _ :: _, _ :: _, .cons h t => .cons h (DaL.pr' t)
abbrev Mv := (Int × Int) × (Int × Int)
def mvD (m : Mv) : PyData := .tuple [.int m.1.1, .int m.1.2, .tuple [.int m.2.1, .int m.2.2]]
def msD (ms : List Mv) : PyData := .tuple (ms.map mvD)
def gmD (g : List (List Mv)) : PyData := .tuple (g.map msD)
theorem msD_tup : ∀ ms : List Mv, tupOs (ms.map mvD) = true
  | [] => rfl
  | _ :: r => msD_tup r
theorem gmD_tup : ∀ g : List (List Mv), tupOs (g.map msD) = true
  | [] => rfl
  | a :: r => by
    show (tupOs (a.map mvD) && tupOs (r.map msD)) = true
    rw [msD_tup, gmD_tup]
    rfl
theorem frD_tup : ∀ ps : List (Int × Int), tupOs (ps.map frD) = true
  | [] => rfl
  | _ :: r => frD_tup r
/-- a chance that is drawn -/
structure GoodC (c : Int × Int) : Prop where
  pos : 0 < c.1
  le : c.1 ≤ c.2
  sm : c.2 ≤ 12
  gcd : Nat.gcd c.1.natAbs c.2.natAbs = 1
structure MvOk (n : Nat) (m : Mv) : Prop where
  t0 : 0 ≤ m.1.1
  tn : m.1.1 < n
  g0 : -2 ≤ m.1.2
  g1 : m.1.2 ≤ 2
  ch : GoodC m.2
/-- moves that are drawn -/
structure MsOk (n : Nat) (ms : List Mv) : Prop where
  l1 : 1 ≤ ms.length
  l3 : ms.length ≤ 3
  ok : ∀ m ∈ ms, MvOk n m
  asc : ms.Pairwise fun a b => SrtO.lexB a.1 b.1 = true
  sum : sumP (ms.map (·.2)) = (1, 1)
instance (c : Int × Int) : Decidable (GoodC c) := decidable_of_iff (0 < c.1 ∧ c.1 ≤ c.2 ∧ c.2 ≤ 12 ∧ Nat.gcd c.1.natAbs c.2.natAbs = 1) ⟨fun h => ⟨h.1, h.2.1, h.2.2.1, h.2.2.2⟩, fun h => ⟨h.1, h.2, h.3, h.4⟩⟩
theorem chTab_ok : ∀ n, 1 ≤ n → n ≤ 3 → ∀ ps ∈ chTab n, ps.length = n ∧ (∀ c ∈ ps, GoodC c) := by
  intro n h1 h3
  have : n = 1 ∨ n = 2 ∨ n = 3 := by omega
  rcases this with rfl | rfl | rfl <;> decide +kernel
theorem sum_one1 : ∀ ps ∈ chTab 1, ∀ a ∈ ps, sumP [a] = (1, 1) := by decide +kernel
theorem sum_one2 : ∀ ps ∈ chTab 2, ∀ a ∈ ps, ∀ b ∈ ps, [a, b].isPerm ps = true → sumP [a, b] = (1, 1) := by decide +kernel
theorem sum_one3 : ∀ ps ∈ chTab 3, ∀ a ∈ ps, ∀ b ∈ ps, ∀ c ∈ ps, [a, b, c].isPerm ps = true → sumP [a, b, c] = (1, 1) := by decide +kernel
theorem sum_perm {n : Nat} (h1 : 1 ≤ n) (h3 : n ≤ 3) {ps qs : List (Int × Int)} (hp : ps ∈ chTab n) (p : qs.Perm ps) : sumP qs = (1, 1) := by
  have hl := (chTab_ok n h1 h3 ps hp).1
  rw [← p.length_eq] at hl
  have hm : ∀ c ∈ qs, c ∈ ps := fun c hc => p.mem_iff.mp hc
  have hi : qs.isPerm ps = true := List.isPerm_iff.mpr p
  have : n = 1 ∨ n = 2 ∨ n = 3 := by omega
  rcases this with rfl | rfl | rfl
  · match qs, hl, hm, hi with
    | [a], _, hm, hi => exact sum_one1 ps hp a (hm a (by simp))
  · match qs, hl, hm, hi with
    | [a, b], _, hm, hi => exact sum_one2 ps hp a (hm a (by simp)) b (hm b (by simp)) hi
  · match qs, hl, hm, hi with
    | [a, b, c], _, hm, hi => exact sum_one3 ps hp a (hm a (by simp)) b (hm b (by simp)) c (hm c (by simp)) hi
/-- the keys that moves are drawn of -/
def kD (k : Int × Int) : PyData := .tuple [.int k.1, .int k.2]
def kS (n : Nat) (g : Int) : List (Int × Int) := (List.range n).map fun (t : Nat) => ((t : Int), g)
def keysL (n : Nat) (a b : Int) : List (Int × Int) := (kS n 0 ++ kS n 1) ++ kS n (-1) ++ [(a, 2), (b, -2)]
theorem kS_nodup (n : Nat) (g : Int) : (kS n g).Nodup := by
  unfold kS
  rw [List.Nodup, List.pairwise_map]
  exact List.Pairwise.imp (fun h e => h (by have : ((_ : Nat) : Int) = ((_ : Nat) : Int) := congrArg Prod.fst e; omega)) List.nodup_range
theorem kS_mem {n : Nat} {g : Int} {k : Int × Int} (h : k ∈ kS n g) : 0 ≤ k.1 ∧ k.1 < n ∧ k.2 = g := by
  obtain ⟨t, ht, rfl⟩ := List.mem_map.mp h
  have := List.mem_range.mp ht
  exact ⟨by show (0 : Int) ≤ (t : Int); omega, by show (t : Int) < n; omega, rfl⟩
theorem keysL_nodup (n : Nat) (a b : Int) : (keysL n a b).Nodup := by
  unfold keysL
  refine List.nodup_append.mpr ⟨List.nodup_append.mpr ⟨List.nodup_append.mpr ⟨kS_nodup _ _, kS_nodup _ _, ?_⟩, kS_nodup _ _, ?_⟩, ?_, ?_⟩
  · intro x hx y hy e
    have h1 := (kS_mem hx).2.2
    have h2 := (kS_mem hy).2.2
    rw [e] at h1
    omega
  · intro x hx y hy e
    have h2 := (kS_mem hy).2.2
    rw [e] at hx
    rcases List.mem_append.mp hx with hx | hx <;> (have h1 := (kS_mem hx).2.2; omega)
  · simp
  · intro x hx y hy e
    rw [e] at hx
    have h2 : y.2 = 2 ∨ y.2 = -2 := by
      rcases List.mem_cons.mp hy with rfl | hy
      · exact .inl rfl
      · rw [List.mem_singleton.mp hy]; exact .inr rfl
    rcases List.mem_append.mp hx with hx | hx
    · rcases List.mem_append.mp hx with hx | hx <;> (have h1 := (kS_mem hx).2.2; omega)
    · have h1 := (kS_mem hx).2.2
      omega
theorem keysL_ok {n : Nat} {a b : Int} (ha : 0 ≤ a) (ha' : a < n) (hb : 0 ≤ b) (hb' : b < n) {k : Int × Int} (h : k ∈ keysL n a b) : 0 ≤ k.1 ∧ k.1 < n ∧ -2 ≤ k.2 ∧ k.2 ≤ 2 := by
  rcases List.mem_append.mp h with h | h
  · rcases List.mem_append.mp h with h | h
    · rcases List.mem_append.mp h with h | h <;> (have := kS_mem h; omega)
    · have := kS_mem h
      omega
  · rcases List.mem_cons.mp h with rfl | h
    · exact ⟨ha, ha', by show (-2 : Int) ≤ 2; decide, by show (2 : Int) ≤ 2; decide⟩
    · rw [List.mem_singleton.mp h]
      exact ⟨hb, hb', by show (-2 : Int) ≤ -2; decide, by show (-2 : Int) ≤ 2; decide⟩
theorem keysL_len (n : Nat) (a b : Int) : (keysL n a b).length = 3 * n + 2 := by
  unfold keysL kS
  simp only [List.length_append, List.length_map, List.length_range, List.length_cons, List.length_nil]
  omega
/-- the key of a thing that stands in the heap -/
def key3 (H : Hp) (v : V) : Int × Int := match v with
  | .ref a => match H a with
    | some (.tup (.int x :: .int y :: _)) => (x, y)
    | _ => (0, 0)
  | _ => (0, 0)
theorem key3_at {H : Hp} {a : Addr} {x y : Int} {r : List V} (e : H a = some (.tup (.int x :: .int y :: r))) : key3 H (.ref a) = (x, y) := by
  show (match H a with | some (.tup (.int x :: .int y :: _)) => (x, y) | _ => (0, 0)) = _
  rw [e]
def rTupQ (K : PySem.W.Frag) : List V → Hp → VK → Prop := fun xs H Q => ∃ p ys, xs = [.ref p] ∧ ((SqL K H p ys ∧ ∀ l, H l = none → Q (.ref l) (upd H l (.tup ys))) ∨ (SqT K H p ys ∧ Q (.ref p) H))
theorem c_tupQ {X : Cx} {K : PySem.W.Frag} (h : X.K = K := by rfl) : CallR X (.type "tuple") (rTupQ K) := h ▸ call_tuple_of
theorem c_sorted3 {X : Cx} {K : PySem.W.Frag} (h : X.K = K := by rfl) : CallR X (.builtin "sorted") (rSorted3 K) := h ▸ cr_sorted3
theorem o_catT {X : Cx} {K : PySem.W.Frag} (h : X.K = K := by rfl) : OpR X (binaryOp .Add) (rCatT K) := h ▸ op_catT
theorem pr_pairwise {α β : Type} {F : α → β → Prop} {R : α → α → Prop} {S : β → β → Prop} (hs : ∀ x y k l, F x k → F y l → R x y → S k l) : ∀ {xs : List α} {ks : List β}, Paired F xs ks → xs.Pairwise R → ks.Pairwise S
  | [], [], .nil, _ => .nil
  | x :: xs, k :: ks, .cons h t, p => by
    obtain ⟨p1, p2⟩ := List.pairwise_cons.mp p
    refine List.pairwise_cons.mpr ⟨fun l ml => ?_, pr_pairwise hs t p2⟩
    obtain ⟨j, ej⟩ := List.getElem?_of_mem ml
    obtain ⟨y, ey, hy⟩ := pr_at2 t ej
    exact hs x y k l h hy (p1 y (List.mem_of_getElem? ey))
theorem nodup_at {α : Type} : ∀ {l : List α} {i j : Nat} {x : α}, l.Nodup → l[i]? = some x → l[j]? = some x → i = j
  | _ :: _, 0, 0, _, _, _, _ => rfl
  | a :: l, 0, j + 1, x, h, e1, e2 => by
    cases e1
    exact absurd (List.mem_of_getElem? (show l[j]? = some _ from e2)) (List.nodup_cons.mp h).1
  | a :: l, i + 1, 0, x, h, e1, e2 => by
    cases e2
    exact absurd (List.mem_of_getElem? (show l[i]? = some _ from e1)) (List.nodup_cons.mp h).1
  | a :: l, i + 1, j + 1, x, h, e1, e2 => congrArg (· + 1) (nodup_at (List.nodup_cons.mp h).2 (show l[i]? = some x from e1) (show l[j]? = some x from e2))
  | [], _, _, _, _, e1, _ => by simp at e1
theorem pr_inj {α β γ : Type} {F : α → β → Prop} {f : α → γ} {g : β → γ} (hf : ∀ x k, F x k → f x = g k) {xs : List α} {ks : List β} (h : Paired F xs ks) (nd : (ks.map g).Nodup) : ∀ x ∈ xs, ∀ y ∈ xs, f x = f y → x = y := by
  intro x mx y my e
  obtain ⟨i, ei⟩ := List.getElem?_of_mem mx
  obtain ⟨j, ej⟩ := List.getElem?_of_mem my
  obtain ⟨k, ek, hk⟩ := pr_at h ei
  obtain ⟨l, el, hl⟩ := pr_at h ej
  have q : g k = g l := by rw [← hf x k hk, ← hf y l hl, e]
  have := nodup_at nd (show (ks.map g)[i]? = some (g k) by rw [List.getElem?_map, ek]; rfl) (show (ks.map g)[j]? = some (g k) by rw [List.getElem?_map, el, q]; rfl)
  subst this
  rw [ei] at ej
  exact Option.some.inj ej
/-- a comprehension that makes keys -/
theorem keys_lc {a0 a2 a3 a4 a5 a6 : Option V} {n : Nat} {g : Int} {te : TE} {H : Hp} {Q : VK} (n3 : n ≤ 3) (hte : ∀ σ H Q, Q (.int g) H → te σ H Q)
    (k : ∀ D acc H', H D = none → H' D = some (.lst acc) → Paired (fun v k => Da (tu H') v (kD k)) acc (kS n g) → Same H H' → Q (.ref D) H') :
    tLc (iRng1 (tCons (tVar 1) tNil)) (gName 5) tYes (tTup (tCons (tVar 5) (tCons te tNil))) [5] [a0, some (.int n), a2, a3, a4, a5, a6] H Q := by
  refine y_lc (y_rng1 (y_cons (y_var rfl (y_nil ?_))))
  refine ⟨n, rfl, by omega, by omega, fun D nD => lc_range (fun j G => ∃ acc, G D = some (.lst acc) ∧ Paired (fun v k => Da (tu G) v (kD k)) acc ((kS n g).take j) ∧ acc.length = j ∧ Same H G) ⟨[], upd_same, .nil, rfl, same_new nD⟩ ?_ ?_⟩
  · rintro j G hj ⟨acc, eD, hp, hl, s⟩
    refine y_name ⟨rfl, y_yes (y_t rfl (y_tup (y_cons (y_var rfl (y_cons (hte _ _ _ (y_nil ⟨by show 2 ≤ sizeLine; decide, fun p np => ?_⟩))))))) ⟩
    have hj : j < n := by omega
    have np' : H p = none := by
      cases q : H p with
      | none => rfl
      | some o => rw [s _ _ q] at np; cases np
    have nDp : D ≠ p := ne_of_none eD np
    refine ⟨acc, by rw [upd_ne nDp]; exact eD, sz_lt (by omega), acc ++ [.ref p], upd_same, ?_, by rw [List.length_append, hl]; rfl, same_mut (s.trans (same_new np)) nD⟩
    have ek : (kS n g)[j]? = some ((j : Int), g) := by
      unfold kS
      rw [List.getElem?_map, List.getElem?_range hj]
      rfl
    rw [List.take_add_one, ek]
    refine Paired.snoc (hp.mono fun v k h => ?_) ?_
    · refine h.same ((tu_new np).trans (tu_mut (xs := acc) (by rw [upd_ne nDp]; exact eD)))
    · refine .tup (tu_at (by rw [upd_ne nDp.symm]; exact upd_same)) (.cons ?_ (.cons (.int _) .nil))
      have e : (0 : Int) + (j : Int) = (j : Int) := by omega
      rw [e]
      exact .int _
  · rintro G ⟨acc, eD, hp, hl, s⟩
    have hk : (kS n g).take (n : Int).toNat = kS n g := List.take_of_length_le (by unfold kS; rw [List.length_map, List.length_range]; omega)
    rw [hk] at hp
    exact k D acc G nD eD hp s
/-- moves that were put in order -/
theorem moves_ok {n m : Nat} {a b : Int} {ks k2 : List (Int × Int)} {ps : List (Int × Int)} {ms : List Mv} (n3 : n ≤ 3) (ha : 0 ≤ a) (ha' : a < n) (hb : 0 ≤ b) (hb' : b < n) (hp : (ks ++ k2).Perm (keysL n a b)) (m1 : 1 ≤ m) (m3 : m ≤ 3) (hm : ks.length = m) (hps : ps ∈ chTab m)
    (pm : ms.Perm (ks.zip ps)) (hs : ms.Pairwise fun x y => SrtO.lexB y.1 x.1 = false) : MsOk n ms := by
  have hl := chTab_ok m m1 m3 ps hps
  have nd : ks.Nodup := ((List.nodup_append.mp (hp.nodup_iff.mpr (keysL_nodup n a b))).1)
  have e1 : (ks.zip ps).map Prod.fst = ks := List.map_fst_zip (by omega)
  have e2 : (ks.zip ps).map Prod.snd = ps := List.map_snd_zip (by omega)
  have lz : (ks.zip ps).length = m := by rw [List.length_zip]; omega
  have nm : (ms.map (·.1)).Nodup := by
    refine (List.Perm.nodup_iff (pm.map _)).mpr ?_
    rw [show (ks.zip ps).map (fun x => x.1) = ks from e1]
    exact nd
  refine ⟨by rw [pm.length_eq]; omega, by rw [pm.length_eq]; omega, fun x mx => ?_, ?_, ?_⟩
  · have mz := pm.mem_iff.mp mx
    have hk : x.1 ∈ ks := by rw [← e1]; exact List.mem_map.mpr ⟨x, mz, rfl⟩
    have hc : x.2 ∈ ps := by rw [← e2]; exact List.mem_map.mpr ⟨x, mz, rfl⟩
    obtain ⟨q1, q2, q3, q4⟩ := keysL_ok ha ha' hb hb' (hp.mem_iff.mp (List.mem_append_left _ hk))
    exact ⟨q1, q2, q3, q4, hl.2 _ hc⟩
  · have nm' : ms.Pairwise fun x y => x.1 ≠ y.1 := List.pairwise_map.mp nm
    refine (hs.and nm').imp fun {x y} h => ?_
    have h1 := SrtO.lexB_no.mp h.1
    have h2 := h.2
    refine SrtO.lexB_iff.mpr ?_
    have : ¬ (x.1.1 = y.1.1 ∧ x.1.2 = y.1.2) := fun z => h2 (Prod.ext z.1 z.2)
    omega
  · refine sum_perm m1 m3 hps ?_
    have := pm.map Prod.snd
    rw [e2] at this
    exact this
def spLMoves : Sp := fun vs H Q _ => ∃ (d : Addr) (n : Nat), vs = [.ref d, .int n] ∧ DiceAt H d ∧ 1 ≤ n ∧ n ≤ 3 ∧
  ∀ v ms H', MsOk n ms → Da (tu H') v (msD ms) → DiceAt H' d → Fr d H H' → Q v H'
end Ow
namespace Ow
open PySem PySem.Spec PyProof.Rows L2
abbrev Gm := List (List Mv)
structure GmOk (n : Nat) (g : Gm) : Prop where
  len : g.length = n
  ok : ∀ ms ∈ g, MsOk n ms
def spLGame : Sp := fun vs H Q _ => ∃ (d : Addr) (n : Nat), vs = [.ref d, .int n] ∧ DiceAt H d ∧ 1 ≤ n ∧ n ≤ 3 ∧
  ∀ v g H', GmOk n g → Da (tu H') v (gmD g) → DiceAt H' d → Fr d H H' → Q v H'
/-- a plain house that stands in the heap -/
def HouAt (H : Hp) (v : V) (hs : List (Str × Gm)) : Prop := ∃ p kvs, v = .ref p ∧ H p = some (.dK kvs) ∧ Paired (fun (kv : Key × V) (g : Str × Gm) => kv.1 = Sum.inr g.1 ∧ Da (tu H) kv.2 (gmD g.2)) kvs hs
structure HsOk (hs : List (Str × Gm)) : Prop where
  l1 : 1 ≤ hs.length
  l3 : hs.length ≤ 3
  nd : (hs.map (·.1)).Nodup
  ok : ∃ n, 1 ≤ n ∧ n ≤ 3 ∧ ∀ g ∈ hs, GmOk n g.2
theorem HouAt.fr {H H' : Hp} {d : Addr} {v : V} {hs : List (Str × Gm)} (h : HouAt H v hs) (f : Fr d H H') (D : DiceAt H d) : HouAt H' v hs := by
  obtain ⟨p, kvs, rfl, e, pr⟩ := h
  refine ⟨p, kvs, rfl, f _ _ e fun z => ?_, pr.mono fun a b q => ⟨q.1, q.2.same (tu_fr f D)⟩⟩
  obtain ⟨_, _, _, D⟩ := D
  rw [z, D] at e
  cases e
theorem merge_nd : ∀ {more kvs : List (Key × V)}, ((kvs ++ more).map (·.1)).Nodup → mergeK kvs more = kvs ++ more
  | [], kvs, _ => by rw [List.append_nil]; rfl
  | p :: r, kvs, h => by
    have hn : (kvs.any fun kv => decide (kv.1 = p.1)) = false := by
      rw [List.any_eq_false]
      intro x mx q
      have q := of_decide_eq_true q
      rw [List.map_append] at h
      exact (List.nodup_append.mp h).2.2 x.1 (List.mem_map.mpr ⟨x, mx, rfl⟩) p.1 (List.mem_map.mpr ⟨p, List.mem_cons_self, rfl⟩) q
    have e : putK kvs p.1 p.2 = kvs ++ [p] := by
      unfold putK
      rw [if_neg (by rw [hn]; exact Bool.false_ne_true)]
    show mergeK (putK kvs p.1 p.2) r = _
    rw [e, merge_nd (more := r) (kvs := kvs ++ [p]) (by rw [List.append_assoc]; exact h), List.append_assoc]
    rfl
theorem hou_keys {H : Hp} : ∀ {kvs : List (Key × V)} {hs : List (Str × Gm)}, Paired (fun (kv : Key × V) (g : Str × Gm) => kv.1 = Sum.inr g.1 ∧ Da (tu H) kv.2 (gmD g.2)) kvs hs → kvs.map (·.1) = (hs.map (·.1)).map Sum.inr
  | [], [], .nil => rfl
  | _ :: _, _ :: _, .cons h t => by
    rw [List.map_cons, List.map_cons, List.map_cons, h.1, hou_keys t]
theorem inr_nodup : ∀ {l : List Str}, l.Nodup → (l.map (Sum.inr : Str → Key)).Nodup := fun {l} h => by
  rw [List.Nodup, List.pairwise_map]
  exact h.imp fun q e => q (Sum.inr.inj e)
theorem hou_merge {H : Hp} {kvs : List (Key × V)} {hs : List (Str × Gm)} (h : Paired (fun (kv : Key × V) (g : Str × Gm) => kv.1 = Sum.inr g.1 ∧ Da (tu H) kv.2 (gmD g.2)) kvs hs) (nd : (hs.map (·.1)).Nodup) : mergeK [] kvs = kvs := by
  have := merge_nd (more := kvs) (kvs := []) (by rw [List.nil_append, hou_keys h]; exact inr_nodup nd)
  rw [this, List.nil_append]
def spHouse : Sp := fun vs H Q _ => ∃ d, vs = [.ref d] ∧ DiceAt H d ∧ ∀ v hs H', HsOk hs → HouAt H' v hs → DiceAt H' d → Fr d H H' → Q v H'
theorem c_sortedS {X : Cx} {K : PySem.W.Frag} (h : X.K = K := by rfl) : CallR X (.builtin "sorted") (rSortedS K) := h ▸ cr_sortedS
def rDictP (K : PySem.W.Frag) : List V → Hp → VK → Prop := fun xs H Q => ∃ (a : Addr) (ps : List Addr) (kvs : List (Key × V)), xs = [.ref a] ∧ SqL K H a (ps.map V.ref) ∧ Paired (fun p kv => SqT K H p [kV kv.1, kv.2]) ps kvs ∧ ∀ p, H p = none → Q (.ref p) (upd H p (.dK (mergeK [] kvs)))
theorem c_dictP {X : Cx} {K : PySem.W.Frag} (hc : X.calm = true) (h : X.K = K := by rfl) : CallR X (.type "dict") (rDictP K) := h ▸ call_dictP hc
def houseNames : List Str := ["a", "b", "c", "e", "f", "k", "coin"]
theorem str_back {us : List V} {xs : List Str} (p : Paired (fun (v : V) (s : Str) => v = .str s) us xs) : us = xs.map V.str := by
  induction p with
  | nil => rfl
  | cons h _ ih => rw [h, ih]; rfl
theorem str_paired : ∀ xs : List Str, Paired (fun (v : V) (s : Str) => v = .str s) (xs.map V.str) xs
  | [] => .nil
  | _ :: r => .cons rfl (str_paired r)
end Ow
/-! The few known houses. -/
namespace Ow
open PySem PySem.Spec PyProof.Rows L2
theorem tu_mut' {H : Hp} {p : Addr} {o : HO} (h : ∀ xs, H p ≠ some (.tup xs)) : Same (tu H) (tu (upd H p o)) := fun b u e => by
  obtain ⟨ys, rfl, e1⟩ := tu_inv e
  refine tu_at ?_
  rw [upd_ne (fun z => h ys (by rw [← z]; exact e1))]
  exact e1
theorem HouAt.same {H H' : Hp} {v : V} {hs : List (Str × Gm)} (h : HouAt H v hs) (s : Same H H') : HouAt H' v hs := by
  obtain ⟨p, kvs, rfl, e, pr⟩ := h
  exact ⟨p, kvs, rfl, s _ _ e, pr.mono fun a b q => ⟨q.1, q.2.same (tu_same s)⟩⟩
/-- a display of two games -/
theorem dis2 {d : Addr} {H : Hp} {σ : L2.St} {Q : VK} {a b : Str} {te1 te2 : TE} (g1 g2 : Gm) (ab : a ≠ b) (h1 : DaE d H σ te1 (gmD g1)) (h2 : DaE d H σ te2 (gmD g2)) (k : ∀ v H', Same H H' → HouAt H' v [(a, g1), (b, g2)] → Q v H') :
    tDisp [(tC (.str a), te1), (tC (.str b), te2)] σ H Q := fun p np => by
  refine h1 _ _ (same_new np) fun v1 H1 s1 d1 => ?_
  refine h2 _ _ ((same_new np).trans s1) fun v2 H2 s2 d2 => ?_
  have ep : H2 p = some (.dK []) := s2 _ _ (s1 _ _ upd_same)
  have em : mergeK [] [((Sum.inr a : Key), v1), (Sum.inr b, v2)] = [(Sum.inr a, v1), (Sum.inr b, v2)] := merge_nd (kvs := []) (by
    show [(Sum.inr a : Key), Sum.inr b].Nodup
    simp [ab])
  refine ⟨ep, [(Sum.inr a, v1), (Sum.inr b, v2)], rfl, (show 2 ≤ 15 by decide), ?_⟩
  rw [em]
  have st : Same (tu H2) (tu (upd H2 p (.dK [(Sum.inr a, v1), (Sum.inr b, v2)]))) := tu_mut' fun xs z => by rw [ep] at z; cases z
  refine k _ _ (same_mut ((same_new np).trans (s1.trans s2)) np |>.trans (Same.refl _)) ⟨p, _, rfl, upd_same, .cons ⟨rfl, ?_⟩ (.cons ⟨rfl, ?_⟩ .nil)⟩
  · exact ((d1.same (sans_mono s2)).tu sans_sub (gmD_tup g1)).same st
  · exact (d2.tu sans_sub (gmD_tup g2)).same st
instance (n : Nat) (m : Mv) : Decidable (MvOk n m) := decidable_of_iff (0 ≤ m.1.1 ∧ m.1.1 < n ∧ -2 ≤ m.1.2 ∧ m.1.2 ≤ 2 ∧ GoodC m.2) ⟨fun h => ⟨h.1, h.2.1, h.2.2.1, h.2.2.2.1, h.2.2.2.2⟩, fun h => ⟨h.1, h.2, h.3, h.4, h.5⟩⟩
instance (n : Nat) (ms : List Mv) : Decidable (MsOk n ms) := decidable_of_iff (1 ≤ ms.length ∧ ms.length ≤ 3 ∧ (∀ m ∈ ms, MvOk n m) ∧ (ms.Pairwise fun a b => SrtO.lexB a.1 b.1 = true) ∧ sumP (ms.map (·.2)) = (1, 1)) ⟨fun h => ⟨h.1, h.2.1, h.2.2.1, h.2.2.2.1, h.2.2.2.2⟩, fun h => ⟨h.1, h.2, h.3, h.4, h.5⟩⟩
instance (n : Nat) (g : Gm) : Decidable (GmOk n g) := decidable_of_iff (g.length = n ∧ ∀ ms ∈ g, MsOk n ms) ⟨fun h => ⟨h.1, h.2⟩, fun h => ⟨h.1, h.2⟩⟩
def hSwap : List (Str × Gm) := [("c", [[((1, 1), (1, 1))], [((0, -1), (1, 1))]]), ("d", [[((0, 0), (1, 1))], [((0, 0), (1, 1))]])]
def hStay : List (Str × Gm) := [("c", [[((1, 0), (1, 1))], [((0, 0), (1, 1))]]), ("k", [[((0, 1), (1, 1))], [((1, -1), (1, 1))]])]
def mUp : List Mv := [((0, 1), (1, 2)), ((1, 1), (1, 2))]
def mDown : List Mv := [((0, -1), (1, 2)), ((1, -1), (1, 2))]
def hSee : List (Str × Gm) := [("e", [mUp, mDown]), ("f", [mDown, mUp])]
def hRise : List (Str × Gm) := [("a", [[((0, -1), (1, 2)), ((0, 1), (1, 2))]]), ("b", [[((0, -1), (2, 3)), ((0, 1), (1, 3))]])]
def gRests : Gm := [[((1, 1), (1, 4)), ((2, -1), (3, 4))], [((0, -1), (1, 4)), ((2, 1), (3, 4))], [((0, 1), (3, 4)), ((1, -1), (1, 4))]]
def gFair : Gm := [[((1, 1), (1, 2)), ((2, -1), (1, 2))], [((0, -1), (1, 2)), ((2, 1), (1, 2))], [((0, 1), (1, 2)), ((1, -1), (1, 2))]]
def hThree : List (Str × Gm) := [("a", gFair), ("b", gRests)]
theorem known_ok : HsOk hSwap ∧ HsOk hStay ∧ HsOk hSee ∧ HsOk hRise ∧ HsOk hThree :=
  ⟨⟨by decide, by decide, by decide +kernel, 2, by decide, by decide, by decide +kernel⟩, ⟨by decide, by decide, by decide +kernel, 2, by decide, by decide, by decide +kernel⟩, ⟨by decide, by decide, by decide +kernel, 2, by decide, by decide, by decide +kernel⟩,
    ⟨by decide, by decide, by decide +kernel, 1, by decide, by decide, by decide +kernel⟩, ⟨by decide, by decide, by decide +kernel, 3, by decide, by decide, by decide +kernel⟩⟩
end Ow
/-! sorted of a dict whose keys are pairs of ints. -/
namespace L2
open PySem PySem.Spec PyProof.Rows
def KeyAt (H : Hp) (v : V) (kv : List Key × V) : Prop := ∃ q i j, v = V.ref q ∧ kv.1 = [Sum.inl i, Sum.inl j] ∧ H q = some (.tup [.int i, .int j])
def rSortedDT : List V → Hp → VK → Prop := fun xs H Q => ∃ (a : Addr) (kvs : List (List Key × V)), xs = [V.ref a] ∧ H a = some (.dT kvs) ∧ (∀ kv ∈ kvs, ∃ i j : Int, kv.1 = [Sum.inl i, Sum.inl j]) ∧
  ∀ qs ys p, Paired (KeyAt H) qs kvs → SrtO.Srtd (ltP (Ow.key3 H)) ys → ys.Perm qs → H p = none → Q (.ref p) (upd H p (.lst ys))
theorem keyAt_of {H : Hp} : ∀ {kvs : List (List Key × V)} {xs : List (List Key × Addr × Value)}, KT H kvs xs → (∀ kv ∈ kvs, ∃ i j : Int, kv.1 = [Sum.inl i, Sum.inl j]) → Paired (KeyAt H) (xs.map fun x => V.ref x.2.1) kvs
  | [], [], .nil, _ => .nil
  | kv :: kvs, x :: xs, .cons h t, hk => by
    obtain ⟨i, j, e⟩ := hk kv List.mem_cons_self
    refine .cons ⟨x.2.1, i, j, rfl, e, ?_⟩ (keyAt_of t fun kv m => hk kv (List.mem_cons_of_mem _ m))
    have := h.2.1
    rw [e] at this
    exact this
section
variable {X : Cx}
theorem cr_sortedDT (hc : X.calm = true) : CallR X (.builtin "sorted") rSortedDT := by
  intro pins s σ H xs us Q I r q
  obtain ⟨a, kvs, ex, hd, hks, q⟩ := q
  subst ex
  obtain ⟨u, eu, rx⟩ := vals1 r
  subst eu
  cases rx
  obtain ⟨z, lo, ks, kt, o, es, ep, h1, h2, h3, h4, h5⟩ := (show ObjOk X.prog X.w H s.heap a (.dT kvs) from I.hok _ _ hd)
  have kt : KT H kvs ks := kt
  have hm : s.heap.DictRaw a es ep := ⟨o, h1, h2, h3⟩
  have lk : kvs.length = ks.length := Paired.length kt
  have le : es.size = ks.length := by
    have := congrArg List.length h4
    rw [List.length_map, Array.length_toList] at this
    exact this
  have hat := keyAt_of kt hks
  have hz : es.size ≤ sizeLine := by rw [le, ← lk]; exact z
  refine Calls.call_function_entry PyProof.Rows.kind_sorted PyProof.Rows.plain_sorted PyProof.Rows.entry_sorted (PyProof.Rows.args_sorted1 _) ?_
  unfold Builtin.«sorted»
  refine wpAny_bind (m := checkCount "sorted" 1 1 _) (wpAny_pure ?_)
  refine wpAny_bind (PySem.W.kdu_collect (A := X.A.in1) (PySem.KdlSrc.rawDict (es := es) (ep := ep) lo) (I.ok.hd hc) hm hz fun h' tk acc hk hacc => ?_)
  have hal : acc.toList = ks.map fun x => Value.ref x.2.1 := by
    refine List.ext_getElem? fun j => ?_
    have e4 : es.toList[j]? = (ks[j]?).map (entryOfKey (tupleKind (mixKind X.prog X.w))) := by rw [h4, List.getElem?_map]
    rw [List.getElem?_map, Array.getElem?_toList]
    cases e : ks[j]? with
    | none =>
      have : ks.length ≤ j := List.getElem?_eq_none_iff.mp e
      exact Array.getElem?_eq_none (by rw [hacc.1]; omega)
    | some x =>
      have hj : j < ks.length := (List.getElem?_eq_some_iff.mp e).1
      have hja : j < acc.size := by rw [hacc.1]; omega
      obtain ⟨hi, ev⟩ := hacc.2 j acc[j] (Array.getElem?_eq_getElem hja)
      rw [Array.getElem?_eq_getElem hja, ev]
      rw [e, Array.getElem?_toList, Array.getElem?_eq_getElem hi] at e4
      rw [Option.some.inj e4]
      rfl
  have I1 : Inv X pins σ H { s with heap := h', toks := tk } := I.kept hk
  have hlen : acc.toList.length ≤ sizeLine := by rw [hal, List.length_map, ← lk]; exact z
  refine wpAny_bind (wpAny_newList ?_ hlen)
  have hoL : (h'.push (seqObj "list" acc.toList.toArray 0)).get? h'.objs.size = some (seqObj "list" acc.toList.toArray 0) := Heap.get?_push_size _ rfl
  have I2 : Inv X pins σ H { s with heap := h'.push (seqObj "list" acc.toList.toArray 0), toks := tk } := I1.kept fun b o e => Heap.get?_push_of_some _ e
  show wpAny _ _ _ _ _ { s with heap := h'.push (seqObj "list" acc.toList.toArray 0), toks := tk }
  have hp : ∀ v ∈ acc.toList, Srt.IsPair (h'.push (seqObj "list" acc.toList.toArray 0)) v (Ow.key3 H (backV v)).1 (Ow.key3 H (backV v)).2 := by
    intro v hv
    rw [hal] at hv
    obtain ⟨x, mx, rfl⟩ := List.mem_map.mp hv
    obtain ⟨kv, _, qq, i, j, e1, _, e3⟩ := Ow.pr_mem hat (List.mem_map.mpr ⟨x, mx, rfl⟩)
    cases e1
    have ek : Ow.key3 H (backV (Value.ref x.2.1)) = (i, j) := Ow.key3_at e3
    rw [ek]
    obtain ⟨_, its2, r2, o2, ho, hc2, n, hd2⟩ := I2.hok _ _ e3
    obtain ⟨u1, u2, rfl, ri, rj⟩ := vals2 r2
    obtain ⟨t1, rfl⟩ := ri
    obtain ⟨t2, rfl⟩ := rj
    exact ⟨_, o2, t1, t2, n, rfl, ho, hc2, hd2⟩
  have hsort : 2 ≤ acc.toList.length → SrtO.SortableO X.prog X.w X.A.in1.in1 { s with heap := h'.push (seqObj "list" acc.toList.toArray 0), toks := tk } h'.objs.size acc.toList fun v u => SrtO.lexB (Ow.key3 H (backV v)) (Ow.key3 H (backV u)) := fun h2 => by
    refine SrtO.pairs_sortableO (k := fun u => Ow.key3 H (backV u)) (by omega) hp fun o e => ?_
    have e' : some o = some (seqObj "list" acc.toList.toArray 0) := e.symm.trans hoL
    cases e'
    intro c
    exact absurd (Value.type.inj c) (by decide)
  refine wpAny_bind (wpAny_holding (wpAny_call_entry PyProof.Rows.slot_list_sort ⟨_, hoL, rfl⟩ PyProof.Rows.entry_list_sort
    (SrtO.list_sort_ord (s := { s with heap := h'.push (seqObj "list" acc.toList.toArray 0), toks := tk }) (SrtO.swo_lex fun u => Ow.key3 H (backV u)) hoL hlen hsort fun out hs hb => ⟨_, rfl, ?_⟩)
    (PyProof.Rows.args_list_sort _)))
  obtain ⟨e', he'⟩ := PyProof.Rows.sortedHeap_at (vs := acc.toList) (out := out.toArray) hoL
  have href : ∀ u ∈ out, ∃ a, u = Value.ref a := fun u hu => by
    have := hb.perm.mem_iff.mp hu
    rw [hal] at this
    obtain ⟨x, _, rfl⟩ := List.mem_map.mp this
    exact ⟨_, rfl⟩
  have hpm : (out.map backV).Perm (ks.map fun x => V.ref x.2.1) := by
    have := hb.perm.map backV
    rw [hal, List.map_map] at this
    exact this
  have hl2 : (out.map backV).length ≤ sizeLine := by
    rw [hpm.length_eq, List.length_map, ← lk]
    exact z
  refine wpAny_pure ⟨_, rfl, .ref h'.objs.size, upd H h'.objs.size (.lst (out.map backV)), I1.laid (t' := tk) (fun b u e => ?_) (Nat.le_refl _)
    (show ObjOk X.prog X.w _ _ _ (.lst (out.map backV)) from ⟨hl2, out, e', vals_back href, he'⟩), rfl, q _ _ _ hat (SrtO.srtd_map hs) hpm (I1.hok.fresh (Nat.le_refl _))⟩
  have hb2 : b < h'.objs.size := Heap.lt_size e
  rw [PyProof.Rows.sortedHeap_old (Nat.ne_of_lt hb2) (by rw [size_push']; exact Nat.lt_succ_of_lt hb2)]
  exact Heap.get?_push_of_some _ e
end
/-! setdefault of a dict whose keys are tuples -/
section
variable {X : Cx} {pins : List (Addr × Obj)} {σ : St} {H : Hp} {s : Shared} {a b : Addr} {u r : Value} {d : V} {k : List Key} {A : Around} {E : Value → Shared → Prop}
theorem d_setdT {kvs : List (List Key × V)} {Q : Value → Shared → Prop} (hu : A.units + 1 < cLine) (I : Inv X pins σ H s) (e : H a = some (.dT kvs)) (eb : H b = some (.tup (k.map kV))) (rd : RelV d r) (hl : kvs.length < sizeLine)
    (h1 : ∀ v, valV kvs k = some v → ∀ (w' : Value) (s' : Shared), Inv X pins σ H s' → RelV v w' → Q w' s') (h2 : valV kvs k = none → ∀ (w' : Value) (s' : Shared), Inv X pins σ (upd H a (.dT (putK kvs k d))) s' → RelV d w' → Q w' s') :
    wpAny (model X.prog X.w) A (call (.builtin "dict.setdefault") [.ref a, .ref b, r]) Q E s := by
  obtain ⟨z, hd, xs, rel, dd⟩ := dt_of I.hok e
  have hz : xs.length ≤ sizeLine := by
    rw [← Paired.length rel]
    exact z
  have q := rel.val k
  refine call_setdefault_heap (hsz := hz) (tupleKind_room_in1 hu) (key_of I.hok eb) hd dd (fun p hp => ?_) fun hn h' dd' hs => ?_
  · rw [hp] at q
    cases q0 : valV kvs k with
    | none =>
      rw [q0] at q
      exact (show False from q).elim
    | some v0 =>
      rw [q0] at q
      exact h1 v0 q0 _ _ (I.tok _) q
  · rw [hn] at q
    cases q0 : valV kvs k with
    | some v0 =>
      rw [q0] at q
      exact (show False from q).elim
    | none =>
      have hl2 : (putK kvs k d).length ≤ sizeLine := by
        have := length_putK kvs k d
        omega
      obtain ⟨q, es, ep, hq, g2, g3, g4, _, g5⟩ := dd'
      refine h2 q0 _ _ (d_write (t' := _) I (by rw [e]; exact True.intro) hs ⟨q, hq⟩ ⟨hl2, hd, _, (rel.put k eb rd).keeps fun c ys ec => ?_, q, es, ep, hq, g2, g3, g4, g5⟩) rd
      rw [upd_ne (ne_of ec e (fun z => nomatch z))]
      exact ec
end
/-- d.setdefault(y, z), tuple keys -/
def tDSetdT (td ty tx : TE) : TE := fun σ H Q => td σ H fun x H1 => ∃ a, x = .ref a ∧ IsD H1 a ∧ ty σ H1 fun y H2 => tx σ H2 fun z H3 => ∃ (kvs : List (List Key × V)) (k : List Key) (b : Addr), H3 a = some (.dT kvs) ∧ y = .ref b ∧ H3 b = some (.tup (k.map kV)) ∧ kvs.length < sizeLine ∧
  (∀ v, valV kvs k = some v → Q v H3) ∧ (valV kvs k = none → Q z (upd H3 a (.dT (putK kvs k z))))
section
variable {X : Cx} {o e f : Expr} {td ty tx : TE} {apos cpos : Pos}
theorem pe_dsetdT (hu : X.A.units + 1 < cLine) (ho : PE X o td) (he : PE X e ty) (hf : PE X f tx) (m : M2 X o "setdefault" apos e f cpos) : PE X (.Call (.Attribute o "setdefault" apos) [e, f] [] cpos) (tDSetdT td ty tx) := by
  refine ⟨fun pins s σ H Q I h => ?_⟩
  refine wpAny_Call_method m.base m.few m.line PySem.F.plainAttrs_dict PySem.F.slot_dict_setdefault PySem.F.type_dict_setdefault (thn (ho.run pins s σ H _ I h) fun u s1 ⟨x, H1, I1, rx, a, ex, d, q1⟩ => ?_)
  subst ex
  obtain rfl : u = Value.ref a := rx
  obtain ⟨t1, t2, _⟩ := isD_at I1 d
  refine ⟨t1, t2, ?_⟩
  rw [m.trees]
  refine Calls.callWith_builtin rfl (Calls.evalArgs_plain (Calls.spliced_cons (thn (he.run pins s1 σ H1 _ I1 q1) fun iv s2 ⟨y, H2, I2, ry, q2⟩ =>
    Calls.spliced_cons (thn (hf.run pins s2 σ H2 _ I2 q2) fun fv s3 ⟨z, H3, I3, rz, kvs, k, b, ea, ey, eb, hl, q3, q4⟩ => Calls.spliced_nil ?_))))
  subst ey
  obtain rfl : iv = Value.ref b := ry
  exact d_setdT hu I3 ea eb rz hl (fun v hv w' s4 I4 rw' => ⟨v, _, I4, rw', q3 v hv⟩) fun hn w' s4 I4 rw' => ⟨z, _, I4, rw', q4 hn⟩
end
end L2
/-! What the laws judge of games: the same data, without the program's bound. -/
namespace Ow
open PySem PySem.Spec PyProof.Rows L2
theorem hu1 {n : Nat} (h : n + 64 < cLine) : n + 1 < cLine := by omega
def rIsntB : R2 := fun x y H Q => ∃ c, y = .bl c ∧ ((∃ b, x = .bl b ∧ Q (.bl (!decide (b = c))) H) ∨ ∃ i, x = .int i ∧ Q (.bl true) H)
theorem op_isntB {X : Cx} : OpR X (compareOp .IsNot) rIsntB := by
  intro pins s σ H x y v u Q I rx ry h
  obtain ⟨c, rfl, h⟩ := h
  cases (show u = Value.bool c from ry)
  rcases h with ⟨b, rfl, q⟩ | ⟨i, rfl, q⟩
  · cases (show v = Value.bool b from rx)
    by_cases e : b = c
    · subst e
      exact wpAny_isNot_self rfl ⟨.bl false, H, I, rfl, by simpa using q⟩
    · exact wpAny_isNot_other rfl (fun z => e (Value.bool.inj z)) ⟨.bl true, H, I, rfl, by simpa [e] using q⟩
  · obtain ⟨t, rfl⟩ := rx
    exact wpAny_isNot_other rfl (fun z => nomatch z) ⟨.bl true, H, I, rfl, q⟩
/-- xs != [], xs == [], whatever stands in xs -/
def rNil (g : Bool → Bool) : R2 := fun x y H Q => ∃ (a b : Addr) (xs : List V), x = .ref a ∧ y = .ref b ∧ H a = some (.lst xs) ∧ H b = some (.lst []) ∧ Q (.bl (g xs.isEmpty)) H
theorem nil_lists {X : Cx} {pins : List (Addr × Obj)} {σ : L2.St} {H : Hp} {s : Shared} {a : Addr} {xs : List V} (I : Inv X pins σ H s) (h : H a = some (.lst xs)) : ∃ its : Array Value, s.heap.IsList a its ∧ its.size = xs.length := by
  obtain ⟨_, its, n, r, e⟩ := I.hok _ _ h
  exact ⟨its.toArray, ⟨_, e, rfl, n, rfl⟩, by rw [List.size_toArray]; exact (Vals.length r).symm⟩
theorem op_neNil {X : Cx} (hu : X.A.units + 64 < cLine) : OpR X (compareOp .NotEq) (rNil fun k => !k) := by
  intro pins s σ H x y v u Q I rx ry h
  obtain ⟨a, b, xs, rfl, rfl, ha, hb, q⟩ := h
  cases (show v = Value.ref a from rx)
  cases (show u = Value.ref b from ry)
  obtain ⟨i1, l1, z1⟩ := nil_lists I ha
  obtain ⟨i2, l2, z2⟩ := nil_lists I hb
  rw [List.length_nil] at z2
  have hu0 : X.A.units < cLine := by omega
  cases xs with
  | nil =>
    rw [List.length_nil] at z1
    have := SeqAt.RcNeAt.lists (e := fun _ => true) l1 l2 (by omega) hu0 fun j h1 h2 => absurd h1 (by omega)
    rw [z1] at this
    exact this _ _ _ _ ⟨.bl false, H, I, rfl, q⟩
  | cons x xs =>
    rw [List.length_cons] at z1
    exact SeqAt.RcNeAt.lists_lengths l1 l2 (by rw [z1, z2]; simp) hu0 _ _ _ _ ⟨.bl true, H, I, rfl, q⟩
theorem y_neNil {a b : Addr} {xs : List V} {H : Hp} {Q : VK} (ha : H a = some (.lst xs)) (hb : H b = some (.lst [])) (h : Q (.bl (!xs.isEmpty)) H) : rNil (fun k => !k) (.ref a) (.ref b) H Q := ⟨a, b, xs, rfl, rfl, ha, hb, h⟩
def numB : PyData → Bool
  | .int _ => true
  | _ => false
theorem num_sm {d : PyData} (h : smD d = true) : intB d = numB d := by
  cases d with
  | int i =>
    have h := of_decide_eq_true (show decide (i.natAbs < 1024) = true from h)
    show okI i = true
    exact okI_small (Nat.le_trans (Nat.le_of_lt h) (by decide +kernel))
  | _ => rfl
def spLNum : Sp := fun vs H Q _ => ∃ v d, vs = [v] ∧ Da H v d ∧ Q (.bl (numB d)) H
def spLFracD : Sp := fun vs H Q _ => ∃ v d, vs = [v] ∧ Da H v d ∧ smD d = true ∧ ∀ H', Same H H' → Q (.bl (fracDB d)) H'
def spLMoveD : Sp := fun vs H Q _ => ∃ v d n, vs = [v, .int n] ∧ Da H v d ∧ smD d = true ∧ ∀ H', Same H H' → Q (.bl (moveB n d)) H'
def spLSum (K : PySem.W.Frag) : Sp := fun vs H Q _ => ∃ (a : Addr) (xs : List V) (ps : List (Int × Int)), vs = [.ref a] ∧ H a = some (.lst xs) ∧ DaL H xs (ps.map frD) ∧ (∀ p ∈ ps, smPair p ∧ Nat.gcd p.1.natAbs p.2.natAbs = 1) ∧ ps.length ≤ 40 ∧ (∀ v H', Da H' v (frD (sumP ps)) → Same H H' → Q v H')
def spLGameD : Sp := fun vs H Q _ => ∃ v d, vs = [v] ∧ Da H v d ∧ smD d = true ∧ ∀ H', Same H H' → Q (.bl (gameB d)) H'
theorem sum_fine {ps : List (Int × Int)} (hs : ∀ p ∈ ps, smPair p ∧ Nat.gcd p.1.natAbs p.2.natAbs = 1) (hl : ps.length ≤ 40) (i : Nat) (hi : i ≤ ps.length) : Fine (sumP (ps.take i)) := by
  obtain ⟨h0, h1, h2, h3⟩ := sumS_take (fun p m => (hs p m).1) i hi
  rw [← h3]
  have P : (1024 : Nat) ^ i ≤ 1024 ^ 40 := Nat.pow_le_pow_right (by decide) (by omega)
  have hz : ((ps.take i).foldl sumS (0, 1)).2 ≠ 0 := Int.ne_of_gt h0
  have g1 := low_le (t := ((ps.take i).foldl sumS (0, 1)).1) hz
  have bd : ∀ n : Nat, n ≤ 1024 * 40 * 1024 ^ 40 → n < 10 ^ 300 := fun n h => Nat.lt_of_le_of_lt h (by decide +kernel)
  refine ⟨okI_iff.mpr (bd _ (Nat.le_trans g1.1 (Nat.le_trans h2 (Nat.mul_le_mul (Nat.mul_le_mul_left 1024 (by omega)) (Nat.le_trans h1 P))))), okI_iff.mpr (bd _ (Nat.le_trans g1.2 (Nat.le_trans h1 (Nat.le_trans P (by decide +kernel))))), low_low hz⟩
theorem low_self {a b : Int} (h : 0 < b) : decide (low a b = (a, b)) = decide (Nat.gcd a.natAbs b.natAbs = 1) := by
  rw [decide_eq_decide]
  refine ⟨fun e => ?_, fun e => low_fix (p := (a, b)) ⟨h, e⟩⟩
  have := low_low (t := a) (Int.ne_of_gt h)
  rw [e] at this
  exact this.2
theorem sm_fine {p : Int × Int} (h : smPair p) (g : Nat.gcd p.1.natAbs p.2.natAbs = 1) : Fine p :=
  ⟨okI_small (Nat.le_trans (Nat.le_of_lt h.1) (by decide +kernel)), okI_small (by have := h.2.2; have := h.2.1; omega), h.2.1, g⟩
def spSize : Sp := fun vs H Q _ => ∃ v hs n, vs = [v] ∧ HouAt H v hs ∧ 1 ≤ hs.length ∧ hs.length ≤ 3 ∧ (hs.map (·.1)).Nodup ∧ (∀ g ∈ hs, GmOk n g.2) ∧ ∀ H', Same H H' → Q (.int (n : Nat)) H'
theorem hou_get {H : Hp} : ∀ {kvs : List (Key × V)} {hs : List (Str × Gm)} {s : Str}, Paired (fun (kv : Key × V) (g : Str × Gm) => kv.1 = Sum.inr g.1 ∧ Da (tu H) kv.2 (gmD g.2)) kvs hs → s ∈ hs.map (·.1) → ∃ v g, valV kvs (Sum.inr s) = some v ∧ (s, g) ∈ hs ∧ Da (tu H) v (gmD g)
  | [], [], _, .nil, m => by cases m
  | (k, v) :: kvs, (nm, g) :: hs, s, .cons h t, m => by
    obtain ⟨h1, h2⟩ := h
    have h1 : k = Sum.inr nm := h1
    subst h1
    by_cases e : nm = s
    · subst e
      exact ⟨v, g, valV_pos rfl, List.mem_cons_self, h2⟩
    · rcases List.mem_cons.mp (show s ∈ nm :: hs.map (·.1) from m) with rfl | m
      · exact absurd rfl e
      · obtain ⟨v', g', q1, q2, q3⟩ := hou_get t m
        exact ⟨v', g', by rw [valV_neg (fun z => e (Sum.inr.inj z)), q1], List.mem_cons_of_mem _ q2, q3⟩
theorem frac_sm {a b : Int} (h : smD (.tuple [.int a, .int b]) = true) : fracDB (.tuple [.int a, .int b]) = (decide (b > 0) && decide (low a b = (a, b))) := by
  have h : (decide (a.natAbs < 1024) && (decide (b.natAbs < 1024) && true)) = true := h
  simp only [Bool.and_eq_true, decide_eq_true_eq, Bool.and_true] at h
  show fracB (a, b) = _
  unfold fracB
  rw [okI_small (Nat.le_trans (Nat.le_of_lt h.1) (by decide +kernel)), okI_small (Nat.le_trans (Nat.le_of_lt h.2) (by decide +kernel)), Bool.true_and, Bool.true_and]
  by_cases q : 0 < b
  · rw [low_self q, decide_eq_true (show (1 : Int) ≤ b by omega), decide_eq_true q]
  · rw [decide_eq_false (show ¬ (1 : Int) ≤ b by omega), decide_eq_false q, Bool.false_and, Bool.false_and]
theorem num_inv {d : PyData} (h : numB d = true) : ∃ i, d = .int i := by
  unfold numB at h
  split at h
  · exact ⟨_, rfl⟩
  · cases h
theorem frac_non {ds : List PyData} (h : ds.all numB = false) : fracDB (.tuple ds) = false := by
  cases e : fracDB (.tuple ds) with
  | false => rfl
  | true =>
    obtain ⟨a, b, z, _⟩ := fracDB_inv e
    cases z
    cases h
def leOne : PyData → Bool
  | .tuple [_, _, .tuple [.int a, .int b]] => decide (a ≤ b)
  | _ => false
def lmoveB (n : Int) (d : PyData) : Bool := moveB n d && leOne d
def spLMove : Sp := fun vs H Q _ => ∃ v d n, vs = [v, .int n] ∧ Da H v d ∧ smD d = true ∧ ∀ H', Same H H' → Q (.bl (lmoveB n d)) H'
end Ow
namespace Ow
open PySem PySem.Spec PyProof.Rows L2
/-! ### moves put together by their keys -/
abbrev Grp := List ((Int × Int) × List (Int × Int))
def addG : Grp → Mv → Grp
  | [], m => [(m.1, [m.2])]
  | g :: r, m => if g.1 = m.1 then (g.1, g.2 ++ [m.2]) :: r else g :: addG r m
def grp (ms : List Mv) : Grp := ms.foldl addG []
def keyK (k : Int × Int) : List Key := [Sum.inl k.1, Sum.inl k.2]
theorem keyK_inj {a b : Int × Int} (h : keyK a = keyK b) : a = b := by
  injection h with h1 h2
  injection h2 with h2 _
  exact Prod.ext (Sum.inl.inj h1) (Sum.inl.inj h2)
/-- a dict's entry: the list of the chances -/
def GEnt (H : Hp) (kv : List Key × V) (g : (Int × Int) × List (Int × Int)) : Prop := kv.1 = keyK g.1 ∧ ∃ a xs, kv.2 = .ref a ∧ H a = some (.lst xs) ∧ Paired (fun v c => Da (tu H) v (frD c)) xs g.2
theorem GEnt.keep {H H' : Hp} {kv : List Key × V} {g : (Int × Int) × List (Int × Int)} (h : GEnt H kv g) (s : Same (tu H) (tu H')) (k : ∀ a xs, kv.2 = .ref a → H a = some (.lst xs) → H' a = some (.lst xs)) : GEnt H' kv g := by
  obtain ⟨e, a, xs, e2, e3, p⟩ := h
  exact ⟨e, a, xs, e2, k a xs e2 e3, p.mono fun v c q => q.same s⟩
theorem grp_get {H : Hp} {k : Int × Int} {v : V} : ∀ {kvs : List (List Key × V)} {gs : Grp}, Paired (GEnt H) kvs gs → (kvs.map (·.2)).Nodup → valV kvs (keyK k) = some v →
    ∃ a xs, v = .ref a ∧ H a = some (.lst xs) ∧ ∀ (H' : Hp) (cv : V) (c : Int × Int), Same (tu H) (tu H') → (∀ b ys, b ≠ a → H b = some (.lst ys) → H' b = some (.lst ys)) → H' a = some (.lst (xs ++ [cv])) → Da (tu H') cv (frD c) → Paired (GEnt H') kvs (addG gs (k, c))
  | kv :: kvs, g :: gs, .cons h t, nd, e => by
    obtain ⟨nd1, nd2⟩ := List.nodup_cons.mp (show (kv.2 :: kvs.map (·.2)).Nodup from nd)
    obtain ⟨e1, a, xs, e2, e3, p⟩ := h
    by_cases z : kv.1 = keyK k
    · rw [valV_pos z] at e
      have e := Option.some.inj e
      have ek : g.1 = k := keyK_inj (e1.symm.trans z)
      refine ⟨a, xs, by rw [← e, e2], e3, fun H' cv c s ho ha hc => ?_⟩
      have ea : addG (g :: gs) (k, c) = (g.1, g.2 ++ [c]) :: gs := by
        show (if g.1 = k then _ else _) = _
        rw [if_pos ek]
      rw [ea]
      refine .cons ⟨e1, a, _, e2, ha, Paired.snoc (p.mono fun v c q => q.same s) hc⟩ ?_
      have tt : ∀ {l : List (List Key × V)} {m : Grp}, Paired (GEnt H) l m → (∀ x ∈ l, x ∈ kvs) → Paired (GEnt H') l m := by
        intro l m q
        induction q with
        | nil => exact fun _ => .nil
        | cons h t ih =>
          intro hm
          refine .cons (h.keep s fun b ys eb hb => ho b ys (fun zz => ?_) hb) (ih fun x mx => hm x (List.mem_cons_of_mem _ mx))
          refine nd1 (List.mem_map.mpr ⟨_, hm _ List.mem_cons_self, ?_⟩)
          rw [eb, e2, zz]
      exact tt t fun x m => m
    · rw [valV_neg z] at e
      obtain ⟨b, ys, f1, f2, f3⟩ := grp_get t nd2 e
      have nk : g.1 ≠ k := fun zz => z (by rw [e1, zz])
      refine ⟨b, ys, f1, f2, fun H' cv c s ho ha hc => ?_⟩
      have ea : addG (g :: gs) (k, c) = g :: addG gs (k, c) := by
        show (if g.1 = k then _ else _) = _
        rw [if_neg nk]
      rw [ea]
      refine .cons (GEnt.keep ⟨e1, a, xs, e2, e3, p⟩ s fun a' ys' eb hb => ho a' ys' (fun zz => ?_) hb) (f3 H' cv c s ho ha hc)
      have : v ∈ kvs.map (·.2) := by
        unfold valV at e
        obtain ⟨q, hq, rfl⟩ := Option.map_eq_some_iff.mp e
        exact List.mem_map.mpr ⟨q, List.mem_of_find?_eq_some hq, rfl⟩
      refine nd1 ?_
      rw [eb, zz, ← f1]
      exact this
  | [], [], .nil, _, e => by cases e
theorem grp_new {H : Hp} {k : Int × Int} {c : Int × Int} : ∀ {kvs : List (List Key × V)} {gs : Grp}, Paired (GEnt H) kvs gs → valV kvs (keyK k) = none → addG gs (k, c) = gs ++ [(k, [c])]
  | [], [], .nil, _ => rfl
  | kv :: kvs, g :: gs, .cons h t, e => by
    have z : ¬ kv.1 = keyK k := fun z => by rw [valV_pos z] at e; cases e
    rw [valV_neg z] at e
    have nk : g.1 ≠ k := fun zz => z (by rw [h.1, zz])
    show (if g.1 = k then _ else g :: addG gs (k, c)) = _
    rw [if_neg nk, grp_new t e]
    rfl
theorem addG_len {n : Nat} {m : Mv} : ∀ {gs : Grp}, (∀ g ∈ gs, g.2.length ≤ n) → ∀ g ∈ addG gs m, g.2.length ≤ n + 1
  | [], _, g, h => by
    rw [List.mem_singleton.mp h]
    show 1 ≤ n + 1
    omega
  | x :: r, hg, g, h => by
    have h : g ∈ (if x.1 = m.1 then (x.1, x.2 ++ [m.2]) :: r else x :: addG r m) := h
    have hx := hg x List.mem_cons_self
    split at h
    · rcases List.mem_cons.mp h with rfl | h
      · show (x.2 ++ [m.2]).length ≤ n + 1
        rw [List.length_append]
        show x.2.length + 1 ≤ n + 1
        omega
      · have := hg g (List.mem_cons_of_mem _ h)
        omega
    · rcases List.mem_cons.mp h with rfl | h
      · omega
      · exact addG_len (fun g m => hg g (List.mem_cons_of_mem _ m)) g h
theorem fold_len : ∀ {ms : List Mv} {gs : Grp} {n : Nat}, (∀ g ∈ gs, g.2.length ≤ n) → ∀ g ∈ ms.foldl addG gs, g.2.length ≤ n + ms.length
  | [], _, _, h, g, m => h g m
  | x :: ms, gs, n, h, g, m => by
    have := fold_len (ms := ms) (addG_len (m := x) h) g m
    rw [List.length_cons]
    omega
theorem grp_len {ms : List Mv} {g : (Int × Int) × List (Int × Int)} (h : g ∈ grp ms) : g.2.length ≤ ms.length := by
  have := fold_len (ms := ms) (gs := []) (n := 0) (fun _ z => nomatch z) g h
  omega
theorem pr_left {α β : Type} {F : α → β → Prop} : ∀ {xs : List α} {ks : List β}, Paired F xs ks → ∀ x ∈ xs, ∃ k ∈ ks, F x k := fun h x m => pr_mem h m
theorem val_mem {kvs : List (List Key × V)} {k : List Key} {v : V} (e : valV kvs k = some v) : ∃ kv ∈ kvs, kv.2 = v := by
  unfold valV at e
  obtain ⟨q, hq, rfl⟩ := Option.map_eq_some_iff.mp e
  exact ⟨q, List.mem_of_find?_eq_some hq, rfl⟩
theorem grp_snoc {ms : List Mv} {i : Nat} {m : Mv} (e : ms[i]? = some m) : grp (ms.take (i + 1)) = addG (grp (ms.take i)) m := by
  rw [List.take_add_one, e]
  unfold grp
  rw [List.foldl_append]
  rfl
def spChancesOf : Sp := fun vs H Q _ => ∃ v ms, vs = [v] ∧ Da (tu H) v (msD ms) ∧ ms.length ≤ 100 ∧ ∀ p kvs H', H p = none → H' p = some (.dT kvs) → Paired (GEnt H') kvs (grp ms) → Same H H' → Q (.ref p) H'
end Ow
namespace Ow
open PySem PySem.Spec PyProof.Rows L2
theorem pr_comp {α β γ : Type} {F : α → β → Prop} {G : β → γ → Prop} : ∀ {xs : List α} {ys : List β} {zs : List γ}, Paired F xs ys → Paired G ys zs → Paired (fun x z => ∃ y, F x y ∧ G y z) xs zs
  | [], [], [], .nil, .nil => .nil
  | _ :: _, _ :: _, _ :: _, .cons h t, .cons h2 t2 => .cons ⟨_, h, h2⟩ (pr_comp t t2)
theorem addG_keys {m : Mv} : ∀ {gs : Grp}, (addG gs m).map (·.1) = if m.1 ∈ gs.map (·.1) then gs.map (·.1) else gs.map (·.1) ++ [m.1]
  | [] => rfl
  | x :: r => by
    show ((if x.1 = m.1 then (x.1, x.2 ++ [m.2]) :: r else x :: addG r m).map (·.1)) = _
    by_cases e : x.1 = m.1
    · rw [if_pos e, if_pos (by rw [← e]; exact List.mem_cons_self)]
      rfl
    · rw [if_neg e, List.map_cons, addG_keys]
      by_cases q : m.1 ∈ r.map (·.1)
      · rw [if_pos q, if_pos (show m.1 ∈ (x :: r).map (·.1) from List.mem_cons_of_mem _ q)]
        rfl
      · rw [if_neg q, if_neg (show ¬ m.1 ∈ (x :: r).map (·.1) from fun z => by
          rcases List.mem_cons.mp (show m.1 ∈ x.1 :: r.map (·.1) from z) with z | z
          · exact e z.symm
          · exact q z)]
        rfl
theorem addG_nd {m : Mv} {gs : Grp} (h : (gs.map (·.1)).Nodup) : ((addG gs m).map (·.1)).Nodup := by
  rw [addG_keys]
  split
  · exact h
  · rename_i q
    refine List.nodup_append.mpr ⟨h, by simp, fun x mx y my z => ?_⟩
    rw [List.mem_singleton.mp my] at z
    exact q (z ▸ mx)
theorem fold_nd : ∀ {ms : List Mv} {gs : Grp}, (gs.map (·.1)).Nodup → ((ms.foldl addG gs).map (·.1)).Nodup
  | [], _, h => h
  | _ :: ms, _, h => fold_nd (ms := ms) (addG_nd h)
theorem grp_nd (ms : List Mv) : ((grp ms).map (·.1)).Nodup := fold_nd (ms := ms) (gs := []) .nil
theorem addG_all {P : Int × Int → Prop} {m : Mv} (hm : P m.2) : ∀ {gs : Grp}, (∀ g ∈ gs, ∀ c ∈ g.2, P c) → ∀ g ∈ addG gs m, ∀ c ∈ g.2, P c
  | [], _, g, h => by
    rw [List.mem_singleton.mp h]
    intro c hc
    rw [List.mem_singleton.mp hc]
    exact hm
  | x :: r, hg, g, h => by
    have h : g ∈ (if x.1 = m.1 then (x.1, x.2 ++ [m.2]) :: r else x :: addG r m) := h
    split at h
    · rcases List.mem_cons.mp h with rfl | h
      · intro c hc
        rcases List.mem_append.mp (show c ∈ x.2 ++ [m.2] from hc) with hc | hc
        · exact hg x List.mem_cons_self c hc
        · rw [List.mem_singleton.mp hc]
          exact hm
      · exact hg g (List.mem_cons_of_mem _ h)
    · rcases List.mem_cons.mp h with rfl | h
      · exact hg g List.mem_cons_self
      · exact addG_all hm (fun g m => hg g (List.mem_cons_of_mem _ m)) g h
theorem fold_all {P : Int × Int → Prop} : ∀ {ms : List Mv} {gs : Grp}, (∀ m ∈ ms, P m.2) → (∀ g ∈ gs, ∀ c ∈ g.2, P c) → ∀ g ∈ ms.foldl addG gs, ∀ c ∈ g.2, P c
  | [], _, _, h => h
  | x :: ms, _, hm, h => fold_all (ms := ms) (fun m mm => hm m (List.mem_cons_of_mem _ mm)) (addG_all (hm x List.mem_cons_self) h)
theorem grp_all {P : Int × Int → Prop} {ms : List Mv} (h : ∀ m ∈ ms, P m.2) : ∀ g ∈ grp ms, ∀ c ∈ g.2, P c := fold_all h fun _ z => nomatch z
theorem grp_val {H : Hp} : ∀ {kvs : List (List Key × V)} {gs : Grp}, Paired (GEnt H) kvs gs → (gs.map (·.1)).Nodup → ∀ g ∈ gs, ∃ a xs, valV kvs (keyK g.1) = some (.ref a) ∧ H a = some (.lst xs) ∧ Paired (fun v c => Da (tu H) v (frD c)) xs g.2
  | [], [], .nil, _, g, mg => by cases mg
  | kv :: kvs, x :: gs, .cons h t, nd, g, mg => by
    obtain ⟨nd1, nd2⟩ := List.nodup_cons.mp (show (x.1 :: gs.map (·.1)).Nodup from nd)
    obtain ⟨e1, a, xs, e2, e3, p⟩ := h
    rcases List.mem_cons.mp mg with rfl | mg
    · exact ⟨a, xs, by rw [valV_pos e1, e2], e3, p⟩
    · obtain ⟨b, ys, q1, q2, q3⟩ := grp_val t nd2 g mg
      refine ⟨b, ys, ?_, q2, q3⟩
      rw [valV_neg (fun z => ?_), q1]
      have : x.1 = g.1 := keyK_inj (e1.symm.trans z)
      exact nd1 (this ▸ List.mem_map.mpr ⟨g, mg, rfl⟩)
/-- the moves with the sums -/
def mvG (g : (Int × Int) × List (Int × Int)) : Mv := (g.1, sumP g.2)
def srtG (gs : Grp) : Prop := gs.Pairwise fun x y => SrtO.lexB y.1 x.1 = false
def spMovesWith : Sp := fun vs H Q _ => ∃ p kvs gs, vs = [.ref p] ∧ H p = some (.dT kvs) ∧ Paired (GEnt H) kvs gs ∧ (gs.map (·.1)).Nodup ∧ (∀ g ∈ gs, ∀ c ∈ g.2, smPair c ∧ Nat.gcd c.1.natAbs c.2.natAbs = 1) ∧ (∀ g ∈ gs, g.2.length ≤ 40) ∧ gs.length ≤ 1000 ∧
  ∀ v gs' H', gs'.Perm gs → srtG gs' → Da (tu H') v (msD (gs'.map mvG)) → Same H H' → Q v H'
theorem grp_keyd {H : Hp} {kvs : List (List Key × V)} {gs : Grp} (h : Paired (GEnt H) kvs gs) : ∀ kv ∈ kvs, ∃ i j : Int, kv.1 = [Sum.inl i, Sum.inl j] := fun kv m => by
  obtain ⟨g, _, e, _⟩ := pr_mem h m
  exact ⟨_, _, e⟩
theorem c_sortedDT {X : Cx} (hc : X.calm = true) : CallR X (.builtin "sorted") rSortedDT := cr_sortedDT hc
end Ow
namespace Ow
open PySem PySem.Spec PyProof.Rows L2
def rLenDT : List V → Hp → VK → Prop := fun vs H Q => ∃ (a : Addr) (kvs : List (List Key × V)), vs = [.ref a] ∧ H a = some (.dT kvs) ∧ Q (.int kvs.length) H
theorem c_lenDT {X : Cx} : CallR X (.builtin "len") rLenDT := by
  intro pins s σ H xs us Q I r h
  obtain ⟨a, kvs, ex, e, q⟩ := h
  subst ex
  obtain ⟨u, eu, rx⟩ := vals1 r
  subst eu
  cases rx
  obtain ⟨z, hd, ks, rel, dd⟩ := dt_of I.hok e
  have hl : kvs.length = ks.length := Paired.length rel
  have hm : s.heap.DictKeyed (tupleKind (mixKind X.prog X.w)) a (pairsH ks) := ⟨ks, dd, rfl⟩
  have hp : (pairsH ks).length = ks.length := pairsH_length ks
  refine PyProof.Rows.call_len_slot (n := (pairsH ks).length) hm.typeIs PySem.F.slot_dict_len (fun Q' hq => len_keyed hd hm hq) (by omega) (by rw [sizeLine_eq] at z; omega) ?_
  rw [hp, ← hl]
  exact ⟨.int _, H, I.tok _, ⟨_, rfl⟩, q⟩
theorem mv_of {n : Int} : ∀ {ds : List PyData}, (∀ m ∈ ds, moveB n m = true) → ∃ ms : List Mv, ds = ms.map mvD
  | [], _ => ⟨[], rfl⟩
  | d :: ds, h => by
    obtain ⟨t, g, a, b, rfl, _⟩ := moveB_inv (h d List.mem_cons_self)
    obtain ⟨ms, rfl⟩ := mv_of fun m mm => h m (List.mem_cons_of_mem _ mm)
    exact ⟨((t, g), (a, b)) :: ms, rfl⟩
theorem mv_fine {n : Int} {m : Mv} (h : moveB n (mvD m) = true) (s : smD (mvD m) = true) : smPair m.2 ∧ Nat.gcd m.2.1.natAbs m.2.2.natAbs = 1 := by
  obtain ⟨t, g, a, b, e, _, _, _, _, f, _⟩ := moveB_inv h
  have e1 : m.2 = (a, b) := by
    injection e with e
    injection e with _ e
    injection e with _ e
    injection e with e _
    injection e with e
    injection e with q1 e
    injection e with q2 _
    injection q1 with q1
    injection q2 with q2
    exact Prod.ext q1 q2
  rw [e1]
  refine ⟨smPair_of (t := .int m.1.1) (g := .int m.1.2) ?_ f, ?_⟩
  · show smD (.tuple [.int m.1.1, .int m.1.2, .tuple [.int a, .int b]]) = true
    have s : smD (.tuple [.int m.1.1, .int m.1.2, .tuple [.int m.2.1, .int m.2.2]]) = true := s
    rw [e1] at s
    exact s
  · unfold fracB at f
    simp only [Bool.and_eq_true, decide_eq_true_eq] at f
    exact f.2
def lenD : PyData → Nat
  | .tuple l => l.length
  | _ => 0
theorem fold_cnt : ∀ {ms : List Mv} {gs : Grp}, (ms.foldl addG gs).length ≤ gs.length + ms.length
  | [], _ => Nat.le_refl _
  | m :: ms, gs => by
    have h1 := fold_cnt (ms := ms) (gs := addG gs m)
    have h2 : (addG gs m).length ≤ gs.length + 1 := by
      have := congrArg List.length (addG_keys (m := m) (gs := gs))
      rw [List.length_map] at this
      rw [this]
      split
      · rw [List.length_map]; omega
      · rw [List.length_append, List.length_map]; exact Nat.le_refl _
    show ((addG gs m :: []).headD [] |> fun g => ms.foldl addG g).length ≤ _
    rw [List.length_cons]
    show (ms.foldl addG (addG gs m)).length ≤ _
    omega
theorem grp_cnt (ms : List Mv) : (grp ms).length ≤ ms.length := by
  have := fold_cnt (ms := ms) (gs := [])
  rw [List.length_nil, Nat.zero_add] at this
  exact this
def spMerged (CG : Addr) : Sp := fun vs H Q E => ∃ v d, vs = [v] ∧ Da H v d ∧ smD d = true ∧ lenD d ≤ 40 ∧
  (∀ ms, d = msD ms → movesB 100 8 d = true → (grp ms).length ≤ 12 → ∀ v' gs' H', gs'.Perm (grp ms) → srtG gs' → Da (tu H') v' (msD (gs'.map mvG)) → Same H H' → Q v' H') ∧
  (movesB 100 8 d = false → ∀ H', Same H H' → E (.ref CG) none H') ∧ (∀ ms, d = msD ms → movesB 100 8 d = true → 12 < (grp ms).length → ∀ H', Same H H' → E (.ref CG) none H')
/-- an own error class without an __init__ over ValueError -/
structure IFC (K : PySem.W.Frag) (mg : Str → Option Value) (x : Str) (C : Addr) : Prop where
  q : PySem.W.excIn K C He.veBase "ValueError.__new__" = true
  g : mg x = some (.ref C)
  kC : PySem.W.keepIn K (.ref C) = true
  exC : PySem.W.subIn K (.ref C) (.type "BaseException") = some true
  tyC : PySem.W.typeIn K (.ref C) = some (.type "type")
  te : PySem.W.exmOne K (.ref C) (.ref C) = some true
end Ow
namespace Ow
open PySem PySem.Spec PyProof.Rows L2
/-! ### the law's own sums by keys -/
def SEnt (H : Hp) (kv : List Key × V) (g : (Int × Int) × List (Int × Int)) : Prop := kv.1 = keyK g.1 ∧ Da (tu H) kv.2 (frD (sumP g.2))
theorem sEnt_key {H : Hp} {k : Int × Int} : ∀ {kvs : List (List Key × V)} {gs : Grp}, Paired (SEnt H) kvs gs → (valV kvs (keyK k) = none ↔ ¬ k ∈ gs.map (·.1))
  | [], [], .nil => ⟨fun _ h => (nomatch h), fun _ => rfl⟩
  | kv :: kvs, g :: gs, .cons h t => by
    by_cases z : kv.1 = keyK k
    · have e : g.1 = k := keyK_inj (h.1.symm.trans z)
      rw [valV_pos z]
      exact ⟨fun h => (by cases h), fun h => absurd (show k ∈ g.1 :: gs.map (·.1) from e ▸ List.mem_cons_self) h⟩
    · have e : g.1 ≠ k := fun e => z (h.1.trans (congrArg keyK e))
      rw [valV_neg z, sEnt_key t]
      exact ⟨fun q m => by
        rcases List.mem_cons.mp (show k ∈ g.1 :: gs.map (·.1) from m) with m | m
        · exact e m.symm
        · exact q m, fun q m => q (show k ∈ g.1 :: gs.map (·.1) from List.mem_cons_of_mem _ m)⟩
theorem sEnt_mono {H H' : Hp} (s : Same (tu H) (tu H')) {kvs : List (List Key × V)} {gs : Grp} (h : Paired (SEnt H) kvs gs) : Paired (SEnt H') kvs gs := h.mono fun _ _ q => ⟨q.1, q.2.same s⟩
theorem sEnt_rest {H : Hp} {k : Int × Int} {v : V} : ∀ {kvs : List (List Key × V)} {gs : Grp}, Paired (SEnt H) kvs gs → ¬ k ∈ gs.map (·.1) → kvs.map (fun kv => if kv.1 = keyK k then (kv.1, v) else kv) = kvs
  | [], [], .nil, _ => rfl
  | kv :: kvs, g :: gs, .cons h t, n => by
    have z : ¬ kv.1 = keyK k := fun z => n (show k ∈ g.1 :: gs.map (·.1) from (keyK_inj (h.1.symm.trans z)) ▸ List.mem_cons_self)
    rw [List.map_cons, if_neg z, sEnt_rest t fun m => n (show k ∈ g.1 :: gs.map (·.1) from List.mem_cons_of_mem _ m)]
theorem sEnt_some {H : Hp} {k : Int × Int} : ∀ {kvs : List (List Key × V)} {gs : Grp} {w : V}, Paired (SEnt H) kvs gs → (gs.map (·.1)).Nodup → valV kvs (keyK k) = some w →
    ∃ g ∈ gs, Da (tu H) w (frD (sumP g.2)) ∧ ∀ (v : V) (c : Int × Int), Da (tu H) v (frD (sumP (g.2 ++ [c]))) → Paired (SEnt H) (kvs.map fun kv => if kv.1 = keyK k then (kv.1, v) else kv) (addG gs (k, c))
  | kv :: kvs, g :: gs, w, .cons h t, nd, e => by
    obtain ⟨nd1, nd2⟩ := List.nodup_cons.mp (show (g.1 :: gs.map (·.1)).Nodup from nd)
    by_cases z : kv.1 = keyK k
    · have ek : g.1 = k := keyK_inj (h.1.symm.trans z)
      rw [valV_pos z] at e
      cases e
      refine ⟨g, List.mem_cons_self, h.2, fun v c hv => ?_⟩
      rw [List.map_cons, if_pos z, sEnt_rest t (ek ▸ nd1)]
      show Paired _ _ (if g.1 = k then _ else _)
      rw [if_pos ek]
      exact .cons ⟨h.1, hv⟩ t
    · have ek : g.1 ≠ k := fun e => z (h.1.trans (congrArg keyK e))
      rw [valV_neg z] at e
      obtain ⟨g', mg, d, f⟩ := sEnt_some t nd2 e
      refine ⟨g', List.mem_cons_of_mem _ mg, d, fun v c hv => ?_⟩
      rw [List.map_cons, if_neg z]
      show Paired _ _ (if g.1 = k then _ else _)
      rw [if_neg ek]
      exact .cons h (f v c hv)
  | [], [], w, .nil, _, e => by cases e
theorem sEnt_new {k : Int × Int} {c : Int × Int} : ∀ {gs : Grp}, ¬ k ∈ gs.map (·.1) → addG gs (k, c) = gs ++ [(k, [c])]
  | [], _ => rfl
  | g :: gs, n => by
    have ek : g.1 ≠ k := fun e => n (show k ∈ g.1 :: gs.map (·.1) from e ▸ List.mem_cons_self)
    show (if g.1 = k then _ else g :: addG gs (k, c)) = _
    rw [if_neg ek, sEnt_new fun m => n (show k ∈ g.1 :: gs.map (·.1) from List.mem_cons_of_mem _ m)]
    rfl
theorem sEnt_keyd {H : Hp} {kvs : List (List Key × V)} {gs : Grp} (h : Paired (SEnt H) kvs gs) : ∀ kv ∈ kvs, ∃ i j : Int, kv.1 = [Sum.inl i, Sum.inl j] := fun kv m => by
  obtain ⟨g, _, e, _⟩ := pr_mem h m
  exact ⟨_, _, e⟩
theorem sEnt_val {H : Hp} : ∀ {kvs : List (List Key × V)} {gs : Grp}, Paired (SEnt H) kvs gs → (gs.map (·.1)).Nodup → ∀ g ∈ gs, ∃ v, valV kvs (keyK g.1) = some v ∧ Da (tu H) v (frD (sumP g.2))
  | [], [], .nil, _, g, mg => by cases mg
  | kv :: kvs, x :: gs, .cons h t, nd, g, mg => by
    obtain ⟨nd1, nd2⟩ := List.nodup_cons.mp (show (x.1 :: gs.map (·.1)).Nodup from nd)
    rcases List.mem_cons.mp mg with rfl | mg
    · exact ⟨_, valV_pos h.1, h.2⟩
    · obtain ⟨v, q1, q2⟩ := sEnt_val t nd2 g mg
      refine ⟨v, ?_, q2⟩
      rw [valV_neg (fun z => ?_), q1]
      have : x.1 = g.1 := keyK_inj (h.1.symm.trans z)
      exact nd1 (this ▸ List.mem_map.mpr ⟨g, mg, rfl⟩)
theorem sum_snoc {cs : List (Int × Int)} {c : Int × Int} : sumP (cs ++ [c]) = addP (sumP cs) c := by
  unfold sumP
  rw [List.foldl_append]
  rfl
def spLJoined : Sp := fun vs H Q _ => ∃ a xs ms, vs = [.ref a] ∧ H a = some (.lst xs) ∧ Paired (fun v m => Da (tu H) v (mvD m)) xs ms ∧ (∀ m ∈ ms, smPair m.2 ∧ Nat.gcd m.2.1.natAbs m.2.2.natAbs = 1) ∧ ms.length ≤ 40 ∧
  ∀ v gs' H', gs'.Perm (grp ms) → srtG gs' → Da (tu H') v (msD (gs'.map mvG)) → Same H H' → Q v H'
/-- a def that may raise, called within a try -/
structure CalX (P : Program) (w : World) (K : PySem.W.Frag) (mg : Str → Option Value) (base : Heap) (k : Nat) (x : Str) (ps : List Str) (sp : Sp) : Prop where
  ex : ∃ (f : Addr) (fd : FuncData), FnOk P w K mg base (L2.CX P w) k f fd ps sp ∧ mg x = some (.ref f) ∧ PySem.W.keepIn K (.ref f) = true ∧ Binds K fd ps []
def tFnS (sp : Sp) (W : WX) (t : TA) : TE := fun σ H Q => t σ H fun vs H1 => sp vs H1 Q (WE W σ)
theorem pe_fnS {X : Cx} {W : WX} {k : Nat} {x : Str} {ps : List Str} {sp : Sp} {p pos : Pos} {e : Expr} {es : List Expr} {t : TA} (c : CalX X.prog X.w X.K X.mg X.base k x ps sp) (hr : Room k X.A) (tk : Takes X W) (hg : Gl X x) (ha : PA X (e :: es) t) (hdb : (x == ("__debug__" : Str)) = false := by decide)
    (he : starEach (e :: es) X.env = (false, eval e X.env) :: starEach es X.env := by rfl) (hpl : (backTo pos (starEach es X.env)).any (·.1) = false := by rfl) : PE X (.Call (.Name x p) (e :: es) [] pos) (tFnS sp W t) := by
  obtain ⟨f, fd, F, hm, hk, hb⟩ := c.ex
  exact pe_callS (p := p) (pos := pos) F hr hg hm hk hb (fun σ => passAt tk σ) ha hdb he hpl
def spGotM : Sp := fun vs H Q _ => ∃ v d, vs = [v] ∧ Da H v d ∧ smD d = true ∧ lenD d ≤ 40 ∧
  (∀ ms, d = msD ms → movesB 100 8 d = true → (grp ms).length ≤ 12 → ∀ v' gs' H', gs'.Perm (grp ms) → srtG gs' → Da (tu H') v' (msD (gs'.map mvG)) → Same H H' → Q v' H') ∧
  (movesB 100 8 d = false → ∀ H', Same H H' → Q .non H') ∧ (∀ ms, d = msD ms → movesB 100 8 d = true → 12 < (grp ms).length → ∀ H', Same H H' → Q .non H')
end Ow
/-! sorted of a set of pairs of ints, of any sign. -/
namespace L2
open PySem PySem.Spec PyProof.Rows
def rSortedST (P : Program) (w : World) : List V → Hp → VK → Prop := fun xs H Q => ∃ (a : Addr) (L : List (Addr × List Int)), xs = [V.ref a] ∧ H a = some (SetTO P w a L) ∧ (∀ p ∈ L, ∃ i j : Int, p.2 = [i, j] ∧ H p.1 = some (.tup [.int i, .int j])) ∧
  ∀ ys p, (L.map (·.2)).Nodup → SrtO.Srtd (ltP (Ow.key3 H)) ys → ys.Perm (L.map fun q => V.ref q.1) → H p = none → Q (.ref p) (upd H p (.lst ys))
section
variable {X : Cx}
theorem cr_sortedST (hc : X.calm = true) : CallR X (.builtin "sorted") (rSortedST X.prog X.w) := by
  intro pins s σ H vs us Q I r h
  obtain ⟨a, L, rfl, ha, hk, q⟩ := h
  have R0 : SetT0 X.prog X.w s.heap a L := (I.hok a _ ha).1
  obtain ⟨es, ep, t, R⟩ := R0.full fun p hp => by
    obtain ⟨i, j, e, ht⟩ := hk p hp
    rw [e]
    exact I.isT (Ow.sqt ht)
  rw [Vals.ref1 r]
  obtain ⟨o, ho, hex, hd⟩ := R.ob
  have hsz := R.size
  have hfew := R.few
  refine Calls.call_function_entry kind_sorted plain_sorted entry_sorted (args_sorted1 _) ?_
  unfold Builtin.«sorted»
  refine wpAny_bind (m := checkCount "sorted" 1 1 _) (wpAny_pure ?_)
  refine wpAny_bind (collect_set (A := X.A.in1) (I.ok.hd hc) ⟨o, ho, hex.1, hd⟩ R.fits (by unfold scanBound; omega) R.tab.ris R.led fun s1 vs k1 hz g1 o1 pm => ?_)
  have hes : es.toList.map (·.2) = L.map fun q => Value.ref q.1 := by
    rw [R.rows]
    unfold rowsOf
    rw [List.map_map] <;> rfl
  rw [hes] at pm
  have hvl : vs.length < 64 := by rw [pm.length_eq, List.length_map]; exact hfew
  have hlen : vs.length ≤ sizeLine := by rw [sizeLine_eq]; omega
  refine wpAny_bind (wpAny_newList ?_ hlen)
  have hoL : (s1.heap.push (seqObj "list" vs.toArray 0)).get? s1.heap.objs.size = some (seqObj "list" vs.toArray 0) := Heap.get?_push_size _ rfl
  have hp : ∀ v ∈ vs, Srt.IsPair (s1.heap.push (seqObj "list" vs.toArray 0)) v (Ow.key3 H (backV v)).1 (Ow.key3 H (backV v)).2 := by
    intro v hv
    obtain ⟨x, mx, rfl⟩ := List.mem_map.mp (pm.mem_iff.mp hv)
    obtain ⟨i, j, e, ht⟩ := hk x mx
    have ek : Ow.key3 H (backV (Value.ref x.1)) = (i, j) := Ow.key3_at ht
    rw [ek]
    obtain ⟨_, its2, r2, o2, ho2, hc2, n, hd2⟩ := I.hok _ _ ht
    obtain ⟨u1, u2, rfl, ri, rj⟩ := vals2 r2
    obtain ⟨t1, rfl⟩ := ri
    obtain ⟨t2, rfl⟩ := rj
    exact ⟨_, o2, t1, t2, n, rfl, Heap.get?_push_of_some _ (k1 _ _ ho2), hc2, hd2⟩
  have hsort : 2 ≤ vs.length → SrtO.SortableO X.prog X.w X.A.in1.in1 { s1 with heap := s1.heap.push (seqObj "list" vs.toArray 0) } s1.heap.objs.size vs fun v u => SrtO.lexB (Ow.key3 H (backV v)) (Ow.key3 H (backV u)) := fun h2 => by
    refine SrtO.pairs_sortableO (s := { s1 with heap := s1.heap.push (seqObj "list" vs.toArray 0) }) (k := fun u => Ow.key3 H (backV u)) (by omega) hp fun o e => ?_
    have e' : some o = some (seqObj "list" vs.toArray 0) := e.symm.trans hoL
    cases e'
    intro c
    exact absurd (Value.type.inj c) (by decide)
  refine wpAny_bind (wpAny_holding (wpAny_call_entry PyProof.Rows.slot_list_sort ⟨_, hoL, rfl⟩ PyProof.Rows.entry_list_sort
    (SrtO.list_sort_ord (s := { s1 with heap := s1.heap.push (seqObj "list" vs.toArray 0) }) (SrtO.swo_lex fun u => Ow.key3 H (backV u)) hoL hlen hsort fun out hs hb => ⟨_, rfl, ?_⟩)
    (PyProof.Rows.args_list_sort _)))
  obtain ⟨e', he'⟩ := PyProof.Rows.sortedHeap_at (vs := vs) (out := out.toArray) hoL
  have href : ∀ u ∈ out, ∃ a, u = Value.ref a := fun u hu => by
    obtain ⟨x, _, rfl⟩ := List.mem_map.mp (pm.mem_iff.mp (hb.perm.mem_iff.mp hu))
    exact ⟨_, rfl⟩
  have hpm : (out.map backV).Perm (L.map fun q => V.ref q.1) := by
    have := (hb.perm.trans pm).map backV
    rw [List.map_map] at this
    exact this
  have hl2 : (out.map backV).length ≤ sizeLine := by
    rw [hpm.length_eq, List.length_map, sizeLine_eq]
    omega
  have hn : H s1.heap.objs.size = none := I.hok.fresh hz
  have kk : ∀ b u, s.heap.get? b = some u → (sortedHeap (s1.heap.push (seqObj "list" vs.toArray 0)) s1.heap.objs.size vs out.toArray).get? b = some u := fun b u e => by
    have q := k1 b u e
    have hlt := Heap.lt_size q
    rw [sortedHeap_old (Nat.ne_of_lt hlt) (by rw [size_push']; exact Nat.lt_succ_of_lt hlt)]
    exact Heap.get?_push_of_some _ q
  have J : Inv X pins σ (upd H s1.heap.objs.size (.lst (out.map backV))) { s with heap := sortedHeap (s1.heap.push (seqObj "list" vs.toArray 0)) s1.heap.objs.size vs out.toArray, gens := s1.gens, drawn := s1.drawn, toks := s1.toks } :=
    I.call (ch := []) (Un.laid kk hz hn) (I.hok.laid kk hz ⟨hl2, out, e', vals_back href, he'⟩) (by rw [g1]; exact I.bare) (fun _ z => nomatch z)
  have es1 : ({ s1 with heap := sortedHeap (s1.heap.push (seqObj "list" vs.toArray 0)) s1.heap.objs.size vs out.toArray } : Shared) = { s with heap := sortedHeap (s1.heap.push (seqObj "list" vs.toArray 0)) s1.heap.objs.size vs out.toArray, gens := s1.gens, drawn := s1.drawn, toks := s1.toks } := by
    cases s1
    cases s
    cases o1
    rfl
  refine wpAny_pure ⟨_, rfl, .ref s1.heap.objs.size, upd H s1.heap.objs.size (.lst (out.map backV)), ?_, rfl, q _ _ R.nd (SrtO.srtd_map hs) hpm hn⟩
  show Inv X pins σ _ { s1 with heap := sortedHeap (s1.heap.push (seqObj "list" vs.toArray 0)) s1.heap.objs.size vs out.toArray }
  rw [es1]
  exact J
end
end L2
/-! Sums of chances bound each of them; moves that ascend. -/
namespace Ow
open PySem PySem.Spec PyProof.Rows L2
theorem low_cross {t b : Int} (h : 0 < b) : lowT t b * b = t * lowB t b ∧ 0 < lowB t b := by
  obtain ⟨c, hc, ht, hb, hp, _⟩ := low_ex (t := t) (Int.ne_of_gt h)
  have hc0 : 0 < c := hp.mpr h
  have hB : 0 < lowB t b := by
    rcases Int.lt_trichotomy (lowB t b) 0 with q | q | q
    · have := Int.mul_neg_of_pos_of_neg hc0 q
      omega
    · rw [q, Int.mul_zero] at hb
      omega
    · exact q
  refine ⟨?_, hB⟩
  calc lowT t b * b = lowT t b * (c * lowB t b) := by rw [← hb]
    _ = (c * lowT t b) * lowB t b := by grind
    _ = t * lowB t b := by rw [← ht]
theorem frac_trans {a b c d e f : Int} (hd : 0 < d) (hf : 0 < f) (hb : 0 < b) (h1 : a * d ≤ c * b) (h2 : c * f ≤ e * d) : a * f ≤ e * b := by
  have e1 : a * d * f ≤ c * b * f := Int.mul_le_mul_of_nonneg_right h1 (Int.le_of_lt hf)
  have e2 : c * f * b ≤ e * d * b := Int.mul_le_mul_of_nonneg_right h2 (Int.le_of_lt hb)
  have e3 : d * (a * f) ≤ d * (e * b) := by
    have q1 : d * (a * f) = a * d * f := by grind
    have q2 : c * b * f = c * f * b := by grind
    have q3 : d * (e * b) = e * d * b := by grind
    rw [q1, q3]
    omega
  exact Int.le_of_mul_le_mul_left e3 hd
theorem add_ge {r p : Int × Int} (hr : 0 ≤ r.1) (hr2 : 0 < r.2) (hp : 0 < p.1) (hp2 : 0 < p.2) : 0 ≤ (addP r p).1 ∧ 0 < (addP r p).2 ∧ r.1 * (addP r p).2 ≤ (addP r p).1 * r.2 ∧ p.1 * (addP r p).2 ≤ (addP r p).1 * p.2 := by
  have hd : 0 < r.2 * p.2 := Int.mul_pos hr2 hp2
  obtain ⟨h1, h2⟩ := low_cross (t := r.1 * p.2 + p.1 * r.2) hd
  have h2 : 0 < (addP r p).2 := h2
  have h1 : (addP r p).1 * (r.2 * p.2) = (r.1 * p.2 + p.1 * r.2) * (addP r p).2 := h1
  generalize (addP r p).1 = x at h1 ⊢
  generalize (addP r p).2 = y at h1 h2 ⊢
  have n0 : 0 ≤ r.1 * p.2 := Int.mul_nonneg hr (Int.le_of_lt hp2)
  have n1 : 0 ≤ p.1 * r.2 := Int.mul_nonneg (Int.le_of_lt hp) (Int.le_of_lt hr2)
  have a1 : r.1 * p.2 * y ≤ x * (r.2 * p.2) := by
    rw [h1]
    exact Int.mul_le_mul_of_nonneg_right (by omega) (Int.le_of_lt h2)
  have a2 : p.1 * r.2 * y ≤ x * (r.2 * p.2) := by
    rw [h1]
    exact Int.mul_le_mul_of_nonneg_right (by omega) (Int.le_of_lt h2)
  refine ⟨?_, h2, ?_, ?_⟩
  · have : 0 ≤ (r.2 * p.2) * x := by
      have q : (r.2 * p.2) * x = x * (r.2 * p.2) := Int.mul_comm _ _
      rw [q, h1]
      exact Int.mul_nonneg (by omega) (Int.le_of_lt h2)
    have z : (r.2 * p.2) * 0 ≤ (r.2 * p.2) * x := by rw [Int.mul_zero]; exact this
    exact Int.le_of_mul_le_mul_left z hd
  · have q1 : p.2 * (r.1 * y) = r.1 * p.2 * y := by grind
    have q2 : p.2 * (x * r.2) = x * (r.2 * p.2) := by grind
    have q : p.2 * (r.1 * y) ≤ p.2 * (x * r.2) := by
      rw [q1, q2]
      exact a1
    exact Int.le_of_mul_le_mul_left q hp2
  · have q1 : r.2 * (p.1 * y) = p.1 * r.2 * y := by grind
    have q2 : r.2 * (x * p.2) = x * (r.2 * p.2) := by grind
    have q : r.2 * (p.1 * y) ≤ r.2 * (x * p.2) := by
      rw [q1, q2]
      exact a2
    exact Int.le_of_mul_le_mul_left q hr2
theorem fold_ge : ∀ {ps : List (Int × Int)} {r : Int × Int}, (∀ p ∈ ps, 0 < p.1 ∧ 0 < p.2) → 0 ≤ r.1 → 0 < r.2 → 0 < (ps.foldl addP r).2 ∧ r.1 * (ps.foldl addP r).2 ≤ (ps.foldl addP r).1 * r.2 ∧ ∀ p ∈ ps, p.1 * (ps.foldl addP r).2 ≤ (ps.foldl addP r).1 * p.2
  | [], r, _, _, h2 => ⟨h2, Int.le_refl _, fun _ h => nomatch h⟩
  | p :: ps, r, hp, h1, h2 => by
    obtain ⟨p1, p2⟩ := hp p List.mem_cons_self
    obtain ⟨a1, a2, a3, a4⟩ := add_ge h1 h2 p1 p2
    obtain ⟨f1, f2, f3⟩ := fold_ge (ps := ps) (r := addP r p) (fun q m => hp q (List.mem_cons_of_mem _ m)) a1 a2
    refine ⟨f1, frac_trans a2 f1 h2 a3 f2, fun q m => ?_⟩
    rcases List.mem_cons.mp m with rfl | m
    · exact frac_trans a2 f1 p2 a4 f2
    · exact f3 q m
theorem sum_le {ps : List (Int × Int)} (hp : ∀ p ∈ ps, 0 < p.1 ∧ 0 < p.2) (h : sumP ps = (1, 1)) : ∀ p ∈ ps, p.1 ≤ p.2 := fun p m => by
  have := (fold_ge (r := (0, 1)) hp (Int.le_refl _) (by decide)).2.2 p m
  rw [show ps.foldl addP (0, 1) = (1, 1) from h] at this
  have this : p.1 * 1 ≤ 1 * p.2 := this
  omega
/-! ### keys that ascend -/
theorem lex_pair {a b : Int × Int} : HT.lexLt [a.1, a.2] [b.1, b.2] = SrtO.lexB a b := by
  unfold SrtO.lexB
  show (if a.1 = b.1 then (if a.2 = b.2 then false else decide (a.2 < b.2)) else decide (a.1 < b.1)) = _
  by_cases e : a.1 = b.1
  · rw [if_pos e, if_pos e]
    by_cases f : a.2 = b.2
    · rw [if_pos f, decide_eq_false (by omega)]
    · rw [if_neg f]
  · rw [if_neg e, if_neg e]
theorem lexB_tr {a b c : Int × Int} (h1 : SrtO.lexB a b = true) (h2 : SrtO.lexB b c = true) : SrtO.lexB a c = true := by
  have h1 := SrtO.lexB_iff.mp h1
  have h2 := SrtO.lexB_iff.mp h2
  refine SrtO.lexB_iff.mpr ?_
  omega
theorem asc_pw : ∀ {ms : List Mv}, ascB (ms.map mvD) = true ↔ (ms.map (·.1)).Pairwise fun a b => SrtO.lexB a b = true
  | [] => ⟨fun _ => .nil, fun _ => rfl⟩
  | [_] => ⟨fun _ => List.pairwise_singleton _ _, fun _ => rfl⟩
  | x :: y :: r => by
    have ih := asc_pw (ms := y :: r)
    have e : ascB ((x :: y :: r).map mvD) = (SrtO.lexB x.1 y.1 && ascB ((y :: r).map mvD)) := by
      show (HT.lexLt [x.1.1, x.1.2] [y.1.1, y.1.2] && _) = _
      rw [lex_pair]
      rfl
    rw [e, Bool.and_eq_true, ih]
    constructor
    · rintro ⟨h1, h2⟩
      refine List.pairwise_cons.mpr ⟨fun z mz => ?_, h2⟩
      rcases List.mem_cons.mp (show z ∈ y.1 :: r.map (·.1) from mz) with rfl | mz
      · exact h1
      · exact lexB_tr h1 ((List.pairwise_cons.mp h2).1 z mz)
    · intro h
      obtain ⟨h1, h2⟩ := List.pairwise_cons.mp h
      exact ⟨h1 _ List.mem_cons_self, h2⟩
theorem strict_uniq : ∀ {l m : List (Int × Int)}, (l.Pairwise fun a b => SrtO.lexB a b = true) → (m.Pairwise fun a b => SrtO.lexB a b = true) → (∀ x, x ∈ l ↔ x ∈ m) → l = m
  | [], [], _, _, _ => rfl
  | [], y :: m, _, _, h => absurd ((h y).mpr List.mem_cons_self) (fun z => nomatch z)
  | x :: l, [], _, _, h => absurd ((h x).mp List.mem_cons_self) (fun z => nomatch z)
  | x :: l, y :: m, hl, hm, h => by
    obtain ⟨l1, l2⟩ := List.pairwise_cons.mp hl
    obtain ⟨m1, m2⟩ := List.pairwise_cons.mp hm
    have irr : ∀ {a b : Int × Int}, SrtO.lexB a b = true → SrtO.lexB b a = true → False := fun {a b} h1 h2 => by
      have h1 := SrtO.lexB_iff.mp h1
      have h2 := SrtO.lexB_iff.mp h2
      omega
    have exy : x = y := by
      rcases List.mem_cons.mp ((h x).mp List.mem_cons_self) with e | hx
      · exact e
      rcases List.mem_cons.mp ((h y).mpr List.mem_cons_self) with e | hy
      · exact e.symm
      exact (irr (m1 x hx) (l1 y hy)).elim
    subst exy
    rw [strict_uniq l2 m2 fun z => ⟨fun mz => ?_, fun mz => ?_⟩]
    · rcases List.mem_cons.mp ((h z).mp (List.mem_cons_of_mem _ mz)) with e | q
      · exact (irr (e ▸ l1 z mz) (e ▸ l1 z mz)).elim
      · exact q
    · rcases List.mem_cons.mp ((h z).mpr (List.mem_cons_of_mem _ mz)) with e | q
      · exact (irr (e ▸ m1 z mz) (e ▸ m1 z mz)).elim
      · exact q
/-- keys are their own sorted set just when they ascend -/
theorem asc_set {ks k2 : List (Int × Int)} (nd : k2.Nodup) (hs : k2.Pairwise fun a b => SrtO.lexB b a = false) (hm : ∀ x, x ∈ ks ↔ x ∈ k2) : ks = k2 ↔ ks.Pairwise fun a b => SrtO.lexB a b = true := by
  have st : k2.Pairwise fun a b => SrtO.lexB a b = true := by
    refine (hs.and nd).imp fun {a b} h => ?_
    have h1 := SrtO.lexB_no.mp h.1
    have : ¬ (a.1 = b.1 ∧ a.2 = b.2) := fun z => h.2 (Prod.ext z.1 z.2)
    refine SrtO.lexB_iff.mpr ?_
    omega
  exact ⟨fun e => by rw [e]; exact st, fun h => strict_uniq h st hm⟩
theorem eqv_keys : ∀ {ks k2 : List (Int × Int)}, PyData.eqvAll (ks.map kD) (k2.map kD) = decide (ks = k2)
  | [], [] => rfl
  | [], _ :: _ => rfl
  | _ :: _, [] => rfl
  | a :: ks, b :: k2 => by
    show (PyData.eqv (kD a) (kD b) && PyData.eqvAll (ks.map kD) (k2.map kD)) = _
    rw [eqv_keys, show PyData.eqv (kD a) (kD b) = decide (a = b) from eqv_pair (p := a) (q := b), Bool.eq_iff_iff, Bool.and_eq_true, decide_eq_true_iff, decide_eq_true_iff, decide_eq_true_iff]
    exact ⟨fun h => by rw [h.1, h.2], fun h => by injection h with h1 h2; exact ⟨h1, h2⟩⟩
theorem canLay_keys : ∀ ks : List (Int × Int), PyData.canLayAll0 (ks.map kD) = true
  | [] => rfl
  | k :: ks => by
    show (PyData.canLay0 (kD k) && PyData.canLayAll0 (ks.map kD)) = true
    rw [canLay_keys ks]
    rfl
theorem depth_keys : ∀ ks : List (Int × Int), PyData.depthAll (ks.map kD) ≤ 2
  | [] => by show 0 ≤ 2; decide
  | k :: ks => by
    show max (PyData.depth (kD k)) (PyData.depthAll (ks.map kD)) ≤ 2
    refine Nat.max_le.mpr ⟨?_, depth_keys ks⟩
    show 0 + 1 ≤ 2
    decide
theorem shaped_keys (ks : List (Int × Int)) : SeqAt.shaped (.list (ks.map kD)) = true := by
  show (PyData.canLay0 (.list (ks.map kD)) && decide (PyData.depth (.list (ks.map kD)) ≤ 64)) = true
  rw [Bool.and_eq_true, decide_eq_true_iff]
  refine ⟨canLay_keys ks, ?_⟩
  have := depth_keys ks
  show PyData.depthAll (ks.map kD) + 1 ≤ 64
  omega
end Ow
namespace Ow
open PySem PySem.Spec PyProof.Rows L2
theorem moves_all {n : Int} {es : List PyData} (h : movesB 12 n (.tuple es) = true) : es.all (lmoveB n) = true := by
  have h : ((decide (1 ≤ es.length) && decide ((es.length : Int) ≤ 12)) && (es.all (moveB n) && decide (sumP (es.map chOf) = (1, 1)))) = true := h
  simp only [Bool.and_eq_true, decide_eq_true_eq, List.all_eq_true] at h
  have hp : ∀ p ∈ es.map chOf, 0 < p.1 ∧ 0 < p.2 := fun p mp => by
    obtain ⟨m, mm, rfl⟩ := List.mem_map.mp mp
    obtain ⟨t, g, a, b, rfl, _, _, _, _, f, pos⟩ := moveB_inv (h.2.1 m mm)
    unfold fracB at f
    simp only [Bool.and_eq_true, decide_eq_true_eq] at f
    exact ⟨pos, by show (0 : Int) < b; have := f.1.2; omega⟩
  have hs := sum_le hp h.2.2
  rw [List.all_eq_true]
  intro m mm
  unfold lmoveB
  rw [h.2.1 m mm, Bool.true_and]
  obtain ⟨t, g, a, b, rfl, _⟩ := moveB_inv (h.2.1 m mm)
  exact decide_eq_true (hs (a, b) (List.mem_map.mpr ⟨_, mm, rfl⟩))
theorem lall_all {n : Int} {es : List PyData} (h : es.all (lmoveB n) = true) : ∀ m ∈ es, moveB n m = true := fun m mm => by
  have := List.all_eq_true.mp h m mm
  unfold lmoveB at this
  exact (Bool.and_eq_true_iff.mp this).1
theorem row_eq {n : Int} {ms : List Mv} (h1 : 1 ≤ ms.length) (h2 : ms.length ≤ 12) (h : ∀ m ∈ ms.map mvD, moveB n m = true) : (movesB 12 n (msD ms) && ascD (msD ms)) = (decide (sumP (ms.map (·.2)) = (1, 1)) && ascB (ms.map mvD)) := by
  have e : movesB 12 n (msD ms) = decide (sumP (ms.map (·.2)) = (1, 1)) := by
    show ((decide (1 ≤ (ms.map mvD).length) && decide (((ms.map mvD).length : Int) ≤ 12)) && ((ms.map mvD).all (moveB n) && decide (sumP ((ms.map mvD).map chOf) = (1, 1)))) = _
    rw [List.length_map, decide_eq_true h1, decide_eq_true (show ((ms.length : Nat) : Int) ≤ 12 by omega), List.all_eq_true.mpr h, List.map_map]
    rfl
  rw [e]
  rfl
theorem c_setT {X : Cx} {K : PySem.W.Frag} {P : Program} {w : World} (hc : X.calm = true) (hu : X.A.units + 64 < cLine) (h : X.K = K := by rfl) (h2 : X.prog = P := by rfl) (h3 : X.w = w := by rfl) : CallR X (.type "set") (rSetOfT K P w) := by
  subst h h2 h3
  exact cr_setOfT hc hu
theorem c_sortedST {X : Cx} {P : Program} {w : World} (hc : X.calm = true) (h2 : X.prog = P := by rfl) (h3 : X.w = w := by rfl) : CallR X (.builtin "sorted") (rSortedST P w) := by
  subst h2 h3
  exact cr_sortedST hc
theorem dp_keys {K : PySem.W.Frag} {H : Hp} : ∀ {xs : List V} {ks : List (Int × Int)}, Paired (fun v k => ∃ q, v = V.ref q ∧ H q = some (.tup [.int k.1, .int k.2])) xs ks → DpAll K H xs (ks.map kD)
  | [], [], .nil => .nil
  | _ :: _, _ :: _, .cons ⟨q, e, h⟩ t => by
    subst e
    exact .cons (.tup (sqt h) (.cons (.int _) (.cons (.int _) .nil))) (dp_keys t)
theorem game_at {gs : List PyData} {ms : PyData} (h : gameB (.tuple gs) = true) (m : ms ∈ gs) : (movesB 12 gs.length ms && ascD ms) = true := by
  have h : ((decide (1 ≤ gs.length) && decide (gs.length ≤ 8)) && gs.all fun ms => movesB 12 gs.length ms && ascD ms) = true := h
  exact List.all_eq_true.mp (Bool.and_eq_true_iff.mp h).2 ms m
end Ow
namespace Ow
open PySem PySem.Spec PyProof.Rows L2
def KAt (H : Hp) (v : V) (k : Int × Int) : Prop := ∃ q, v = V.ref q ∧ H q = some (.tup [.int k.1, .int k.2])
theorem KAt.same {H H' : Hp} {v : V} {k : Int × Int} (h : KAt H v k) (s : Same H H') : KAt H' v k := by
  obtain ⟨q, e, h⟩ := h
  exact ⟨q, e, s _ _ h⟩
theorem kat_L {H : Hp} : ∀ {kr : List V} {ks : List (Int × Int)}, Paired (KAt H) kr ks → ∃ L0 : List (Addr × List Int), kr = L0.map (fun p => V.ref p.1) ∧ L0.map (·.2) = ks.map (fun k => [k.1, k.2]) ∧ ∀ p ∈ L0, ∃ i j : Int, p.2 = [i, j] ∧ H p.1 = some (.tup [.int i, .int j])
  | [], [], .nil => ⟨[], rfl, rfl, fun _ h => nomatch h⟩
  | _ :: _, k :: _, .cons ⟨q, e, h⟩ t => by
    obtain ⟨L0, e1, e2, f⟩ := kat_L t
    refine ⟨(q, [k.1, k.2]) :: L0, by rw [e, e1]; rfl, by rw [List.map_cons, List.map_cons, e2], fun p mp => ?_⟩
    rcases List.mem_cons.mp mp with rfl | mp
    · exact ⟨k.1, k.2, rfl, h⟩
    · exact f p mp
theorem kat_of {H : Hp} : ∀ {L : List (Addr × List Int)}, (∀ p ∈ L, ∃ i j : Int, p.2 = [i, j] ∧ H p.1 = some (.tup [.int i, .int j])) → ∃ kL : List (Int × Int), Paired (KAt H) (L.map fun p => V.ref p.1) kL ∧ L.map (·.2) = kL.map (fun k => [k.1, k.2])
  | [], _ => ⟨[], .nil, rfl⟩
  | p :: L, h => by
    obtain ⟨i, j, e, f⟩ := h p List.mem_cons_self
    obtain ⟨kL, h1, h2⟩ := kat_of fun q m => h q (List.mem_cons_of_mem _ m)
    exact ⟨(i, j) :: kL, .cons ⟨p.1, rfl, f⟩ h1, by rw [List.map_cons, List.map_cons, h2, e]⟩
theorem two_inj {l m : List (Int × Int)} {x : Int × Int} (h : [x.1, x.2] ∈ l.map (fun k => [k.1, k.2])) : x ∈ l := by
  obtain ⟨y, my, e⟩ := List.mem_map.mp h
  injection e with e1 e
  injection e with e2 _
  rw [← Prod.ext e1 e2]
  exact my
theorem kat_sorted {H : Hp} {L0 L : List (Addr × List Int)} {ks : List (Int × Int)} (e : L0.map (·.2) = ks.map fun k => [k.1, k.2]) (f : ∀ p ∈ L0, ∃ i j : Int, p.2 = [i, j] ∧ H p.1 = some (.tup [.int i, .int j])) (h1 : ∀ p ∈ L, p ∈ L0) (h2 : ∀ p ∈ L0, p.2 ∈ L.map (·.2)) (nd : (L.map (·.2)).Nodup) {ys : List V}
    (pm : ys.Perm (L.map fun q => V.ref q.1)) (srt : SrtO.Srtd (ltP (key3 H)) ys) : ∃ k2 : List (Int × Int), Paired (KAt H) ys k2 ∧ k2.Nodup ∧ (k2.Pairwise fun a b => SrtO.lexB b a = false) ∧ ∀ x, x ∈ ks ↔ x ∈ k2 := by
  obtain ⟨kL, hk, ek⟩ := kat_of fun p m => f p (h1 p m)
  obtain ⟨k2, hy, p2⟩ := pr_perm pm hk
  have ndL : kL.Nodup := by
    rw [ek, List.Nodup, List.pairwise_map] at nd
    exact nd.imp fun q z => q (by rw [z])
  refine ⟨k2, hy, p2.nodup_iff.mpr ndL, pr_pairwise (fun x y k l hk hl h => ?_) hy srt, fun x => ?_⟩
  · obtain ⟨q1, rfl, g1⟩ := hk
    obtain ⟨q2, rfl, g2⟩ := hl
    have h : SrtO.lexB (key3 H (.ref q2)) (key3 H (.ref q1)) = false := h
    rw [key3_at g1, key3_at g2] at h
    exact h
  · rw [p2.mem_iff]
    constructor
    · intro mx
      have : [x.1, x.2] ∈ L0.map (·.2) := by rw [e]; exact List.mem_map.mpr ⟨x, mx, rfl⟩
      obtain ⟨p, mp, ep⟩ := List.mem_map.mp this
      have q := h2 p mp
      rw [ep, ek] at q
      exact two_inj (m := []) q
    · intro mx
      have : [x.1, x.2] ∈ L.map (·.2) := by rw [ek]; exact List.mem_map.mpr ⟨x, mx, rfl⟩
      obtain ⟨p, mp, ep⟩ := List.mem_map.mp this
      have q : p.2 ∈ L0.map (·.2) := List.mem_map.mpr ⟨p, h1 p mp, rfl⟩
      rw [ep, e] at q
      exact two_inj (m := []) q
end Ow
/-! t + u of tuples, the left one empty or not. -/
namespace Ow
open PySem PySem.Spec PyProof.Rows L2
/-- t + u: a new tuple, or one of both where the other is empty -/
def rCatE (K : PySem.W.Frag) : R2 := fun x y H Q => ∃ a b xs ys, x = .ref a ∧ y = .ref b ∧ H a = some (.tup xs) ∧ H b = some (.tup ys) ∧ xs.length + ys.length ≤ sizeLine ∧
  ∀ p H', Same H H' → H' p = some (.tup (xs ++ ys)) → Q (.ref p) H'
theorem cat_tup0 {prog : Program} {w : World} {A : Around} {E : Value → Shared → Prop} {s : Shared} {t b : Addr} {ws : List Value} {Q : Value → Shared → Prop} (ht : IsTup s.heap t #[]) (hb : IsTup s.heap b ws.toArray) (h : Q (.ref b) s) : wpAny (model prog w) A (binaryOp .Add (.ref t) (.ref b)) Q E s := by
  obtain ⟨⟨cls, dd, data, sl⟩, ho, hc, n, hd⟩ := id ht
  obtain ⟨⟨cls2, dd2, data2, sl2⟩, ho2, hc2, n2, hd2⟩ := id hb
  simp only at hc hd hc2 hd2
  subst hc hd hc2 hd2
  exact concat_meets ⟨_, ho, rfl⟩ ⟨_, ho2, rfl⟩ PySem.noFill_tuple_add PySem.seq_tuple_add PySem.F.slot_tuple_add PySem.F.entry_tuple_add (PySem.F.args_tuple_add_2 _ _)
    (tuple_addW0 t b #[] ws.toArray n n2 dd dd2 sl sl2 (by simp)) ⟨ho, ho2, h⟩
theorem op_catE {X : Cx} {K : PySem.W.Frag} (h : X.K = K := by rfl) : OpR X (binaryOp .Add) (rCatE K) := by
  subst h
  intro pins s σ H x y v u Q I rx ry h
  obtain ⟨a, b, xs, ys, rfl, rfl, ha, hb, hz, q⟩ := h
  cases xs with
  | nil =>
    cases rx
    cases ry
    obtain ⟨its, r1, p1, _⟩ := I.tuple (sqt ha)
    obtain ⟨its2, r2, p2, _⟩ := I.tuple (sqt hb)
    cases r1
    exact cat_tup0 p1 p2 ⟨.ref b, H, I, rfl, q b H (Same.refl H) hb⟩
  | cons x0 xs =>
    refine op_catT pins s σ H _ _ v u Q I rx ry ⟨a, b, x0 :: xs, ys, rfl, rfl, sqt ha, sqt hb, (fun z => nomatch z), hz, fun e => ?_, fun _ p np => ?_⟩
    · subst e
      exact q a H (Same.refl H) (by rw [List.append_nil]; exact ha)
    · exact q p _ (same_new np) upd_same
/-! ### what _law_bent wants: ways that come together, displays with reckoned numbers, a list that changes beside the dice -/
theorem y_joinI {σ : L2.St} {H : Hp} {k : Bool} {t : TS} {n b c : L2.St → Hp → Prop} {rt : VK} (Inv : L2.St → Hp → Prop) (h0 : Inv σ H) (hJ : ∀ σ' H', Inv σ' H' → n σ' H') (h : k = true → (∀ σ' H', Inv σ' H' → n σ' H') → t ⟨n, rt, b, c⟩ σ H) :
    if k = true then t ⟨n, rt, b, c⟩ σ H else tNext ⟨n, rt, b, c⟩ σ H := by
  cases k with
  | true => exact iteT (h rfl hJ)
  | false => exact iteF (hJ σ H h0)
section
variable {d : Addr} {H0 : Hp} {σ : L2.St}
theorem dae_addv {i : Nat} {a b : Int} (e : σ[i]? = some (some (.int a))) : DaE d H0 σ (tOp (rI0 fun i j => .int (i + j)) (tVar i) (tC (.int b))) (.int (a + b)) := fun H Q _ k =>
  ⟨_, e, y_I0 (k _ H (Same.refl H) (.int _))⟩
theorem dae_len {K : PySem.W.Frag} {i : Nat} {v : V} {ds : List PyData} (e : σ[i]? = some (some v)) (h : Da (tu H0) v (.tuple ds)) : DaE d H0 σ (tCB (rLenQ K) (tCons (tVar i) tNil)) (.int (ds.length : Nat)) := fun H Q s k => by
  cases h with
  | tup eg hg =>
  refine ⟨_, e, y_lenT (sqt (s _ _ (tu_sub _ _ eg))) ?_⟩
  rw [hg.len]
  exact k _ H (Same.refl H) (.int _)
end
theorem sans2_upd {H : Hp} {d M : Addr} {o : HO} (n : M ≠ d) : sans (sans (upd H M o) d) M = sans (sans H d) M := by
  funext b
  unfold sans
  by_cases h1 : b = M
  · rw [if_pos h1, if_pos h1]
  · rw [if_neg h1, if_neg h1]
    by_cases h2 : b = d
    · rw [if_pos h2, if_pos h2]
    · rw [if_neg h2, if_neg h2]
      exact upd_ne h1
theorem sans2_mono {H H' : Hp} {d M : Addr} (s : Same H H') : Same (sans (sans H d) M) (sans (sans H' d) M) := sans_mono (sans_mono s)
theorem sans2_fr {H H' : Hp} {d M : Addr} (f : Fr d H H') : Same (sans (sans H d) M) (sans (sans H' d) M) := sans_mono (sans_fr f)
theorem tu_sans2 {H : Hp} {d M : Addr} {xs : List V} (D : DiceAt H d) (h : H M = some (.lst xs)) : Same (tu H) (sans (sans H d) M) := fun b o e => by
  have q := tu_sans D b o e
  obtain ⟨ys, rfl, e1⟩ := tu_inv e
  refine sans_at (fun z => ?_) q
  rw [z, h] at e1
  cases e1
theorem DaL.setD {H : Hp} : ∀ {xs : List V} {es : List PyData} {j : Nat} {v : V} {x : PyData}, DaL H xs es → Da H v x → DaL H (xs.set j v) (es.set j x)
  | [], [], _, _, _, .nil, _ => .nil
  | _ :: _, _ :: _, 0, _, _, .cons _ t, h => .cons h t
  | _ :: _, _ :: _, j + 1, _, _, .cons a t, h => .cons a (DaL.setD (j := j) t h)
theorem smDs_set : ∀ {es : List PyData} {j : Nat} {x : PyData}, smDs es = true → smD x = true → smDs (es.set j x) = true
  | [], _, _, _, _ => rfl
  | a :: es, 0, x, h, hx => by
    show (smD x && smDs es) = true
    rw [hx, (Bool.and_eq_true_iff.mp (show (smD a && smDs es) = true from h)).2]
    rfl
  | a :: es, j + 1, x, h, hx => by
    obtain ⟨h1, h2⟩ := Bool.and_eq_true_iff.mp (show (smD a && smDs es) = true from h)
    show (smD a && smDs (es.set j x)) = true
    rw [h1, smDs_set h2 hx]
    rfl
theorem smDs_app : ∀ {es fs : List PyData}, smDs es = true → smDs fs = true → smDs (es ++ fs) = true
  | [], _, _, h => h
  | a :: es, fs, h, hf => by
    obtain ⟨h1, h2⟩ := Bool.and_eq_true_iff.mp (show (smD a && smDs es) = true from h)
    show (smD a && smDs (es ++ fs)) = true
    rw [h1, smDs_app h2 hf]
    rfl
theorem ms_small {n : Nat} (hn : n ≤ 3) : ∀ {ms : List Mv}, (∀ m ∈ ms, MvOk n m) → smDs (ms.map mvD) = true
  | [], _ => rfl
  | m :: ms, h => by
    obtain ⟨t0, tn, g0, g1, c⟩ := h m List.mem_cons_self
    show (smD (mvD m) && smDs (ms.map mvD)) = true
    rw [ms_small hn fun x mx => h x (List.mem_cons_of_mem _ mx), Bool.and_true]
    show (decide (m.1.1.natAbs < 1024) && (decide (m.1.2.natAbs < 1024) && ((decide (m.2.1.natAbs < 1024) && (decide (m.2.2.natAbs < 1024) && true)) && true))) = true
    have q1 := c.pos
    have q2 := c.le
    have q3 := c.sm
    rw [decide_eq_true (show m.1.1.natAbs < 1024 by omega), decide_eq_true (show m.1.2.natAbs < 1024 by omega), decide_eq_true (show m.2.1.natAbs < 1024 by omega), decide_eq_true (show m.2.2.natAbs < 1024 by omega)]
    rfl
/-- a tuple of three -/
def is3 : PyData → Bool
  | .tuple [_, _, _] => true
  | _ => false
theorem is3_inv {e : PyData} (h : is3 e = true) : ∃ x y z, e = .tuple [x, y, z] := by
  unfold is3 at h
  split at h
  · exact ⟨_, _, _, rfl⟩
  · cases h
theorem all_set {p : PyData → Bool} : ∀ {es : List PyData} {j : Nat} {x : PyData}, es.all p = true → p x = true → (es.set j x).all p = true
  | [], _, _, _, _ => rfl
  | a :: es, 0, x, h, hx => by
    rw [List.all_cons, Bool.and_eq_true] at h
    show ((x :: es).all p) = true
    rw [List.all_cons, hx, h.2]
    rfl
  | a :: es, j + 1, x, h, hx => by
    rw [List.all_cons, Bool.and_eq_true] at h
    show ((a :: es.set j x).all p) = true
    rw [List.all_cons, h.1, all_set h.2 hx]
    rfl
theorem mv_is3 : ∀ ms : List Mv, (ms.map mvD).all is3 = true
  | [] => rfl
  | _ :: r => mv_is3 r
def spBent : Sp := fun vs H Q _ => ∃ d gv n g, vs = [.ref d, gv] ∧ DiceAt H d ∧ 1 ≤ n ∧ n ≤ 3 ∧ GmOk n g ∧ Da (tu H) gv (gmD g) ∧ ∀ v x H', Da (sans H' d) v x → smD x = true → DiceAt H' d → Fr d H H' → Q v H'
/-- the state between the ways: M is the list of moves that is bent -/
def BSt (d : Addr) (gv : V) (n : Nat) (g : Gm) (H0 : Hp) (at_ way spot t gn : Int) (cv : V) (c : Int × Int) (σ : L2.St) (H : Hp) : Prop := ∃ (M : Addr) (xs : List V) (es : List PyData),
  σ = [some (.ref d), some gv, some (.int at_), some (.int way), some (.ref M), some (.int spot), some (.int t), some (.int gn), some cv, none] ∧ H M = some (.lst xs) ∧ DaL (sans (sans H d) M) xs es ∧ (smDs es = true ∧ es.all is3 = true) ∧ 0 < xs.length ∧ spot < xs.length ∧ xs.length ≤ 100 ∧ M ≠ d ∧ H0 M = none ∧ DiceAt H d ∧ Fr d H0 H ∧ Da (tu H) gv (gmD g) ∧ Da (tu H) cv (frD c)
/-! ### displays of data beside two things that change: the dice at d, a list at M -/
def DaF (d M : Addr) (H0 : Hp) (σ : L2.St) (te : TE) (dd : PyData) : Prop := ∀ H Q, Same H0 H → (∀ v H', Same H H' → Da (sans (sans H' d) M) v dd → Q v H') → te σ H Q
def DaG (d M : Addr) (H0 : Hp) (σ : L2.St) (ta : TA) (ds : List PyData) : Prop := ∀ H R, Same H0 H → (∀ vs H', Same H H' → DaL (sans (sans H' d) M) vs ds → R vs H') → ta σ H R
theorem sans2_at {H : Hp} {d M p : Addr} {o : HO} (n : p ≠ d) (n2 : p ≠ M) (e : H p = some o) : sans (sans H d) M p = some o := sans_at n2 (sans_at n e)
section
variable {d M : Addr} {H0 : Hp} {σ : L2.St} {te : TE} {ta : TA} {x : PyData} {ds : List PyData} {mxs : List V}
theorem daf_int {i : Int} : DaF d M H0 σ (tC (.int i)) (.int i) := fun H Q _ k => k _ H (Same.refl H) (.int i)
theorem daf_str {i : Str} : DaF d M H0 σ (tC (.str i)) (.str i) := fun H Q _ k => k _ H (Same.refl H) (.str i)
theorem daf_non : DaF d M H0 σ (tC .non) .none := fun H Q _ k => k _ H (Same.refl H) .non
theorem daf_bl {b : Bool} : DaF d M H0 σ (tC (.bl b)) (.bool b) := fun H Q _ k => k _ H (Same.refl H) (.bl b)
theorem daf_neg {i : Int} : DaF d M H0 σ (tUn (rU fun i => .int (-i)) (tC (.int i))) (.int (-i)) := fun H Q _ k => ⟨i, rfl, k _ H (Same.refl H) (.int _)⟩
theorem daf_var {i : Nat} {v : V} (e : σ[i]? = some (some v)) (h : Da (sans (sans H0 d) M) v x) : DaF d M H0 σ (tVar i) x := fun H Q s k => ⟨v, e, k v H (Same.refl H) (h.same (sans2_mono s))⟩
theorem daf_addv {i : Nat} {a b : Int} (e : σ[i]? = some (some (.int a))) : DaF d M H0 σ (tOp (rI0 fun i j => .int (i + j)) (tVar i) (tC (.int b))) (.int (a + b)) := fun H Q _ k =>
  ⟨_, e, y_I0 (k _ H (Same.refl H) (.int _))⟩
theorem daf_len {K : PySem.W.Frag} {i : Nat} {v : V} {ds : List PyData} (e : σ[i]? = some (some v)) (h : Da (tu H0) v (.tuple ds)) : DaF d M H0 σ (tCB (rLenQ K) (tCons (tVar i) tNil)) (.int (ds.length : Nat)) := fun H Q s k => by
  cases h with
  | tup eg hg =>
  refine ⟨_, e, y_lenT (sqt (s _ _ (tu_sub _ _ eg))) ?_⟩
  rw [hg.len]
  exact k _ H (Same.refl H) (.int _)
theorem dag_nil : DaG d M H0 σ tNil [] := fun H R _ k => k [] H (Same.refl H) .nil
theorem dag_cons (h : DaF d M H0 σ te x) (t : DaG d M H0 σ ta ds) : DaG d M H0 σ (tCons te ta) (x :: ds) := fun H R s k =>
  h H _ s fun v H1 s1 h1 => t H1 _ (s.trans s1) fun vs H2 s2 h2 => k (v :: vs) H2 (s1.trans s2) (.cons (h1.same (sans2_mono s2)) h2)
theorem daf_tup (D : DiceAt H0 d) (eM : H0 M = some (.lst mxs)) (hl : ds.length ≤ 1000) (t : DaG d M H0 σ ta ds) : DaF d M H0 σ (tTup ta) (.tuple ds) := fun H Q s k =>
  t H _ s fun vs H1 s1 h1 => ⟨sz_le (by rw [h1.len]; omega), fun p np => k _ _ (s1.trans (same_new np)) (.tup (sans2_at ((D.same (s.trans s1)).ne np) (ne_of_none ((s.trans s1) _ _ eM) np).symm upd_same) (h1.same (sans2_mono (same_new np))))⟩
theorem daf_lst (D : DiceAt H0 d) (eM : H0 M = some (.lst mxs)) (hl : ds.length ≤ 1000) (t : DaG d M H0 σ ta ds) : DaF d M H0 σ (tLst ta) (.list ds) := fun H Q s k =>
  t H _ s fun vs H1 s1 h1 => ⟨sz_le (by rw [h1.len]; omega), fun p np => k _ _ (s1.trans (same_new np)) (.lst (sans2_at ((D.same (s.trans s1)).ne np) (ne_of_none ((s.trans s1) _ _ eM) np).symm upd_same) (h1.same (sans2_mono (same_new np))))⟩
end
theorem DaF.use {d M : Addr} {H : Hp} {σ : L2.St} {te : TE} {x : PyData} {Q : VK} (h : DaF d M H σ te x) (k : ∀ v H', Same H H' → Da (sans (sans H' d) M) v x → Q v H') : te σ H Q := h H Q (Same.refl H) k
theorem sans_ne {H : Hp} {d b : Addr} {o : HO} (e : sans H d b = some o) : b ≠ d := fun z => by
  unfold sans at e
  rw [if_pos z] at e
  cases e
end Ow
/-! The other ways of _law_bent: the list made anew, and what is found. -/
namespace Ow
open PySem PySem.Spec PyProof.Rows L2
theorem DaL.take {H : Hp} : ∀ {xs : List V} {ds : List PyData} (n : Nat), DaL H xs ds → DaL H (xs.take n) (ds.take n)
  | _, _, 0, h => by rw [List.take_zero, List.take_zero]; exact .nil
  | [], [], _ + 1, .nil => .nil
  | _ :: _, _ :: _, n + 1, .cons h t => .cons h (DaL.take n t)
theorem DaL.rev {H : Hp} : ∀ {xs : List V} {ds : List PyData}, DaL H xs ds → DaL H xs.reverse ds.reverse
  | [], [], .nil => .nil
  | _ :: _, _ :: _, .cons h t => by
    rw [List.reverse_cons, List.reverse_cons]
    exact DaL.app (DaL.rev t) (.cons h .nil)
theorem smDs_of {es : List PyData} (h : ∀ e ∈ es, smD e = true) : smDs es = true := by
  induction es with
  | nil => rfl
  | cons a es ih =>
    show (smD a && smDs es) = true
    rw [h a List.mem_cons_self, ih fun e me => h e (List.mem_cons_of_mem _ me)]
    rfl
theorem cut_init {xs : List V} (h : 1 ≤ xs.length) : cutV xs none (some (-1)) = xs.take (xs.length - 1) := by
  unfold cutV
  have e : HT.sIx xs.length xs.length (some (-1)) = xs.length - 1 := by
    have q := HT.clip_eq (-1) xs.length xs.length
    rw [if_pos (by decide)] at q
    omega
  rw [e, HT.sIx_none]
  rfl
theorem cut_to {xs : List V} {n : Nat} (h : n ≤ xs.length) : cutV xs none (some (n : Int)) = xs.take n := by
  unfold cutV
  rw [HT.sIx_nat, HT.sIx_none, Nat.min_eq_left h]
  rfl
section
variable {d M : Addr} {H0 : Hp} {σ : L2.St} {K : PySem.W.Frag} {xs : List V} {es : List PyData}
theorem daf_rev (D : DiceAt H0 d) (eM : H0 M = some (.lst xs)) (hes : DaL (sans (sans H0 d) M) xs es) (e : σ[4]? = some (some (.ref M))) : DaF d M H0 σ (tRevL K (tVar 4)) (.list es.reverse) := fun H Q s k =>
  y_revL ⟨_, e, ⟨M, xs, rfl, sql (s _ _ eM), fun p np => k _ _ (same_new np) (.lst (sans2_at ((D.same s).ne np) (ne_of_none (s _ _ eM) np).symm upd_same) ((hes.same (sans2_mono (s.trans (same_new np)))).rev))⟩⟩
theorem daf_init (D : DiceAt H0 d) (eM : H0 M = some (.lst xs)) (hes : DaL (sans (sans H0 d) M) xs es) (l0 : 1 ≤ xs.length) (e : σ[4]? = some (some (.ref M))) :
    DaF d M H0 σ (tSl (rSlL K) (tVar 4) tNoPart (tPart (tUn (rU fun i => V.int (-i)) (tC (V.int 1))))) (.list (es.take (xs.length - 1))) := fun H Q s k =>
  y_sl ⟨_, e, ⟨1, rfl, _, rfl, M, xs, rfl, sql (s _ _ eM), fun p np => by
    rw [cut_init l0]
    exact k _ _ (same_new np) (.lst (sans2_at ((D.same s).ne np) (ne_of_none (s _ _ eM) np).symm upd_same) ((hes.same (sans2_mono (s.trans (same_new np)))).take _))⟩⟩
theorem daf_dbl (D : DiceAt H0 d) (eM : H0 M = some (.lst xs)) (hes : DaL (sans (sans H0 d) M) xs es) (l1 : xs.length ≤ 100) (e : σ[4]? = some (some (.ref M))) :
    DaF d M H0 σ (tOp rCat (tVar 4) (tVar 4)) (.list (es ++ es)) := fun H Q s k =>
  ⟨_, e, ⟨_, e, ⟨M, M, xs, xs, rfl, rfl, s _ _ eM, s _ _ eM, sz_le (by omega), fun p np => k _ _ (same_new np) (.lst (sans2_at ((D.same s).ne np) (ne_of_none (s _ _ eM) np).symm upd_same)
    ((hes.same (sans2_mono (s.trans (same_new np)))).app (hes.same (sans2_mono (s.trans (same_new np))))))⟩⟩⟩
theorem daf_head (D : DiceAt H0 d) (eM : H0 M = some (.lst xs)) {x y z : PyData} {er : List PyData} (hes : DaL (sans (sans H0 d) M) xs (.tuple [x, y, z] :: er)) (l1 : xs.length ≤ 100) (e : σ[4]? = some (some (.ref M))) :
    DaF d M H0 σ (tOp rCat (tLst (tCons (tOp (rCatE K) (tOp (rIxL K) (tVar 4) (tC (V.int 0))) (tTup (tCons (tC (V.int 0)) tNil))) tNil)) (tSl (rSlL K) (tVar 4) (tPart (tC (V.int 1))) tNoPart)) (.list (.tuple [x, y, z, .int 0] :: er)) := fun H Q s k => by
  cases hes with
  | @cons v _ xr' _ hv hr =>
  rename_i xr
  cases hv with
  | @tup a us _ ea hu =>
  have hlu := hu.len
  refine y_op (y_lst (y_cons (y_op (y_op ⟨_, e, ?_⟩)) ))
  refine ⟨M, _, 0, _, rfl, rfl, sql (s _ _ eM), at_nat (Int.le_refl 0) rfl, ?_⟩
  refine y_tup (y_cons (y_con (y_nil ⟨by show 1 ≤ sizeLine; decide, fun p np => ?_⟩)))
  have s1 : Same H (upd H p (.tup [.int 0])) := same_new np
  have ep : (upd H p (.tup [.int 0])) p = some (.tup [.int 0]) := upd_same
  have npd := (D.same s).ne np
  have npM := (ne_of_none (s _ _ eM) np).symm
  generalize upd H p (.tup [.int 0]) = H1 at s1 ep ⊢
  have s01 := s.trans s1
  refine ⟨a, p, us, [.int 0], rfl, rfl, s01 _ _ (sans_sub _ _ (sans_sub _ _ ea)), ep, sz_le (by rw [hlu]; show 3 + 1 ≤ 100000; decide), fun q H2 s2 eq => ?_⟩
  refine y_nil ⟨by show 1 ≤ sizeLine; decide, fun l nl => ?_⟩
  have s3 : Same H2 (upd H2 l (.lst [.ref q])) := same_new nl
  have el : (upd H2 l (.lst [.ref q])) l = some (.lst [.ref q]) := upd_same
  generalize upd H2 l (.lst [.ref q]) = H3 at s3 el ⊢
  have s03 := (s01.trans s2).trans s3
  refine y_sl ⟨_, e, ⟨1, rfl, M, _, rfl, sql (s03 _ _ eM), fun r nr => ?_⟩⟩
  have ec : cutV (V.ref a :: xr) (some 1) none = xr := cut_from (xs := V.ref a :: xr) (n := 1) (by simp)
  rw [ec]
  have s4 : Same H3 (upd H3 r (.lst xr)) := same_new nr
  have er : (upd H3 r (.lst xr)) r = some (.lst xr) := upd_same
  generalize upd H3 r (.lst xr) = H4 at s4 er ⊢
  have s04 := s03.trans s4
  refine ⟨l, r, _, _, rfl, rfl, s4 _ _ el, er, sz_le (by simp at l1 ⊢; omega), fun t nt => ?_⟩
  have s5 : Same H4 (upd H4 t (.lst ([.ref q] ++ xr))) := same_new nt
  have s05 := s04.trans s5
  have sE : Same H _ := ((s1.trans s2).trans (s3.trans s4)).trans s5
  have eq5 := ((s3.trans s4).trans s5) _ _ eq
  have nd : q ≠ d := fun z => by
    obtain ⟨_, _, _, E⟩ := D
    have := ((s01.trans s2)) _ _ E
    rw [← z, eq] at this
    cases this
  have nM : q ≠ M := fun z => by
    have := ((s01.trans s2)) _ _ eM
    rw [← z, eq] at this
    cases this
  refine k _ _ sE (.lst (sans2_at ((D.same s04).ne nt) (ne_of_none (s04 _ _ eM) nt).symm upd_same) (.cons (.tup (sans2_at nd nM eq5) ((hu.same (sans2_mono s05)).app (.cons (.int 0) .nil))) (hr.same (sans2_mono s05))))
theorem daf_two (D : DiceAt H0 d) (eM : H0 M = some (.lst xs)) {x y z : PyData} {er : List PyData} (hes : DaL (sans (sans H0 d) M) xs (.tuple [x, y, z] :: er)) (e : σ[4]? = some (some (.ref M))) :
    DaF d M H0 σ (tSl (rSlT K) (tOp (rIxL K) (tVar 4) (tC (V.int 0))) tNoPart (tPart (tC (V.int 2)))) (.tuple [x, y]) := fun H Q s k => by
  cases hes with
  | @cons v _ xr' _ hv hr =>
  rename_i xr
  cases hv with
  | @tup a us _ ea hu =>
  have hlu : us.length = 3 := hu.len
  refine y_sl (y_op ⟨_, e, ?_⟩)
  refine ⟨M, _, 0, _, rfl, rfl, sql (s _ _ eM), at_nat (Int.le_refl 0) rfl, ?_⟩
  refine ⟨2, rfl, a, us, rfl, sqt (s _ _ (sans_sub _ _ (sans_sub _ _ ea))), by rw [hlu]; exact cut2, fun p np => ?_⟩
  have ec : cutV us none (some 2) = us.take 2 := cut_to (n := 2) (by omega)
  rw [ec]
  exact k _ _ (same_new np) (.tup (sans2_at ((D.same s).ne np) (ne_of_none (s _ _ eM) np).symm upd_same) ((hu.same (sans2_mono (s.trans (same_new np)))).take 2))
end
section
variable {d : Addr} {H0 : Hp} {σ : L2.St} {K : PySem.W.Frag} {te tf : TE}
theorem dae_sl {i : Nat} {lo hi : Option Int} {tl th : TO} {v : V} {ds es : List PyData} (D : DiceAt H0 d) (e : σ[i]? = some (some v)) (h : Da (sans H0 d) v (.tuple ds)) (hl : ∀ H R, R lo H → tl σ H R) (hh : ∀ H R, R hi H → th σ H R)
    (hw : ¬ (HT.sIx ds.length 0 lo = 0 ∧ HT.sIx ds.length ds.length hi = ds.length)) (hc : ∀ H xs, DaL H xs ds → DaL H (cutV xs lo hi) es) : DaE d H0 σ (tSl (rSlT K) (tVar i) tl th) (.tuple es) := fun H Q s k => by
  cases h with
  | @tup a xs _ ea hx =>
  have hlx := hx.len
  refine y_sl ⟨_, e, hl _ _ (hh _ _ ⟨a, xs, rfl, sqt (s _ _ (sans_sub _ _ ea)), by rw [hlx]; exact hw, fun p np => ?_⟩)⟩
  exact k _ _ (same_new np) (.tup (sans_at ((D.same s).ne np) upd_same) (hc _ _ (hx.same (sans_mono (s.trans (same_new np))))))
theorem dae_cat {ls rs : List PyData} (D : DiceAt H0 d) (h1 : DaE d H0 σ te (.tuple ls)) (h2 : DaE d H0 σ tf (.tuple rs)) (hz : ls.length + rs.length ≤ 1000) : DaE d H0 σ (tOp (rCatE K) te tf) (.tuple (ls ++ rs)) := fun H Q s k => by
  refine y_op (h1 H _ s fun v H1 s1 d1 => h2 H1 _ (s.trans s1) fun u H2 s2 d2 => ?_)
  cases d1 with
  | @tup a xs _ ea hx =>
  cases d2 with
  | @tup b ys _ eb hy =>
  have hlx := hx.len
  have hly := hy.len
  refine ⟨a, b, xs, ys, rfl, rfl, s2 _ _ (sans_sub _ _ ea), sans_sub _ _ eb, sz_le (by omega), fun p H3 s3 ep => ?_⟩
  have nd : p ≠ d := fun z => by
    obtain ⟨_, _, _, E⟩ := D
    have := (((s.trans s1).trans s2).trans s3) _ _ E
    rw [← z, ep] at this
    cases this
  exact k _ _ ((s1.trans s2).trans s3) (.tup (sans_at nd ep) ((hx.same (sans_mono (s2.trans s3))).app (hy.same (sans_mono s3))))
/-- the moves as they are, or as a tuple -/
theorem dae_pickW {way : Int} {N : Addr} {ys : List V} {fs : List PyData} (D : DiceAt H0 d) (e3 : σ[3]? = some (some (.int way))) (e : σ[4]? = some (some (.ref N))) (eN : H0 N = some (.lst ys)) (nN : N ≠ d) (hf : DaL (sans H0 d) ys fs) :
    DaE d H0 σ (tIf (tTest (tOp rEq (tVar 3) (tC (V.int 4)))) (tVar 4) (tCB (rTupQ K) (tCons (tVar 4) tNil))) (if way = 4 then .list fs else .tuple fs) := fun H Q s k => by
  refine y_if (y_test (y_op ⟨_, e3, y_con (y_eqI (y_bl ?_))⟩))
  by_cases h : way = 4
  · rw [if_pos h] at k
    rw [if_pos (decide_eq_true h)]
    exact ⟨_, e, k _ _ (Same.refl H) (.lst (sans_at nN (s _ _ eN)) (hf.same (sans_mono s)))⟩
  · rw [if_neg h] at k
    rw [if_neg (by rw [decide_eq_false h]; exact Bool.false_ne_true)]
    refine y_cb (y_cons ⟨_, e, y_nil ⟨N, ys, rfl, .inl ⟨sql (s _ _ eN), fun l nl => ?_⟩⟩⟩)
    exact k _ _ (same_new nl) (.tup (sans_at ((D.same s).ne nl) upd_same) (hf.same (sans_mono (s.trans (same_new nl)))))
theorem dae_tupl {ds : List PyData} {i : Nat} {v : V} (D : DiceAt H0 d) (e : σ[i]? = some (some v)) (h : Da (sans H0 d) v (.tuple ds)) : DaE d H0 σ (tCB (rListQ K) (tCons (tVar i) tNil)) (.list ds) := fun H Q s k => by
  cases h with
  | @tup a xs _ ea hx =>
  refine y_cb (y_cons ⟨_, e, y_nil (y_listT (sqt (s _ _ (sans_sub _ _ ea))) fun l nl => ?_)⟩)
  exact k _ _ (same_new nl) (.lst (sans_at ((D.same s).ne nl) upd_same) (hx.same (sans_mono (s.trans (same_new nl)))))
end
end Ow
namespace Ow
open PySem PySem.Spec PyProof.Rows L2
/-- the state behind the ways: N is the list of moves -/
def BS2 (d : Addr) (gv : V) (g : Gm) (H0 : Hp) (at_ way : Int) (σ : L2.St) (H : Hp) : Prop := ∃ (N : Addr) (ys : List V) (fs : List PyData) (x5 x6 x7 x8 : Option V),
  σ = [some (.ref d), some gv, some (.int at_), some (.int way), some (.ref N), x5, x6, x7, x8, none] ∧ H N = some (.lst ys) ∧ N ≠ d ∧ DaL (sans H d) ys fs ∧ smDs fs = true ∧ fs.length ≤ 200 ∧ DiceAt H d ∧ Fr d H0 H ∧ Da (tu H) gv (gmD g)
theorem smDs_app' {es fs : List PyData} (h : smDs es = true) (h2 : smDs fs = true) : smDs (es ++ fs) = true := smDs_app h h2
theorem smDs_sub {es fs : List PyData} (h : smDs fs = true) (hs : ∀ e ∈ es, e ∈ fs) : smDs es = true := smDs_of fun e me => smDs_mem h e (hs e me)
theorem gm_small {n : Nat} (hn : n ≤ 3) {g : Gm} (ok : GmOk n g) : smDs (g.map msD) = true := smDs_of fun e me => by
  obtain ⟨ms, mm, rfl⟩ := List.mem_map.mp me
  exact ms_small hn (ok.ok ms mm).ok
theorem way3_ok {es er : List PyData} {x y z : PyData} {k : Nat} (e : es = .tuple [x, y, z] :: er) (sm : smDs es = true) (l : es.length ≤ 100) :
    ∀ q ∈ [PyData.list es.reverse, .list (es.take k), .list (es ++ es), .list (.tuple [x, y, z, .int 0] :: er), .list [.tuple [x, y]]], ∃ fs, q = .list fs ∧ smDs fs = true ∧ fs.length ≤ 200 := by
  intro q mq
  have l2 : er.length + 1 ≤ 100 := by rw [e] at l; exact l
  have hs : smDs (.tuple [x, y, z] :: er) = true := by rw [← e]; exact sm
  have hs : (((smD x) && (smD y && (smD z && true))) && smDs er) = true := hs
  simp only [Bool.and_eq_true, Bool.and_true] at hs
  simp only [List.mem_cons, List.not_mem_nil, or_false] at mq
  rcases mq with rfl | rfl | rfl | rfl | rfl
  · exact ⟨_, rfl, smDs_sub sm fun e me => List.mem_reverse.mp me, by rw [List.length_reverse]; omega⟩
  · exact ⟨_, rfl, smDs_sub sm fun e me => List.mem_of_mem_take me, by rw [List.length_take]; omega⟩
  · exact ⟨_, rfl, smDs_app sm sm, by rw [List.length_append]; omega⟩
  · refine ⟨_, rfl, ?_, by rw [List.length_cons]; omega⟩
    show ((smD x && (smD y && (smD z && (decide ((0 : Int).natAbs < 1024) && true)))) && smDs er) = true
    rw [hs.1.1, hs.1.2.1, hs.1.2.2, hs.2]
    rfl
  · refine ⟨_, rfl, ?_, by show 1 ≤ 200; decide⟩
    show ((smD x && (smD y && true)) && true) = true
    rw [hs.1.1, hs.1.2.1]
    rfl
/-- what is found -/
def fnd (ds fs : List PyData) (an : Nat) (way : Int) : List PyData := (ds.take an ++ [if way = 4 then .list fs else .tuple fs]) ++ ds.drop (an + 1)
theorem fnd_len {ds fs : List PyData} {an : Nat} {way : Int} (h : an < ds.length) : (fnd ds fs an way).length = ds.length := by
  unfold fnd
  rw [List.length_append, List.length_append, List.length_take, List.length_drop, List.length_singleton]
  omega
theorem fnd_small {ds fs : List PyData} {an : Nat} {way : Int} (h : smDs ds = true) (hf : smDs fs = true) : smDs (fnd ds fs an way) = true := by
  unfold fnd
  refine smDs_app (smDs_app (smDs_sub h fun e me => List.mem_of_mem_take me) ?_) (smDs_sub h fun e me => List.mem_of_mem_drop me)
  show (smD (if way = 4 then PyData.list fs else .tuple fs) && true) = true
  rw [Bool.and_true]
  split <;> exact hf
theorem last_ok {l : List PyData} (sm : smDs l = true) : ∀ q ∈ [PyData.tuple l, .list l, .tuple (l ++ [.tuple []]), .tuple (l.drop 1), .none], smD q = true := by
  intro q mq
  simp only [List.mem_cons, List.not_mem_nil, or_false] at mq
  rcases mq with rfl | rfl | rfl | rfl | rfl
  · exact sm
  · exact sm
  · exact smDs_app sm rfl
  · exact smDs_sub sm fun e me => List.mem_of_mem_drop me
  · rfl
end Ow
/-! Sums of fractions as rational numbers; moves put together in any order. -/
namespace Ow
open PySem PySem.Spec PyProof.Rows L2
def qv (p : Int × Int) : Rat := (p.1 : Rat) / (p.2 : Rat)
def qs : List (Int × Int) → Rat
  | [] => 0
  | p :: r => qv p + qs r
theorem rat_ne {b : Int} (h : b ≠ 0) : (b : Rat) ≠ 0 := by simpa using h
theorem lowB_ne {t b : Int} (h : b ≠ 0) : lowB t b ≠ 0 := fun z => by
  have := (low_low (t := t) h).1
  rw [show (low t b).2 = lowB t b from rfl, z] at this
  exact absurd this (by decide)
theorem qv_low {t b : Int} (h : b ≠ 0) : qv (low t b) = (t : Rat) / (b : Rat) := by
  obtain ⟨c, hc, ht, hb, _, _⟩ := low_ex (t := t) h
  have n := rat_ne (lowB_ne (t := t) h)
  have nc := rat_ne hc
  have nb := rat_ne h
  have e1 : (t : Rat) = (c : Rat) * (lowT t b : Rat) := by rw [← Rat.intCast_mul, ← ht]
  have e2 : (b : Rat) = (c : Rat) * (lowB t b : Rat) := by rw [← Rat.intCast_mul, ← hb]
  show (lowT t b : Rat) / (lowB t b : Rat) = _
  grind
theorem qv_add {p q : Int × Int} (hp : p.2 ≠ 0) (hq : q.2 ≠ 0) : qv (addP p q) = qv p + qv q := by
  have n1 := rat_ne hp
  have n2 := rat_ne hq
  have hz : p.2 * q.2 ≠ 0 := Int.mul_ne_zero hp hq
  show qv (low (p.1 * q.2 + q.1 * p.2) (p.2 * q.2)) = _
  rw [qv_low hz, Rat.intCast_add, Rat.intCast_mul, Rat.intCast_mul, Rat.intCast_mul]
  show _ = (p.1 : Rat) / (p.2 : Rat) + (q.1 : Rat) / (q.2 : Rat)
  grind
theorem add_ne {p q : Int × Int} (hp : p.2 ≠ 0) (hq : q.2 ≠ 0) : (addP p q).2 ≠ 0 := lowB_ne (Int.mul_ne_zero hp hq)
theorem fold_q : ∀ {ps : List (Int × Int)} {r : Int × Int}, (∀ p ∈ ps, p.2 ≠ 0) → r.2 ≠ 0 → Low r → Low (ps.foldl addP r) ∧ qv (ps.foldl addP r) = qv r + qs ps
  | [], r, _, _, l => ⟨l, by show qv r = qv r + 0; grind⟩
  | p :: ps, r, h, hr, l => by
    have hp := h p List.mem_cons_self
    obtain ⟨h1, h2⟩ := fold_q (ps := ps) (r := addP r p) (fun x m => h x (List.mem_cons_of_mem _ m)) (add_ne hr hp) (low_low (Int.mul_ne_zero hr hp))
    refine ⟨h1, ?_⟩
    show qv (ps.foldl addP (addP r p)) = qv r + (qv p + qs ps)
    rw [h2, qv_add hr hp]
    grind
theorem qv_inj {p q : Int × Int} (hp : Low p) (hq : Low q) (h : qv p = qv q) : p = q := by
  have n1 : p.2 ≠ 0 := Int.ne_of_gt hp.1
  have n2 : q.2 ≠ 0 := Int.ne_of_gt hq.1
  have m1 := rat_ne n1
  have m2 := rat_ne n2
  have h : (p.1 : Rat) / (p.2 : Rat) = (q.1 : Rat) / (q.2 : Rat) := h
  have e : (p.1 : Rat) * (q.2 : Rat) = (q.1 : Rat) * (p.2 : Rat) := by grind
  rw [← Rat.intCast_mul, ← Rat.intCast_mul, Rat.intCast_inj] at e
  rw [← low_fix hp, ← low_fix hq]
  exact low_of n1 n2 e
theorem sum_q {ps : List (Int × Int)} (h : ∀ p ∈ ps, p.2 ≠ 0) : Low (sumP ps) ∧ qv (sumP ps) = qs ps := by
  obtain ⟨h1, h2⟩ := fold_q (r := (0, 1)) h (by decide) ⟨by decide, by decide⟩
  refine ⟨h1, ?_⟩
  show qv (ps.foldl addP (0, 1)) = qs ps
  rw [h2, show qv (0, 1) = 0 from by decide +kernel]
  grind
theorem sum_eq {ps rs : List (Int × Int)} (h : ∀ p ∈ ps, p.2 ≠ 0) (h2 : ∀ p ∈ rs, p.2 ≠ 0) (e : qs ps = qs rs) : sumP ps = sumP rs := by
  obtain ⟨a1, a2⟩ := sum_q h
  obtain ⟨b1, b2⟩ := sum_q h2
  exact qv_inj a1 b1 (by rw [a2, b2, e])
theorem qs_app : ∀ {ps rs : List (Int × Int)}, qs (ps ++ rs) = qs ps + qs rs
  | [], rs => by show qs rs = 0 + qs rs; grind
  | p :: ps, rs => by
    show qv p + qs (ps ++ rs) = (qv p + qs ps) + qs rs
    rw [qs_app]
    grind
theorem qs_rev : ∀ {ps : List (Int × Int)}, qs ps.reverse = qs ps
  | [] => rfl
  | p :: ps => by
    rw [List.reverse_cons, qs_app, qs_rev]
    show qs ps + (qv p + 0) = qv p + qs ps
    grind
theorem sum_one_iff {ps : List (Int × Int)} (h : ∀ p ∈ ps, p.2 ≠ 0) : sumP ps = (1, 1) ↔ qs ps = 1 := by
  obtain ⟨a1, a2⟩ := sum_q h
  constructor
  · intro e
    rw [← a2, e]
    decide +kernel
  · intro e
    refine qv_inj a1 ⟨by decide, by decide⟩ ?_
    rw [a2, e]
    decide +kernel
/-! ### halves -/
def halfP (c : Int × Int) : Int × Int := mulP c (1, 2)
theorem half_tab : ∀ a : Fin 13, ∀ b : Fin 13, 0 < (a : Nat) → (a : Nat) ≤ b → (0 < (halfP ((a : Nat), (b : Nat))).1 ∧ (halfP ((a : Nat), (b : Nat))).1 ≤ (halfP ((a : Nat), (b : Nat))).2 ∧ (halfP ((a : Nat), (b : Nat))).2 ≤ 24 ∧ Nat.gcd (halfP ((a : Nat), (b : Nat))).1.natAbs (halfP ((a : Nat), (b : Nat))).2.natAbs = 1) := by
  decide +kernel
theorem half_ok {c : Int × Int} (h : GoodC c) : 0 < (halfP c).1 ∧ (halfP c).1 ≤ (halfP c).2 ∧ (halfP c).2 ≤ 24 ∧ Nat.gcd (halfP c).1.natAbs (halfP c).2.natAbs = 1 := by
  obtain ⟨h1, h2, h3, _⟩ := h
  have := half_tab ⟨c.1.toNat, by omega⟩ ⟨c.2.toNat, by omega⟩ (by show 0 < c.1.toNat; omega) (by show c.1.toNat ≤ c.2.toNat; omega)
  rw [show (((⟨c.1.toNat, by omega⟩ : Fin 13) : Nat) : Int) = c.1 from by show (c.1.toNat : Int) = c.1; omega, show (((⟨c.2.toNat, by omega⟩ : Fin 13) : Nat) : Int) = c.2 from by show (c.2.toNat : Int) = c.2; omega] at this
  exact this
theorem qv_half {c : Int × Int} (h : 0 < c.2) : qv (halfP c) = qv c / 2 := by
  have n := rat_ne (Int.ne_of_gt h)
  show qv (low (c.1 * 1) (c.2 * 2)) = _
  rw [qv_low (by omega), Rat.intCast_mul, Rat.intCast_mul]
  show ((c.1 : Rat) * (1 : Rat)) / ((c.2 : Rat) * (2 : Rat)) = (c.1 : Rat) / (c.2 : Rat) / 2
  grind
theorem qs_half : ∀ {ps : List (Int × Int)}, (∀ p ∈ ps, 0 < p.2) → qs (ps.map halfP) = qs ps / 2
  | [], _ => by show (0 : Rat) = 0 / 2; grind
  | p :: ps, h => by
    show qv (halfP p) + qs (ps.map halfP) = (qv p + qs ps) / 2
    rw [qv_half (h p List.mem_cons_self), qs_half fun x m => h x (List.mem_cons_of_mem _ m)]
    grind
def halfM (m : Mv) : Mv := (m.1, halfP m.2)
/-- the moves of both rows -/
structure RowOk (m : Mv) : Prop where
  t0 : 0 ≤ m.1.1
  t3 : m.1.1 < 3
  g0 : -2 ≤ m.1.2
  g1 : m.1.2 ≤ 2
  pos : 0 < m.2.1
  le : m.2.1 ≤ m.2.2
  sm : m.2.2 ≤ 24
  gcd : Nat.gcd m.2.1.natAbs m.2.2.natAbs = 1
theorem row_half {n : Nat} {m : Mv} (hn : n ≤ 3) (h : MvOk n m) : RowOk (halfM m) := by
  obtain ⟨a, b, c, d⟩ := half_ok h.ch
  exact ⟨h.t0, by have := h.tn; show m.1.1 < 3; omega, h.g0, h.g1, a, b, c, d⟩
theorem row_smp {m : Mv} (h : RowOk m) : smPair m.2 ∧ Nat.gcd m.2.1.natAbs m.2.2.natAbs = 1 := by
  obtain ⟨_, _, _, _, h1, h2, h3, h4⟩ := h
  exact ⟨⟨by omega, by omega, by omega⟩, h4⟩
theorem row_moveB {m : Mv} (h : RowOk m) : moveB 8 (mvD m) = true := by
  obtain ⟨a1, a2, a3, a4, h1, h2, h3, h4⟩ := h
  have o : ∀ i : Int, -1024 < i → i < 1024 → okI i = true := fun i q1 q2 => by
    unfold okI
    have e : (1024 : Int) ≤ 10 ^ 300 := by decide +kernel
    rw [if_pos (decide_eq_true (by omega))]
    exact decide_eq_true (by omega)
  show ((okI m.1.1 && (decide (0 ≤ m.1.1) && decide (m.1.1 < 8))) && ((okI m.1.2 && (decide (-99 ≤ m.1.2) && decide (m.1.2 ≤ 99))) && (fracB (m.2.1, m.2.2) && decide (0 < m.2.1)))) = true
  unfold fracB
  simp only [Bool.and_eq_true, decide_eq_true_eq]
  exact ⟨⟨o _ (by omega) (by omega), a1, by omega⟩, ⟨o _ (by omega) (by omega), by omega, by omega⟩, ⟨⟨⟨o _ (by omega) (by omega), o _ (by omega) (by omega)⟩, by omega⟩, h4⟩, h1⟩
/-! ### rows of both halves -/
structure RowsOk (R : List Mv) : Prop where
  l2 : 2 ≤ R.length
  l6 : R.length ≤ 6
  ok : ∀ m ∈ R, RowOk m
  sum : qs (R.map (·.2)) = 1
theorem ms_qs {n : Nat} {ms : List Mv} (h : MsOk n ms) : qs ((ms.map halfM).map (·.2)) = 1 / 2 := by
  have e : (ms.map halfM).map (·.2) = (ms.map (·.2)).map halfP := by rw [List.map_map, List.map_map]; rfl
  have p : ∀ c ∈ ms.map (·.2), 0 < c.2 := fun c mc => by
    obtain ⟨m, mm, rfl⟩ := List.mem_map.mp mc
    have := (h.ok m mm).ch
    have h1 := this.pos
    have h2 := this.le
    omega
  rw [e, qs_half p, (sum_one_iff fun c mc => Int.ne_of_gt (p c mc)).mp h.sum]
theorem rows_ok {n : Nat} {ms1 ms2 : List Mv} (hn : n ≤ 3) (h1 : MsOk n ms1) (h2 : MsOk n ms2) : RowsOk (ms1.map halfM ++ ms2.map halfM) := by
  have a1 := h1.l1
  have a2 := h2.l1
  have a3 := h1.l3
  have a4 := h2.l3
  refine ⟨by rw [List.length_append, List.length_map, List.length_map]; omega, by rw [List.length_append, List.length_map, List.length_map]; omega, fun m mm => ?_, ?_⟩
  · rcases List.mem_append.mp mm with mm | mm
    · obtain ⟨x, mx, rfl⟩ := List.mem_map.mp mm
      exact row_half hn (h1.ok x mx)
    · obtain ⟨x, mx, rfl⟩ := List.mem_map.mp mm
      exact row_half hn (h2.ok x mx)
  · rw [List.map_append, qs_app, ms_qs h1, ms_qs h2]
    decide +kernel
theorem RowsOk.rev {R : List Mv} (h : RowsOk R) : RowsOk R.reverse :=
  ⟨by rw [List.length_reverse]; exact h.l2, by rw [List.length_reverse]; exact h.l6, fun m mm => h.ok m (List.mem_reverse.mp mm), by rw [List.map_reverse, qs_rev]; exact h.sum⟩
theorem rows_ne {R : List Mv} (h : ∀ m ∈ R, RowOk m) : ∀ c ∈ R.map (·.2), c.2 ≠ 0 := fun c mc => by
  obtain ⟨m, mm, rfl⟩ := List.mem_map.mp mc
  have h1 := (h m mm).pos
  have h2 := (h m mm).le
  omega
theorem ch_map : ∀ R : List Mv, (R.map mvD).map chOf = R.map (·.2)
  | [] => rfl
  | m :: R => by rw [List.map_cons, List.map_cons, List.map_cons, ch_map R]; rfl
theorem rows_moves {R : List Mv} (h : RowsOk R) : movesB 100 8 (msD R) = true := by
  show ((decide (1 ≤ (R.map mvD).length) && decide (((R.map mvD).length : Int) ≤ 100)) && ((R.map mvD).all (moveB 8) && decide (sumP ((R.map mvD).map chOf) = (1, 1)))) = true
  have a := h.l2
  have b := h.l6
  rw [ch_map, decide_eq_true ((sum_one_iff (rows_ne h.ok)).mpr h.sum), List.length_map, decide_eq_true (show 1 ≤ R.length by omega), decide_eq_true (show (R.length : Int) ≤ 100 by omega)]
  simp only [Bool.and_true, Bool.true_and, List.all_eq_true]
  intro d md
  obtain ⟨m, mm, rfl⟩ := List.mem_map.mp md
  exact row_moveB (h.ok m mm)
theorem row_small : ∀ {R : List Mv}, (∀ m ∈ R, RowOk m) → smDs (R.map mvD) = true
  | [], _ => rfl
  | m :: R, h => by
    obtain ⟨a1, a2, a3, a4, h1, h2, h3, h4⟩ := h m List.mem_cons_self
    show (smD (mvD m) && smDs (R.map mvD)) = true
    rw [row_small fun x mx => h x (List.mem_cons_of_mem _ mx), Bool.and_true]
    show (decide (m.1.1.natAbs < 1024) && (decide (m.1.2.natAbs < 1024) && ((decide (m.2.1.natAbs < 1024) && (decide (m.2.2.natAbs < 1024) && true)) && true))) = true
    rw [decide_eq_true (show m.1.1.natAbs < 1024 by omega), decide_eq_true (show m.1.2.natAbs < 1024 by omega), decide_eq_true (show m.2.1.natAbs < 1024 by omega), decide_eq_true (show m.2.2.natAbs < 1024 by omega)]
    rfl
/-- a row less, or a move more: no moves -/
theorem tail_no {R : List Mv} (h : RowsOk R) : movesB 100 8 (msD (R.drop 1)) = false := by
  match R, h with
  | m :: R, h =>
    have hm := h.ok m List.mem_cons_self
    have hr : ∀ x ∈ R, RowOk x := fun x mx => h.ok x (List.mem_cons_of_mem _ mx)
    have e : qs (R.map (·.2)) ≠ 1 := fun z => by
      have s : qv m.2 + qs (R.map (·.2)) = 1 := h.sum
      have q : qv m.2 = 0 := by grind
      have n1 : m.2.2 ≠ 0 := by have := hm.pos; have := hm.le; omega
      have n2 := rat_ne n1
      have q : (m.2.1 : Rat) / (m.2.2 : Rat) = 0 := q
      have q2 : (m.2.1 : Rat) = 0 := by grind
      have q3 : m.2.1 = 0 := by simpa using q2
      have := hm.pos
      omega
    show ((decide (1 ≤ (R.map mvD).length) && decide (((R.map mvD).length : Int) ≤ 100)) && ((R.map mvD).all (moveB 8) && decide (sumP ((R.map mvD).map chOf) = (1, 1)))) = false
    rw [ch_map, decide_eq_false (fun z => e ((sum_one_iff (rows_ne hr)).mp z)), Bool.and_false, Bool.and_false]
theorem more_no {R : List Mv} (h : RowsOk R) : movesB 100 8 (.tuple (R.map mvD ++ [mvD ((0, 0), (1, 6))])) = false := by
  have e0 : R.map mvD ++ [mvD ((0, 0), (1, 6))] = (R ++ [((0, 0), (1, 6))]).map mvD := by rw [List.map_append]; rfl
  have ok : ∀ x ∈ R ++ [(((0, 0), (1, 6)) : Mv)], RowOk x := fun x mx => by
    rcases List.mem_append.mp mx with mx | mx
    · exact h.ok x mx
    · rw [List.mem_singleton.mp mx]
      exact ⟨by decide, by decide, by decide, by decide, by decide, by decide, by decide, by decide⟩
  have e : qs ((R ++ [(((0, 0), (1, 6)) : Mv)]).map (·.2)) ≠ 1 := fun z => by
    rw [List.map_append, qs_app, h.sum] at z
    have q : qs ([(((0, 0), (1, 6)) : Mv)].map (·.2)) = 1 / 6 := by decide +kernel
    rw [q] at z
    revert z
    decide +kernel
  rw [e0]
  generalize R ++ [(((0, 0), (1, 6)) : Mv)] = R2 at ok e
  show ((decide (1 ≤ (R2.map mvD).length) && decide (((R2.map mvD).length : Int) ≤ 100)) && ((R2.map mvD).all (moveB 8) && decide (sumP ((R2.map mvD).map chOf) = (1, 1)))) = false
  rw [ch_map, decide_eq_false (fun z => e ((sum_one_iff (rows_ne ok)).mp z)), Bool.and_false, Bool.and_false]
/-! ### put together, and in another order -/
def valG : Grp → Int × Int → List (Int × Int)
  | [], _ => []
  | g :: r, k => if g.1 = k then g.2 else valG r k
theorem addG_val {m : Mv} {k : Int × Int} : ∀ {gs : Grp}, valG (addG gs m) k = if m.1 = k then valG gs k ++ [m.2] else valG gs k
  | [] => rfl
  | g :: r => by
    by_cases h : g.1 = m.1
    · have e : addG (g :: r) m = (g.1, g.2 ++ [m.2]) :: r := if_pos h
      rw [e]
      show (if g.1 = k then g.2 ++ [m.2] else valG r k) = if m.1 = k then (if g.1 = k then g.2 else valG r k) ++ [m.2] else (if g.1 = k then g.2 else valG r k)
      rw [h]
      by_cases q : m.1 = k
      · rw [if_pos q, if_pos q, if_pos q]
      · rw [if_neg q, if_neg q, if_neg q]
    · have e : addG (g :: r) m = g :: addG r m := if_neg h
      rw [e]
      show (if g.1 = k then g.2 else valG (addG r m) k) = if m.1 = k then (if g.1 = k then g.2 else valG r k) ++ [m.2] else (if g.1 = k then g.2 else valG r k)
      rw [addG_val]
      by_cases q : g.1 = k
      · rw [if_pos q, if_pos q, if_neg (fun z => h (q.trans z.symm))]
      · rw [if_neg q, if_neg q]
theorem fold_val {k : Int × Int} : ∀ {ms : List Mv} {gs : Grp}, valG (ms.foldl addG gs) k = valG gs k ++ (ms.filter fun m => decide (m.1 = k)).map (·.2)
  | [], gs => by show valG gs k = valG gs k ++ []; rw [List.append_nil]
  | m :: ms, gs => by
    show valG (ms.foldl addG (addG gs m)) k = _
    rw [fold_val, addG_val, List.filter_cons]
    by_cases q : m.1 = k
    · rw [if_pos q, if_pos (decide_eq_true q), List.append_assoc]
      rfl
    · rw [if_neg q, if_neg (by rw [decide_eq_false q]; exact Bool.false_ne_true)]
theorem grp_valG (ms : List Mv) (k : Int × Int) : valG (grp ms) k = (ms.filter fun m => decide (m.1 = k)).map (·.2) := by
  unfold grp
  rw [fold_val]
  rfl
theorem addG_key {m : Mv} {k : Int × Int} : ∀ {gs : Grp}, k ∈ (addG gs m).map (·.1) ↔ k ∈ gs.map (·.1) ∨ k = m.1
  | [] => by
    show k ∈ [m.1] ↔ k ∈ ([] : List (Int × Int)) ∨ k = m.1
    simp
  | g :: r => by
    by_cases h : g.1 = m.1
    · have e : addG (g :: r) m = (g.1, g.2 ++ [m.2]) :: r := if_pos h
      rw [e]
      show k ∈ g.1 :: r.map (·.1) ↔ k ∈ g.1 :: r.map (·.1) ∨ k = m.1
      constructor
      · exact fun z => .inl z
      · rintro (z | z)
        · exact z
        · rw [z, ← h]; exact List.mem_cons_self
    · have e : addG (g :: r) m = g :: addG r m := if_neg h
      rw [e]
      show k ∈ g.1 :: (addG r m).map (·.1) ↔ k ∈ g.1 :: r.map (·.1) ∨ k = m.1
      rw [List.mem_cons, List.mem_cons, addG_key, or_assoc]
theorem fold_key {k : Int × Int} : ∀ {ms : List Mv} {gs : Grp}, k ∈ (ms.foldl addG gs).map (·.1) ↔ k ∈ gs.map (·.1) ∨ k ∈ ms.map (·.1)
  | [], gs => by show k ∈ gs.map (·.1) ↔ k ∈ gs.map (·.1) ∨ k ∈ []; simp
  | m :: ms, gs => by
    show k ∈ (ms.foldl addG (addG gs m)).map (·.1) ↔ _
    rw [fold_key, addG_key, List.map_cons, List.mem_cons, or_assoc]
theorem grp_key {ms : List Mv} {k : Int × Int} : k ∈ (grp ms).map (·.1) ↔ k ∈ ms.map (·.1) := by
  unfold grp
  rw [fold_key]
  simp
theorem valG_mem : ∀ {gs : Grp} {g : (Int × Int) × List (Int × Int)}, (gs.map (·.1)).Nodup → g ∈ gs → valG gs g.1 = g.2
  | x :: gs, g, nd, m => by
    obtain ⟨n1, n2⟩ := List.nodup_cons.mp (show (x.1 :: gs.map (·.1)).Nodup from nd)
    rcases List.mem_cons.mp m with rfl | m
    · exact if_pos rfl
    · show (if x.1 = g.1 then x.2 else valG gs g.1) = g.2
      rw [if_neg (fun z => n1 (by rw [z]; exact List.mem_map.mpr ⟨g, m, rfl⟩))]
      exact valG_mem n2 m
/-- what is put together is told by its keys -/
theorem mvG_keys {ms : List Mv} {gs : Grp} (p : gs.Perm (grp ms)) : gs.map mvG = (gs.map (·.1)).map fun k => (k, sumP (valG (grp ms) k)) := by
  rw [List.map_map]
  refine List.map_congr_left fun g mg => ?_
  show (g.1, sumP g.2) = (g.1, sumP (valG (grp ms) g.1))
  rw [valG_mem (grp_nd ms) (p.mem_iff.mp mg)]
theorem srt_strict {ms : List Mv} {gs : Grp} (p : gs.Perm (grp ms)) (s : srtG gs) : (gs.map (·.1)).Pairwise fun a b => SrtO.lexB a b = true := by
  have nd : (gs.map (·.1)).Nodup := (p.map (·.1)).nodup_iff.mpr (grp_nd ms)
  rw [List.Nodup, List.pairwise_map] at nd
  rw [List.pairwise_map]
  refine (List.Pairwise.and s nd).imp fun {a b} h => ?_
  have h1 := SrtO.lexB_no.mp h.1
  have : ¬ (a.1.1 = b.1.1 ∧ a.1.2 = b.1.2) := fun z => h.2 (Prod.ext z.1 z.2)
  refine SrtO.lexB_iff.mpr ?_
  omega
theorem put_uniq {m1 m2 : List Mv} {g1 g2 : Grp} (p1 : g1.Perm (grp m1)) (s1 : srtG g1) (p2 : g2.Perm (grp m2)) (s2 : srtG g2) (hk : ∀ k, k ∈ m1.map (·.1) ↔ k ∈ m2.map (·.1)) (hv : ∀ k, sumP (valG (grp m1) k) = sumP (valG (grp m2) k)) : g1.map mvG = g2.map mvG := by
  have e : g1.map (·.1) = g2.map (·.1) := strict_uniq (srt_strict p1 s1) (srt_strict p2 s2) fun k => by
    rw [(p1.map (·.1)).mem_iff, (p2.map (·.1)).mem_iff, grp_key, grp_key]
    exact hk k
  rw [mvG_keys p1, mvG_keys p2, e]
  exact List.map_congr_left fun k _ => by rw [hv k]
theorem put_same {m1 : List Mv} {g1 g2 : Grp} (p1 : g1.Perm (grp m1)) (s1 : srtG g1) (p2 : g2.Perm (grp m1)) (s2 : srtG g2) : g1.map mvG = g2.map mvG := put_uniq p1 s1 p2 s2 (fun _ => Iff.rfl) fun _ => rfl
theorem put_rev {R : List Mv} {g1 g2 : Grp} (h : RowsOk R) (p1 : g1.Perm (grp R.reverse)) (s1 : srtG g1) (p2 : g2.Perm (grp R)) (s2 : srtG g2) : g1.map mvG = g2.map mvG := by
  refine put_uniq p1 s1 p2 s2 (fun k => by rw [List.map_reverse, List.mem_reverse]) fun k => ?_
  rw [grp_valG, grp_valG, List.filter_reverse, List.map_reverse]
  have ne : ∀ c ∈ (R.filter fun m => decide (m.1 = k)).map (·.2), c.2 ≠ 0 := fun c mc => by
    obtain ⟨m, mm, rfl⟩ := List.mem_map.mp mc
    exact rows_ne h.ok m.2 (List.mem_map.mpr ⟨m, (List.mem_filter.mp mm).1, rfl⟩)
  exact sum_eq (fun c mc => ne c (List.mem_reverse.mp mc)) ne qs_rev
/-! ### drawn games are games -/
theorem gm_is {n : Nat} {g : Gm} (n1 : 1 ≤ n) (n3 : n ≤ 3) (h : GmOk n g) : gameB (gmD g) = true := by
  have lg := h.len
  show ((decide (1 ≤ (g.map msD).length) && decide ((g.map msD).length ≤ 8)) && (g.map msD).all fun ms => movesB 12 (g.map msD).length ms && ascD ms) = true
  rw [List.length_map, lg, decide_eq_true n1, decide_eq_true (show n ≤ 8 by omega), Bool.true_and, Bool.true_and, List.all_eq_true]
  intro d md
  obtain ⟨ms, mm, rfl⟩ := List.mem_map.mp md
  have hm := h.ok ms mm
  have mv : ∀ m ∈ ms.map mvD, moveB n m = true := fun d md => by
    obtain ⟨m, mm, rfl⟩ := List.mem_map.mp md
    obtain ⟨a1, a2, a3, a4, h1, h2, h3, h4⟩ := hm.ok m mm
    have o : ∀ i : Int, -1024 < i → i < 1024 → okI i = true := fun i q1 q2 => by
      unfold okI
      have e : (1024 : Int) ≤ 10 ^ 300 := by decide +kernel
      rw [if_pos (decide_eq_true (by omega))]
      exact decide_eq_true (by omega)
    show ((okI m.1.1 && (decide (0 ≤ m.1.1) && decide (m.1.1 < n))) && ((okI m.1.2 && (decide (-99 ≤ m.1.2) && decide (m.1.2 ≤ 99))) && (fracB (m.2.1, m.2.2) && decide (0 < m.2.1)))) = true
    unfold fracB
    simp only [Bool.and_eq_true, decide_eq_true_eq]
    exact ⟨⟨o _ (by omega) (by omega), a1, a2⟩, ⟨o _ (by omega) (by omega), by omega, by omega⟩, ⟨⟨⟨o _ (by omega) (by omega), o _ (by omega) (by omega)⟩, by omega⟩, h4⟩, h1⟩
  have l3 := hm.l3
  rw [row_eq hm.l1 (by omega) mv, decide_eq_true hm.sum, Bool.true_and]
  refine asc_pw.mpr ?_
  rw [List.pairwise_map]
  exact hm.asc
/-! ### data that are compared with themselves -/
theorem eqv_mv (m : Mv) : PyData.eqv (mvD m) (mvD m) = true := by
  show ((m.1.1 == m.1.1) && ((m.1.2 == m.1.2) && (((m.2.1 == m.2.1) && ((m.2.2 == m.2.2) && true)) && true))) = true
  simp
theorem eqv_mvs : ∀ ms : List Mv, PyData.eqvAll (ms.map mvD) (ms.map mvD) = true
  | [] => rfl
  | m :: ms => by
    show (PyData.eqv (mvD m) (mvD m) && PyData.eqvAll (ms.map mvD) (ms.map mvD)) = true
    rw [eqv_mv, eqv_mvs]
    rfl
theorem canLay_mvs : ∀ ms : List Mv, PyData.canLayAll0 (ms.map mvD) = true
  | [] => rfl
  | m :: ms => by
    show (PyData.canLay0 (mvD m) && PyData.canLayAll0 (ms.map mvD)) = true
    rw [canLay_mvs ms]
    rfl
theorem depth_mvs : ∀ ms : List Mv, PyData.depthAll (ms.map mvD) ≤ 3
  | [] => by show 0 ≤ 3; decide
  | m :: ms => by
    show max (PyData.depth (mvD m)) (PyData.depthAll (ms.map mvD)) ≤ 3
    refine Nat.max_le.mpr ⟨?_, depth_mvs ms⟩
    show max 0 (max 0 (max (max 0 (max 0 0) + 1) 0)) + 1 ≤ 3
    decide
theorem shaped_mvs (ms : List Mv) : SeqAt.shaped (msD ms) = true := by
  show (PyData.canLay0 (.tuple (ms.map mvD)) && decide (PyData.depth (.tuple (ms.map mvD)) ≤ 64)) = true
  rw [Bool.and_eq_true, decide_eq_true_iff]
  refine ⟨canLay_mvs ms, ?_⟩
  have := depth_mvs ms
  show PyData.depthAll (ms.map mvD) + 1 ≤ 64
  omega
theorem dp_mv {K : PySem.W.Frag} {H : Hp} {v : V} {m : Mv} (h : Da H v (mvD m)) : Dp K H v (mvD m) := by
  cases h with
  | tup e h =>
  cases h with
  | cons a h =>
  cases h with
  | cons b h =>
  cases h with
  | cons c h =>
  cases h
  cases a
  cases b
  cases c with
  | tup f c =>
  cases c with
  | cons x c =>
  cases c with
  | cons y c =>
  cases c
  cases x
  cases y
  exact .tup (sqt e) (.cons (.int _) (.cons (.int _) (.cons (.tup (sqt f) (.cons (.int _) (.cons (.int _) .nil))) .nil)))
theorem dp_mvs {K : PySem.W.Frag} {H : Hp} : ∀ {xs : List V} {ms : List Mv}, DaL H xs (ms.map mvD) → DpAll K H xs (ms.map mvD)
  | [], [], .nil => .nil
  | _ :: _, _ :: _, .cons h t => .cons (dp_mv h) (dp_mvs t)
theorem dp_ms {K : PySem.W.Frag} {H : Hp} {v : V} {ms : List Mv} (h : Da H v (msD ms)) : Dp K H v (msD ms) := by
  unfold msD at h
  cases h with
  | tup e h => exact .tup (sqt e) (dp_mvs h)
end Ow
namespace Ow
open PySem PySem.Spec PyProof.Rows L2
def spRight3 : Sp := fun vs H Q _ => ∃ d, vs = [.ref d] ∧ DiceAt H d ∧ ∀ H', DiceAt H' d → Fr d H H' → Q (.bl true) H'
theorem mvD_inj {a b : Mv} (h : mvD a = mvD b) : a = b := by
  obtain ⟨⟨a1, a2⟩, a3, a4⟩ := a
  obtain ⟨⟨b1, b2⟩, b3, b4⟩ := b
  have h : PyData.tuple [.int a1, .int a2, .tuple [.int a3, .int a4]] = .tuple [.int b1, .int b2, .tuple [.int b3, .int b4]] := h
  simp only [PyData.tuple.injEq, List.cons.injEq, PyData.int.injEq, and_true] at h
  obtain ⟨rfl, rfl, rfl, rfl⟩ := h
  rfl
theorem mvs_inj : ∀ {a b : List Mv}, a.map mvD = b.map mvD → a = b
  | [], [], _ => rfl
  | [], _ :: _, h => nomatch h
  | _ :: _, [], h => nomatch h
  | x :: a, y :: b, h => by
    rw [List.map_cons, List.map_cons] at h
    injection h with h1 h2
    rw [mvD_inj h1, mvs_inj h2]
theorem msD_inj {a b : List Mv} (h : msD a = msD b) : a = b := by
  have h : PyData.tuple (a.map mvD) = .tuple (b.map mvD) := h
  injection h with h
  exact mvs_inj h
theorem rows_smp {R : List Mv} (h : RowsOk R) : ∀ m ∈ R, smPair m.2 ∧ Nat.gcd m.2.1.natAbs m.2.2.natAbs = 1 := fun m mm => row_smp (h.ok m mm)
theorem got_rows {H : Hp} {v : V} {R : List Mv} {Q : VK} {E : XK} (h : RowsOk R) (dv : Da H v (msD R)) (k : ∀ v' gs' H', gs'.Perm (grp R) → srtG gs' → Da (tu H') v' (msD (gs'.map mvG)) → Same H H' → Q v' H') : spGotM [v] H Q E := by
  have l6 := h.l6
  have gc := grp_cnt R
  refine ⟨v, msD R, rfl, dv, row_small h.ok, by show (R.map mvD).length ≤ 40; rw [List.length_map]; omega, fun ms e _ _ => ?_, fun hb => ?_, fun ms e _ h12 => ?_⟩
  · rw [← msD_inj e]
    exact k
  · rw [rows_moves h] at hb
    cases hb
  · rw [← msD_inj e] at h12
    omega
theorem got_none {H : Hp} {v : V} {d : PyData} {Q : VK} {E : XK} (hb : movesB 100 8 d = false) (dv : Da H v d) (sm : smD d = true) (l : lenD d ≤ 40) (k : ∀ H', Same H H' → Q .non H') : spGotM [v] H Q E :=
  ⟨v, d, rfl, dv, sm, l, fun ms e q => (by rw [hb] at q; cases q), fun _ => k, fun ms e q => (by rw [hb] at q; cases q)⟩
theorem put_ne {K : PySem.W.Frag} {H : Hp} {v u : V} {ms : List Mv} {ns : List Mv} {Q : VK} (e : ms = ns) (h1 : Da H v (msD ms)) (h2 : Da H u (msD ns)) (k : Q (.bl false) H) : rNeD K v u H Q := by
  subst e
  refine ⟨msD ms, msD ms, dp_ms h1, dp_ms h2, shaped_mvs ms, shaped_mvs ms, ?_⟩
  rw [show PyData.eqv (msD ms) (msD ms) = true from eqv_mvs ms]
  exact k
section
variable {d : Addr} {H0 : Hp} {σ : L2.St} {K : PySem.W.Frag}
theorem dae_tupR {r : Addr} {xs : List V} {ds : List PyData} {i : Nat} (D : DiceAt H0 d) (e : σ[i]? = some (some (.ref r))) (er : H0 r = some (.lst xs)) (h : DaL (sans H0 d) xs ds) : DaE d H0 σ (tCB (rTupQ K) (tCons (tVar i) tNil)) (.tuple ds) := fun H Q s k => by
  refine y_cb (y_cons ⟨_, e, y_nil ⟨r, xs, rfl, .inl ⟨sql (s _ _ er), fun l nl => ?_⟩⟩⟩)
  exact k _ _ (same_new nl) (.tup (sans_at ((D.same s).ne nl) upd_same) (h.same (sans_mono (s.trans (same_new nl)))))
theorem dae_tailR {r : Addr} {xs : List V} {ds : List PyData} {i : Nat} (D : DiceAt H0 d) (e : σ[i]? = some (some (.ref r))) (er : H0 r = some (.lst xs)) (l1 : 1 ≤ xs.length) (h : DaL (sans H0 d) xs ds) :
    DaE d H0 σ (tCB (rTupQ K) (tCons (tSl (rSlL K) (tVar i) (tPart (tC (V.int 1))) tNoPart) tNil)) (.tuple (ds.drop 1)) := fun H Q s k => by
  refine y_cb (y_cons (y_sl ⟨_, e, ⟨1, rfl, r, xs, rfl, sql (s _ _ er), fun q nq => ?_⟩⟩))
  have ec : cutV xs (some 1) none = xs.drop 1 := cut_from (n := 1) l1
  rw [ec]
  have s1 := same_new (o := .lst (xs.drop 1)) nq
  have eq : (upd H q (.lst (xs.drop 1))) q = some (.lst (xs.drop 1)) := upd_same
  generalize upd H q (.lst (xs.drop 1)) = H1 at s1 eq ⊢
  refine y_nil ⟨q, xs.drop 1, rfl, .inl ⟨sql eq, fun l nl => ?_⟩⟩
  exact k _ _ (s1.trans (same_new nl)) (.tup (sans_at ((D.same (s.trans s1)).ne nl) upd_same) ((h.drop 1).same (sans_mono ((s.trans s1).trans (same_new nl)))))
theorem dae_dct (D : DiceAt H0 d) : DaE d H0 σ tDNewK (.dict []) := fun H Q s k => fun p np => k _ _ (same_new np) (.dct (sans_at ((D.same s).ne np) upd_same))
end
/-- none of these are moves -/
theorem odd_no {R : List Mv} (h : RowsOk R) : ∀ q ∈ [PyData.none, .tuple [], .list (R.map mvD), .tuple ((R.map mvD).drop 1), .tuple (R.map mvD ++ [mvD ((0, 0), (1, 6))]), .tuple [.tuple [.int 0, .int 0]], .tuple [.tuple [.int 8, .int 0, .tuple [.int 1, .int 1]]], .str "moves", .dict []],
    movesB 100 8 q = false ∧ smD q = true ∧ lenD q ≤ 40 := by
  intro q mq
  have sm := row_small h.ok
  have l6 := h.l6
  simp only [List.mem_cons, List.not_mem_nil, or_false] at mq
  rcases mq with rfl | rfl | rfl | rfl | rfl | rfl | rfl | rfl | rfl
  · exact ⟨rfl, rfl, by decide⟩
  · exact ⟨rfl, rfl, by decide⟩
  · exact ⟨rfl, sm, by show 0 ≤ 40; decide⟩
  · refine ⟨?_, smDs_sub sm fun e me => List.mem_of_mem_drop me, by show ((R.map mvD).drop 1).length ≤ 40; rw [List.length_drop, List.length_map]; omega⟩
    have := tail_no h
    rw [← List.map_drop]
    exact this
  · exact ⟨more_no h, smDs_app sm rfl, by show (R.map mvD ++ [mvD ((0, 0), (1, 6))]).length ≤ 40; rw [List.length_append, List.length_map]; show R.length + 1 ≤ 40; omega⟩
  · exact ⟨by decide +kernel, rfl, by decide⟩
  · exact ⟨by decide +kernel, rfl, by decide⟩
  · exact ⟨rfl, rfl, by decide⟩
  · exact ⟨rfl, rfl, by decide⟩
theorem o_repT {X : Cx} {K : PySem.W.Frag} (h : X.K = K := by rfl) : OpR X (binaryOp .Mult) (rRepT K) := h ▸ op_repT
/-! ### displays where nothing changes -/
theorem DaL.rep {H : Hp} {xs : List V} {ds : List PyData} (h : DaL H xs ds) : ∀ k, DaL H (List.replicate k xs).flatten (List.replicate k ds).flatten
  | 0 => .nil
  | k + 1 => by
    rw [List.replicate_succ, List.replicate_succ, List.flatten_cons, List.flatten_cons]
    exact h.app (h.rep k)
mutual
/-- no dict in it -/
def noD : PyData → Bool
  | .dict _ => false
  | .list l => noDs l
  | .tuple l => noDs l
  | _ => true
def noDs : List PyData → Bool
  | [] => true
  | x :: l => noD x && noDs l
end
mutual
theorem Da.dp {K : PySem.W.Frag} {H : Hp} {v : V} {x : PyData} : Da H v x → noD x = true → Dp K H v x
  | .non, _ => .non
  | .bl b, _ => .bl b
  | .int i, _ => .int i
  | .str z, _ => .str z
  | .lst e h, z => .lst (sql e) (DaL.dp h z)
  | .tup e h, z => .tup (sqt e) (DaL.dp h z)
  | .dct e, z => by cases z
  | .dcx e, z => by cases z
theorem DaL.dp {K : PySem.W.Frag} {H : Hp} {v : List V} {x : List PyData} : DaL H v x → noDs x = true → DpAll K H v x
  | .nil, _ => .nil
  | .cons h t, z => .cons (Da.dp h (Bool.and_eq_true_iff.mp z).1) (DaL.dp t (Bool.and_eq_true_iff.mp z).2)
end
def DaP (H0 : Hp) (σ : L2.St) (te : TE) (dd : PyData) : Prop := ∀ H Q, Same H0 H → (∀ v H', Same H H' → Da H' v dd → Q v H') → te σ H Q
def DaQ (H0 : Hp) (σ : L2.St) (ta : TA) (ds : List PyData) : Prop := ∀ H R, Same H0 H → (∀ vs H', Same H H' → DaL H' vs ds → R vs H') → ta σ H R
section
variable {H0 : Hp} {σ : L2.St} {te : TE} {ta : TA} {x : PyData} {ds : List PyData} {K : PySem.W.Frag}
theorem dap_int {i : Int} : DaP H0 σ (tC (.int i)) (.int i) := fun H Q _ k => k _ H (Same.refl H) (.int i)
theorem dap_str {i : Str} : DaP H0 σ (tC (.str i)) (.str i) := fun H Q _ k => k _ H (Same.refl H) (.str i)
theorem dap_non : DaP H0 σ (tC .non) .none := fun H Q _ k => k _ H (Same.refl H) .non
theorem dap_bl {b : Bool} : DaP H0 σ (tC (.bl b)) (.bool b) := fun H Q _ k => k _ H (Same.refl H) (.bl b)
theorem dap_var {i : Nat} {v : V} (e : σ[i]? = some (some v)) (h : Da H0 v x) : DaP H0 σ (tVar i) x := fun H Q s k => ⟨v, e, k v H (Same.refl H) (h.same s)⟩
theorem daq_nil : DaQ H0 σ tNil [] := fun H R _ k => k [] H (Same.refl H) .nil
theorem daq_cons (h : DaP H0 σ te x) (t : DaQ H0 σ ta ds) : DaQ H0 σ (tCons te ta) (x :: ds) := fun H R s k =>
  h H _ s fun v H1 s1 h1 => t H1 _ (s.trans s1) fun vs H2 s2 h2 => k (v :: vs) H2 (s1.trans s2) (.cons (h1.same s2) h2)
theorem dap_tup (hl : ds.length ≤ 1000) (t : DaQ H0 σ ta ds) : DaP H0 σ (tTup ta) (.tuple ds) := fun H Q s k =>
  t H _ s fun vs H1 s1 h1 => ⟨sz_le (by rw [h1.len]; omega), fun p np => k _ _ (s1.trans (same_new np)) (.tup upd_same (h1.same (same_new np)))⟩
theorem dap_lst (hl : ds.length ≤ 1000) (t : DaQ H0 σ ta ds) : DaP H0 σ (tLst ta) (.list ds) := fun H Q s k =>
  t H _ s fun vs H1 s1 h1 => ⟨sz_le (by rw [h1.len]; omega), fun p np => k _ _ (s1.trans (same_new np)) (.lst upd_same (h1.same (same_new np)))⟩
theorem dap_sl {i : Nat} {lo hi : Option Int} {tl th : TO} {v : V} {es : List PyData} (e : σ[i]? = some (some v)) (h : Da H0 v (.tuple ds)) (hl : ∀ H R, R lo H → tl σ H R) (hh : ∀ H R, R hi H → th σ H R)
    (hw : ¬ (HT.sIx ds.length 0 lo = 0 ∧ HT.sIx ds.length ds.length hi = ds.length)) (hc : ∀ H xs, DaL H xs ds → DaL H (cutV xs lo hi) es) : DaP H0 σ (tSl (rSlT K) (tVar i) tl th) (.tuple es) := fun H Q s k => by
  cases h with
  | @tup a xs _ ea hx =>
  have hlx := hx.len
  refine y_sl ⟨_, e, hl _ _ (hh _ _ ⟨a, xs, rfl, sqt (s _ _ ea), by rw [hlx]; exact hw, fun p np => ?_⟩)⟩
  exact k _ _ (same_new np) (.tup upd_same (hc _ _ (hx.same (s.trans (same_new np)))))
theorem dap_rep {k : Nat} {es : List PyData} (h : DaP H0 σ te (.tuple ds)) (h0 : ds ≠ []) (h1 : 2 ≤ k) (h2 : k ≤ 1000) (hz : ds.length ≤ 1000) (e : (List.replicate k ds).flatten = es) : DaP H0 σ (tOp (rRepT K) te (tC (.int (k : Nat)))) (.tuple es) := fun H Q s kk => by
  refine y_op (h H _ s fun v H1 s1 d1 => y_con ?_)
  cases d1 with
  | @tup a xs _ ea hx =>
  have hl := hx.len
  refine ⟨a, k, xs, rfl, rfl, sqt ea, fun z => h0 ?_, by omega, by omega, by omega, fun p np => ?_⟩
  · rw [z] at hl
    exact List.length_eq_zero_iff.mp hl.symm
  · refine kk _ _ (s1.trans (same_new np)) (.tup upd_same ?_)
    rw [← e]
    have hh := hx.same (same_new (o := .tup (List.replicate (k : Int).toNat xs).flatten) np)
    show DaL _ (List.replicate k xs).flatten _
    exact hh.rep k
end
theorem DaP.use {H : Hp} {σ : L2.St} {te : TE} {x : PyData} {Q : VK} (h : DaP H σ te x) (k : ∀ v H', Same H H' → Da H' v x → Q v H') : te σ H Q := h H Q (Same.refl H) k
/-! ### the written values of the law -/
def many13 : List Mv := (List.range 13).map fun i => ((((i % 8 : Nat) : Int), (i : Int)), ((1 : Int), (13 : Int)))
theorem m13_moves : movesB 100 8 (msD many13) = true := by decide +kernel
theorem m13_small : smD (msD many13) = true := by decide +kernel
theorem m13_grp : 12 < (grp many13).length := by decide +kernel
theorem m12_no : gameB (.tuple [.tuple ((many13.map mvD).take 12)]) = false := by decide +kernel
theorem m12_small : smD (.tuple [.tuple ((many13.map mvD).take 12)]) = true := by decide +kernel
theorem got_many {H : Hp} {v : V} {Q : VK} {E : XK} (dv : Da H v (msD many13)) (k : ∀ H', Same H H' → Q .non H') : spGotM [v] H Q E :=
  ⟨v, msD many13, rfl, dv, m13_small, by decide, fun ms e _ h => (by rw [← msD_inj e] at h; exact absurd h (by have := m13_grp; omega)), fun h => (by rw [m13_moves] at h; cases h), fun ms e _ _ => k⟩
def two12 : List Mv := [((0, 1), (1, 2)), ((0, 1), (1, 2))]
theorem two_grp : grp two12 = [((0, 1), [(1, 2), (1, 2)])] := by decide +kernel
theorem two_sum : sumP [((1 : Int), (2 : Int)), (1, 2)] = (1, 1) := by decide +kernel
theorem got_two {H : Hp} {v : V} {Q : VK} {E : XK} (dv : Da H v (msD two12)) (k : ∀ v' H', Da (tu H') v' (msD [((0, 1), (1, 1))]) → Same H H' → Q v' H') : spGotM [v] H Q E := by
  refine ⟨v, msD two12, rfl, dv, by decide +kernel, by decide, fun ms e _ _ v' gs' H' pm _ d' s => ?_, fun h => ?_, fun ms e _ h => ?_⟩
  · rw [← msD_inj e, two_grp] at pm
    rw [List.perm_singleton.mp pm] at d'
    refine k v' H' ?_ s
    have : ([(((0 : Int), (1 : Int)), [((1 : Int), (2 : Int)), (1, 2)])].map mvG) = [((0, 1), (1, 1))] := by
      show [((0, 1), sumP [(1, 2), (1, 2)])] = _
      rw [two_sum]
    rw [this] at d'
    exact d'
  · rw [show movesB 100 8 (msD two12) = true from by decide +kernel] at h
    cases h
  · rw [← msD_inj e, two_grp] at h
    exact absurd h (by decide)
end Ow

namespace K03
open PySem PySem.Spec PyProof.Rows L2 Ow 
local macro_rules | `(tactic| walk_at "y1") => `(tactic| with_reducible first | refine y_seq ?_ | refine y_asg ?_ | refine y_name ?_ | refine y_con ?_ | refine y_op ?_ | refine y_un ?_ | refine y_cons ?_ | refine y_nil ?_ | refine y_cb ?_ | refine y_fn ?_ | refine y_I0 ?_ | refine y_ret ?_ | refine y_drop ?_ | refine y_ifs ?_ | refine y_test ?_ | refine y_bl ?_ | refine y_not ?_ | refine y_and ?_ | refine y_or ?_ | refine y_if ?_ | refine y_chain ?_ | refine y_andV ?_ | refine y_orV ?_ | refine y_yes ?_ | refine y_lst ?_ | refine y_tup ?_ | refine y_intI ?_ | refine y_intB ?_ | refine y_abs ?_ | refine y_max2 ?_ | refine y_min2 ?_ | refine y_eqI ?_ | refine y_neI ?_ | refine y_eqS ?_ | refine y_neS ?_ | refine y_reprB ?_ | refine y_sub ?_ | refine y_bm ?_ | refine y_m1 ?_ | refine y_lc ?_ | refine y_for ?_ | refine y_rng1 ?_ | refine y_iStr ?_ | refine y_iList ?_ | refine y_next ?_ | refine y_B ?_ | refine y_rU ?_ | refine y_fld ?_ | refine y_prp ?_ | refine y_mth ?_ | refine y_mkr ?_ | refine y_par ?_ | refine y_par2 ?_ | refine y_gcons ?_ | refine y_gnil ?_ | refine y_gfld ?_ | refine y_gcd ?_ | refine y_rng2 ?_ | refine y_iRev ?_ | refine y_revL ?_ | refine y_ef ?_ | refine y_iTup ?_ | refine y_sl ?_ | refine y_iZipA ?_ | refine y_noP ?_ | refine y_prt ?_)
local macro_rules | `(tactic| walk_at "yy") => `(tactic| repeat (first | walk_at "y1" | ((with_reducible refine y_var2 ?_); refine ⟨_, rfl, ?_⟩)))
local macro_rules | `(tactic| walk_at "yi") => `(tactic| first
  | refine y_I (show CMul _ _ from .inl ⟨by decide, by decide⟩) ?_ | refine y_I (show CMul _ _ from .inl ⟨by omega, by omega⟩) ?_ | refine y_I (show CMul _ _ from .inr ⟨by omega, by omega⟩) ?_
  | refine y_I (show (0 : Int) < _ by decide) ?_ | refine y_I (show (0 : Int) < _ by omega) ?_ | refine y_I (show CPowW _ _ from ⟨by decide, by decide +kernel⟩) ?_ | refine y_I (show (0 : Int) < _ by decide +kernel) ?_ | refine y_I (big_div (by decide) (by decide)) ?_)
local macro_rules | `(tactic| walk_at "yt") => `(tactic| (with_reducible refine y_t ?_ ?_; · decide))
local macro_rules | `(tactic| walk_at "yf") => `(tactic| (with_reducible refine y_f ?_ ?_; · decide))
def top (i : Nat) : Stmt := PySem.Challenge.pw_wonbyturns_k03_games_judged.main.body.getD i (.Pass ⟨0, 0, 0, 0⟩)
abbrev s_TooMany___init__ : Stmt := inClass (top 4) 0
abbrev s_is_integer : Stmt := top 8
abbrev s_is_fraction : Stmt := top 9
abbrev s_lowest : Stmt := top 11
abbrev s_sum_of : Stmt := top 12
abbrev s_short : Stmt := top 13
abbrev s_is_game : Stmt := top 19
abbrev s_are_moves_of_game : Stmt := top 20
abbrev s_merged_moves : Stmt := top 21
abbrev s_is_standing : Stmt := top 22
abbrev s_is_move : Stmt := top 23
abbrev s_are_moves : Stmt := top 24
abbrev s_do_ascend : Stmt := top 25
abbrev s_chances_of : Stmt := top 26
abbrev s_moves_with : Stmt := top 27
abbrev s_law_dice : Stmt := top 29
abbrev s_law_roll : Stmt := top 30
abbrev s_law_pick : Stmt := top 31
abbrev s_law_some : Stmt := top 32
abbrev s_law_ratio : Stmt := top 33
abbrev s_law_plus : Stmt := top 34
abbrev s_law_times : Stmt := top 35
abbrev s_law_sum : Stmt := top 36
abbrev s_law_chances : Stmt := top 37
abbrev s_law_moves : Stmt := top 38
abbrev s_law_game : Stmt := top 39
abbrev s_law_house : Stmt := top 40
abbrev s_law_known_house : Stmt := top 41
abbrev s_law_size : Stmt := top 42
abbrev s_law_joined : Stmt := top 43
abbrev s_law_is_number : Stmt := top 44
abbrev s_law_is_fraction : Stmt := top 45
abbrev s_law_is_move : Stmt := top 46
abbrev s_law_is_game : Stmt := top 47
abbrev s_law_bent : Stmt := top 48
abbrev s_law_got : Stmt := top 49
abbrev s_law_right : Stmt := top 50
abbrev s_law : Stmt := top 51
/-- the built-in names are the built-ins -/
structure Blt (mg : Str → Option Value) : Prop where
  n_abs : mg "abs" = none
  n_all : mg "all" = none
  n_bool : mg "bool" = none
  n_dict : mg "dict" = none
  n_int : mg "int" = none
  n_isinstance : mg "isinstance" = none
  n_len : mg "len" = none
  n_list : mg "list" = none
  n_max : mg "max" = none
  n_min : mg "min" = none
  n_range : mg "range" = none
  n_repr : mg "repr" = none
  n_set : mg "set" = none
  n_sorted : mg "sorted" = none
  n_tuple : mg "tuple" = none
  n_zip : mg "zip" = none
structure Con (mg : Str → Option Value) : Prop where
  g_LEAST_LONG : ∃ t, mg "LEAST_LONG" = some (.int (10 ^ 300) t)
  g_MAX_STANDINGS : ∃ t, mg "MAX_STANDINGS" = some (.int 8 t)
  g_MAX_MOVES : ∃ t, mg "MAX_MOVES" = some (.int 12 t)
  g_MAX_GAIN : ∃ t, mg "MAX_GAIN" = some (.int 99 t)
  g_MAX_MERGED : ∃ t, mg "MAX_MERGED" = some (.int 100 t)
section
variable {P : Program} {w : World} {K : PySem.W.Frag} {mg : Str → Option Value} {base : Heap}
theorem sc_is_integer : FnScope ["value"] ["value"] (defScope s_is_integer) := ⟨rfl, rfl, rfl, by decide +kernel, rfl, by decide +kernel, by decide +kernel⟩
-- 0 value
theorem ok_is_integer {f : Addr} {fd : FuncData} (F : FunD K "is_integer" "is_integer" (defArgs s_is_integer) (defBody s_is_integer) (defScope s_is_integer) [] [] f fd) (B : Blt mg) (Z : Con mg) (GL : GcdF mg) {CG : Addr} (IG : IFC K mg "InvalidGame" CG) : FnOk P w K mg base CX0 1 f fd ["value"] spIntD := by
  refine F.ok sc_is_integer (fun vs H Q E h => ?_) (fun cdv A outer s H vs Q E hr h => ?_)
  · obtain ⟨v, d, rfl, _⟩ := h
    rfl
  · obtain ⟨v, d, rfl, h, k⟩ := h
    refine ⟨_, PSs.nox (pss_cons (ps_if (PW.pt (pw_or (pt_not (pt_val (pe_callB (c_isiM (K := K)) (by rfl) B.n_isinstance (by decide +kernel) (pa_cons (pv 0) (pa_cons (pe_bltn (v := .ty "int") (by rfl) B.n_int (by decide +kernel) rfl) pa_nil))))) (pw_or1 (pt_val (pe_callB (c_isiM (K := K)) (by rfl) B.n_isinstance (by decide +kernel) (pa_cons (pv 0) (pa_cons (pe_bltn (v := .ty "bool") (by rfl) B.n_bool (by decide +kernel) rfl) pa_nil))))))) (pss_one (ps_ret pe_bl)) pss_nil) (pss_one (ps_ret (pe_chain op_lt op_lt (pe_un un_neg (pe_globI (by rfl) Z.g_LEAST_LONG)) (pv 0) (pe_globI (by rfl) Z.g_LEAST_LONG))))), ?_⟩
    walk_at "yy"
    refine y_isInt h ?_
    walk_at "yy"
    cases hi : intK d with
    | false =>
      refine y_t rfl ?_
      walk_at "yy"
      have e : intB d = false := by cases d <;> first | rfl | cases hi
      rw [← e]
      exact k
    | true =>
      refine y_f rfl ?_
      walk_at "yy"
      refine y_isBool h ?_
      walk_at "yy"
      cases hb : boolK d with
      | true =>
        refine y_t rfl ?_
        walk_at "yy"
        have e : intB d = false := by cases d <;> first | rfl | cases hb
        rw [← e]
        exact k
      | false =>
        obtain ⟨i, rfl, rfl⟩ := h.intI hi hb
        refine y_f rfl ?_
        walk_at "yy"
        refine y_ite (fun h => ?_) (fun h => ?_)
        · walk_at "yy"
          have e : intB (.int i) = decide (i < 10 ^ 300) := by
            show okI i = _
            unfold okI
            rw [if_pos h]
          rw [← e]
          exact k
        · have e : intB (.int i) = false := by
            show okI i = _
            unfold okI
            rw [if_neg (by rw [h]; exact Bool.false_ne_true)]
          rw [← e]
          exact k
theorem sc_is_fraction : FnScope ["value", "top", "bottom"] ["value"] (defScope s_is_fraction) := ⟨rfl, rfl, rfl, by decide +kernel, rfl, by decide +kernel, by decide +kernel⟩
-- 0 value, 1 top, 2 bottom
theorem ok_is_fraction {f : Addr} {fd : FuncData} (F : FunD K "is_fraction" "is_fraction" (defArgs s_is_fraction) (defBody s_is_fraction) (defScope s_is_fraction) [] [] f fd) (B : Blt mg) (Z : Con mg) (GL : GcdF mg) {CG : Addr} (IG : IFC K mg "InvalidGame" CG) (C_is_integer : Cal P w K mg base 1 "is_integer" ["value"] spIntD) : FnOk P w K mg base CX0 2 f fd ["value"] spFracD := by
  refine F.ok sc_is_fraction (fun vs H Q E h => ?_) (fun cdv A outer s H vs Q E hr h => ?_)
  · obtain ⟨v, d, rfl, _⟩ := h
    rfl
  · obtain ⟨v, d, rfl, h, k⟩ := h
    refine ⟨_, PSs.nox (pss_cons (ps_if (PW.pt (pw_or (pt_not (pt_val (pe_callB (c_isiM (K := K)) (by rfl) B.n_isinstance (by decide +kernel) (pa_cons (pv 0) (pa_cons (pe_bltn (v := .ty "tuple") (by rfl) B.n_tuple (by decide +kernel) rfl) pa_nil))))) (pw_or1 (pt_cmpR op_ne (pe_callB (c_lenQ (K := K)) (by rfl) B.n_len (by decide +kernel) (pa_cons (pv 0) pa_nil)) pe_int (nomark _))))) (pss_one (ps_ret pe_bl)) pss_nil) (pss_cons (ps_asg (pv 0) (g_tup (K := K) (n := 2) (by rfl) (pgs_cons (pg_name (i := 1) sc_is_fraction.nd rfl (Or.inl rfl)) (pgs_cons (pg_name (i := 2) sc_is_fraction.nd rfl (Or.inl rfl)) pgs_nil)))) (pss_cons (ps_if (PW.pt (pw_or (pt_not (pt_val (pe_fn C_is_integer (hr.mono (by decide)) (by rfl) (pa_cons (pv 1) pa_nil)))) (pw_or1 (pt_not (pt_val (pe_fn C_is_integer (hr.mono (by decide)) (by rfl) (pa_cons (pv 2) pa_nil))))))) (pss_one (ps_ret pe_bl)) pss_nil) (pss_one (ps_ret (pe_and (pe_cmpR op_ge (pv 2) pe_int (nomark _)) (pe_one (pe_cmpR op_eq (pe_callBfun cr_gcd (by rfl) GL.gcd (pa_cons (pv 1) (pa_cons (pv 2) pa_nil))) pe_int (nomark _))))))))), ?_⟩
    walk_at "yy"
    refine y_isTup h ?_
    walk_at "yy"
    cases ht : tupB d with
    | false =>
      refine y_t rfl ?_
      walk_at "yy"
      have e : fracDB d = false := by cases d <;> first | rfl | cases ht
      rw [← e]
      exact k
    | true =>
      obtain ⟨a, xs, ds, rfl, rfl, ea, hl⟩ := h.tupI ht
      refine y_f rfl ?_
      walk_at "yy"
      refine y_lenT (sqt ea) ?_
      walk_at "yy"
      have no : ∀ b, fracDB (.tuple ds) = b → Q (.bl b) H := fun b e => by
        rw [← e]
        exact k
      refine y_ite (fun h2 => ?_) (fun h2 => ?_)
      · walk_at "yy"
        have h2 := of_decide_eq_false ((Bool.not_eq_true' _).mp h2)
        rw [hl.len] at h2
        refine no _ ?_
        exact fracDB_len (by omega)
      · have h2 := of_decide_eq_true ((Bool.not_eq_false' _).mp h2)
        match xs, ds, hl, h2 with
        | [x, y], [d1, d2], .cons q1 (.cons q2 .nil), _ =>
        walk_at "yy"
        refine y_gtup rfl (sqt ea) rfl ?_
        walk_at "yy"
        refine ⟨x, d1, rfl, q1, ?_⟩
        walk_at "yy"
        cases b1 : intB d1 with
        | false =>
          refine y_t rfl ?_
          walk_at "yy"
          refine no _ ?_
          cases d1 <;> cases d2 <;> first | rfl | (show fracB (_, _) = false; unfold fracB; rw [show okI _ = false from b1]; rfl)
        | true =>
          obtain ⟨i, rfl, ok1⟩ := intB_inv b1
          cases q1
          refine y_f rfl ?_
          walk_at "yy"
          refine ⟨y, d2, rfl, q2, ?_⟩
          walk_at "yy"
          cases b2 : intB d2 with
          | false =>
            refine y_t rfl ?_
            walk_at "yy"
            refine no _ ?_
            cases d2 <;> first | rfl | (show fracB (_, _) = false; unfold fracB; rw [show okI _ = false from b2, Bool.and_false]; rfl)
          | true =>
            obtain ⟨j, rfl, ok2⟩ := intB_inv b2
            cases q2
            refine y_f rfl ?_
            walk_at "yy"
            have no : ∀ b, fracB (i, j) = b → Q (.bl b) H := no
            refine y_ite (fun h3 => ?_) (fun h3 => ?_)
            · walk_at "yy"
              refine no _ ?_
              unfold fracB
              rw [show okI i = true from ok1, show okI j = true from ok2, h3, Bool.true_and, Bool.true_and, Bool.true_and, decide_eq_decide]
              show Nat.gcd i.natAbs j.natAbs = 1 ↔ ((Nat.gcd i.natAbs j.natAbs : Nat) : Int) = 1
              omega
            · refine no _ ?_
              unfold fracB
              rw [h3, Bool.and_false, Bool.false_and]
theorem sc_lowest : FnScope ["top", "bottom", "common"] ["top", "bottom"] (defScope s_lowest) := ⟨rfl, rfl, rfl, by decide +kernel, rfl, by decide +kernel, by decide +kernel⟩
-- 0 top, 1 bottom, 2 common
theorem ok_lowest {f : Addr} {fd : FuncData} (F : FunD K "lowest" "lowest" (defArgs s_lowest) (defBody s_lowest) (defScope s_lowest) [] [] f fd) (B : Blt mg) (Z : Con mg) (GL : GcdF mg) {CG : Addr} (IG : IFC K mg "InvalidGame" CG) : FnOk P w K mg base CX0 1 f fd ["top", "bottom"] spLowest := by
  refine F.ok sc_lowest (fun vs H Q E h => ?_) (fun cdv A outer s H vs Q E hr h => ?_)
  · obtain ⟨t, b, rfl, _⟩ := h
    rfl
  · obtain ⟨t, b, rfl, h0, ht, hb, k⟩ := h
    refine ⟨_, PSs.nox (pss_cons (ps_set (i := 2) sc_lowest.nd rfl (Or.inl rfl) (pe_callBfun cr_gcd (by rfl) GL.gcd (pa_cons (pv 0) (pa_cons (pv 1) pa_nil)))) (pss_cons (ps_if (pt_cmpR op_lt (pv 1) pe_int (nomark _)) (pss_one (ps_set (i := 2) sc_lowest.nd rfl (Or.inl rfl) (pe_un un_neg (pv 2)))) pss_nil) (pss_one (ps_ret (pe_tup (pa_cons (pe_op op_fdivWN (pv 0) (pv 2)) (pa_cons (pe_op op_fdivWN (pv 1) (pv 2)) pa_nil))))))), ?_⟩
    walk_at "yy"
    have hd := fun i : Int => divWN (t := t) h0 hb (i := i)
    by_cases hn : b < 0
    · refine y_t (decide_eq_true hn) ?_
      rw [if_pos hn] at hd
      walk_at "yy"
      refine y_I (hd _) ?_
      walk_at "yy"
      refine y_I (hd _) ?_
      walk_at "yy"
      refine ⟨by show 2 ≤ sizeLine; decide, fun p hp => k p _ hp ?_ (same_new hp)⟩
      rw [upd_same]
      unfold low lowT lowB
      rw [if_pos hn]
      rfl
    · refine y_f (decide_eq_false hn) ?_
      rw [if_neg hn] at hd
      walk_at "yy"
      refine y_I (hd _) ?_
      walk_at "yy"
      refine y_I (hd _) ?_
      walk_at "yy"
      refine ⟨by show 2 ≤ sizeLine; decide, fun p hp => k p _ hp ?_ (same_new hp)⟩
      rw [upd_same]
      unfold low lowT lowB
      rw [if_neg hn]
      rfl
theorem sc_sum_of : FnScope ["pairs", "top", "bottom", "one", "common"] ["pairs"] (defScope s_sum_of) := ⟨rfl, rfl, rfl, by decide +kernel, rfl, by decide +kernel, by decide +kernel⟩
-- 0 pairs, 1 top, 2 bottom, 3 one, 4 common
theorem ok_sum_of {f : Addr} {fd : FuncData} (F : FunD K "sum_of" "sum_of" (defArgs s_sum_of) (defBody s_sum_of) (defScope s_sum_of) [] [] f fd) (B : Blt mg) (Z : Con mg) (GL : GcdF mg) {CG : Addr} (IG : IFC K mg "InvalidGame" CG) (C_lowest : Cal P w K mg base 1 "lowest" ["top", "bottom"] spLowest) : FnOk P w K mg base CX0 2 f fd ["pairs"] (spSumOf K) := by
  refine F.ok sc_sum_of (fun vs H Q E h => ?_) (fun cdv A outer s H vs Q E hr h => ?_)
  · obtain ⟨a, xs, ps, rfl, _⟩ := h
    rfl
  · obtain ⟨a, xs, ps, rfl, ha, hp, sm, hl, k⟩ := h
    refine ⟨_, PSs.nox (pss_cons (ps_asg (pe_tup (pa_cons pe_int (pa_cons pe_int pa_nil))) (g_tup (K := K) (n := 2) (by rfl) (pgs_cons (pg_name (i := 1) sc_sum_of.nd rfl (Or.inl rfl)) (pgs_cons (pg_name (i := 2) sc_sum_of.nd rfl (Or.inl rfl)) pgs_nil)))) (pss_cons (ps_for PassesOwn.never rfl (w_list (K := K) (pv 0)) (pg_name (i := 3) sc_sum_of.nd rfl (Or.inl rfl)) (pss_cons (ps_set (i := 4) sc_sum_of.nd rfl (Or.inl rfl) (pe_callBfun cr_lcm (by rfl) GL.lcm (pa_cons (pv 2) (pa_cons (pe_ix (x_tup (K := K)) (pv 3) pe_int (fun _ _ => rfl)) pa_nil)))) (pss_cons (ps_set (i := 1) sc_sum_of.nd rfl (Or.inl rfl) (pe_op op_add (pe_op op_mulW (pv 1) (pe_op op_fdivW (pv 4) (pv 2))) (pe_op op_mulW (pe_ix (x_tup (K := K)) (pv 3) pe_int (fun _ _ => rfl)) (pe_op op_fdivW (pv 4) (pe_ix (x_tup (K := K)) (pv 3) pe_int (fun _ _ => rfl)))))) (pss_one (ps_set (i := 2) sc_sum_of.nd rfl (Or.inl rfl) (pv 4)))))) (pss_one (ps_ret (pe_fn C_lowest (hr.mono (by decide)) (by rfl) (pa_cons (pv 1) (pa_cons (pv 2) pa_nil))))))), ?_⟩
    walk_at "yy"
    refine ⟨by show 2 ≤ sizeLine; decide, fun t0 n0 => ?_⟩
    refine y_gtup rfl (sqt upd_same) rfl ?_
    walk_at "yy"
    have s0 : Same H (upd H t0 (.tup [.int 0, .int 1])) := same_new n0
    generalize upd H t0 (.tup [.int 0, .int 1]) = H1 at s0 ⊢
    have hlen : xs.length = ps.length := by rw [hp.len, List.length_map]
    refine ⟨a, rfl, ⟨xs, s0.seq ha⟩, y_forW (b := fun _ _ => False) (c := fun _ _ => False) (walk_list (K := K) (a := a) (xs := xs)) (fun i σ H2 => ∃ u1 u2, σ = [some (.ref a), some (.int ((ps.take i).foldl sumS (0, 1)).1), some (.int ((ps.take i).foldl sumS (0, 1)).2), u1, u2] ∧ H2 = H1) ⟨_, _, rfl, rfl⟩ (fun i σ H2 _ h => by obtain ⟨_, _, _, rfl⟩ := h; exact s0.seq ha) ?_ ?_⟩
    · rintro i x σ H2 H3 hi ⟨u1, u2, rfl, rfl⟩ ⟨rfl, ex⟩
      obtain ⟨dd, ed, hd⟩ := (hp.same s0).at ex
      rw [List.getElem?_map] at ed
      obtain ⟨p, ep, rfl⟩ := Option.map_eq_some_iff.mp ed
      obtain ⟨w0, w1, w2, w3⟩ := sumS_take sm i (by omega)
      obtain ⟨v0, v1, v2, v3⟩ := sumS_take sm (i + 1) (by omega)
      have et : (ps.take (i + 1)).foldl sumS (0, 1) = sumS ((ps.take i).foldl sumS (0, 1)) p := by rw [List.take_add_one, ep, List.foldl_append]; rfl
      rw [et] at v0 v1 v2
      obtain ⟨p1, p2, p3⟩ := sm p (List.mem_of_getElem? ep)
      have hi2 : i ≤ 100 := by omega
      generalize (ps.take i).foldl sumS (0, 1) = r at w0 w1 w2 v0 v1 v2 et ⊢
      have B : ∀ n : Nat, n ≤ 1024 ^ 101 → n < 2 ^ 4000 := fun n h => Nat.lt_of_le_of_lt h (by decide +kernel)
      have P : (1024 : Nat) ^ i ≤ 1024 ^ 100 := Nat.pow_le_pow_right (by decide) hi2
      have P2 : (1024 : Nat) ^ (i + 1) ≤ 1024 ^ 101 := Nat.pow_le_pow_right (by decide) (by omega)
      have bb : r.2.natAbs < 2 ^ 4000 := B _ (Nat.le_trans w1 (Nat.le_trans P (by decide +kernel)))
      have bc : (((r.2.natAbs.lcm p.2.natAbs : Nat) : Int)).natAbs < 2 ^ 4000 := B _ (Nat.le_trans v1 P2)
      have bt : r.1.natAbs < 2 ^ 4000 := by
        refine Nat.lt_of_le_of_lt w2 (Nat.lt_of_le_of_lt (Nat.mul_le_mul (Nat.mul_le_mul_left 1024 hi2) (Nat.le_trans w1 P)) (by decide +kernel))
      have bp : p.1.natAbs < 2 ^ 4000 := Nat.lt_of_lt_of_le p1 (by decide +kernel)
      have b2 : p.2.natAbs < 2 ^ 4000 := Nat.lt_of_lt_of_le (show p.2.natAbs < 1024 by omega) (by decide +kernel)
      have dv : ∀ (c y : Int), 0 < y → c.natAbs < 2 ^ 4000 → (c / y).natAbs < 2 ^ 4000 := fun c y hy hc => Nat.lt_of_le_of_lt (Int.natAbs_ediv_le_natAbs c y) hc
      cases hd with
      | @tup aT _ _ eT hT =>
      cases hT with
      | cons q1 hT =>
      cases hT with
      | cons q2 hT =>
      cases hT
      cases q1
      cases q2
      walk_at "yy"
      refine y_ixT (sqt eT) rfl ?_
      refine ⟨_, _, rfl, bb, b2, ?_⟩
      walk_at "yy"
      refine y_I (big_div w0 bb) ?_
      refine y_I (mulW bt (dv _ _ w0 bc)) ?_
      walk_at "yy"
      refine y_ixT (sqt eT) rfl ?_
      walk_at "yy"
      refine y_ixT (sqt eT) rfl ?_
      refine y_I (big_div p2 b2) ?_
      refine y_I (mulW bp (dv _ _ p2 bc)) ?_
      walk_at "yy"
      refine ⟨some (.ref aT), some (.int ((r.2.natAbs.lcm p.2.natAbs : Nat) : Int)), ?_, rfl⟩
      rw [et]
      rfl
    · rintro σ H2 ⟨u1, u2, rfl, rfl⟩
      obtain ⟨w0, w1, w2, w3⟩ := sumS_take sm ps.length (Nat.le_refl _)
      rw [List.take_length] at w0 w1 w2 w3
      rw [hlen, List.take_length]
      have P : (1024 : Nat) ^ ps.length ≤ 1024 ^ 100 := Nat.pow_le_pow_right (by decide) hl
      walk_at "yy"
      refine ⟨_, _, rfl, Int.ne_of_gt w0, ?_, Nat.lt_of_le_of_lt (Nat.le_trans w1 P) (by decide +kernel), fun z H3 nz ez s3 => ?_⟩
      · exact Nat.lt_of_le_of_lt w2 (Nat.lt_of_le_of_lt (Nat.mul_le_mul (Nat.mul_le_mul_left 1024 hl) (Nat.le_trans w1 P)) (by decide +kernel))
      · rw [w3] at ez
        exact k z H3 (Same.free s0 nz) ez (s0.trans s3)
theorem sc_is_standing : FnScope ["value", "size"] ["value", "size"] (defScope s_is_standing) := ⟨rfl, rfl, rfl, by decide +kernel, rfl, by decide +kernel, by decide +kernel⟩
-- 0 value, 1 size
theorem ok_is_standing {f : Addr} {fd : FuncData} (F : FunD K "_is_standing" "_is_standing" (defArgs s_is_standing) (defBody s_is_standing) (defScope s_is_standing) [] [] f fd) (B : Blt mg) (Z : Con mg) (GL : GcdF mg) {CG : Addr} (IG : IFC K mg "InvalidGame" CG) (C_is_integer : Cal P w K mg base 1 "is_integer" ["value"] spIntD) : FnOk P w K mg base CX0 2 f fd ["value", "size"] spStd := by
  refine F.ok sc_is_standing (fun vs H Q E h => ?_) (fun cdv A outer s H vs Q E hr h => ?_)
  · obtain ⟨v, d, n, rfl, _⟩ := h
    rfl
  · obtain ⟨v, d, n, rfl, h, k⟩ := h
    refine ⟨_, PSs.nox (pss_one (ps_ret (pe_and (pe_fn C_is_integer (hr.mono (by decide)) (by rfl) (pa_cons (pv 0) pa_nil)) (pe_one (pe_chain op_le op_lt pe_int (pv 0) (pv 1)))))), ?_⟩
    walk_at "yy"
    refine ⟨v, d, rfl, h, ?_⟩
    walk_at "yy"
    cases b1 : intB d with
    | false =>
      refine y_f rfl ?_
      have e : stdB n d = false := by cases d <;> first | rfl | (show (okI _ && _) = false; rw [show okI _ = false from b1]; rfl)
      rw [← e]
      exact k
    | true =>
      obtain ⟨i, rfl, ok1⟩ := intB_inv b1
      cases h
      have e : stdB n (.int i) = (decide (0 ≤ i) && decide (i < n)) := by
        show (okI i && _) = _
        rw [show okI i = true from ok1, Bool.true_and]
      rw [e] at k
      refine y_t rfl ?_
      walk_at "yy"
      refine y_ite (fun h1 => ?_) (fun h1 => ?_)
      · walk_at "yy"
        rw [h1, Bool.true_and] at k
        exact k
      · rw [h1, Bool.false_and] at k
        exact k
theorem sc_is_move : FnScope ["value", "size", "to", "gain", "chance"] ["value", "size"] (defScope s_is_move) := ⟨rfl, rfl, rfl, by decide +kernel, rfl, by decide +kernel, by decide +kernel⟩
-- 0 value, 1 size, 2 to, 3 gain, 4 chance
theorem ok_is_move {f : Addr} {fd : FuncData} (F : FunD K "_is_move" "_is_move" (defArgs s_is_move) (defBody s_is_move) (defScope s_is_move) [] [] f fd) (B : Blt mg) (Z : Con mg) (GL : GcdF mg) {CG : Addr} (IG : IFC K mg "InvalidGame" CG) (C_is_standing : Cal P w K mg base 2 "_is_standing" ["value", "size"] spStd) (C_is_integer : Cal P w K mg base 1 "is_integer" ["value"] spIntD) (C_is_fraction : Cal P w K mg base 2 "is_fraction" ["value"] spFracD) : FnOk P w K mg base CX0 3 f fd ["value", "size"] spMove := by
  refine F.ok sc_is_move (fun vs H Q E h => ?_) (fun cdv A outer s H vs Q E hr h => ?_)
  · obtain ⟨v, d, n, rfl, _⟩ := h
    rfl
  · obtain ⟨v, d, n, rfl, h, k⟩ := h
    refine ⟨_, PSs.nox (pss_cons (ps_if (PW.pt (pw_or (pt_not (pt_val (pe_callB (c_isiM (K := K)) (by rfl) B.n_isinstance (by decide +kernel) (pa_cons (pv 0) (pa_cons (pe_bltn (v := .ty "tuple") (by rfl) B.n_tuple (by decide +kernel) rfl) pa_nil))))) (pw_or1 (pt_cmpR op_ne (pe_callB (c_lenQ (K := K)) (by rfl) B.n_len (by decide +kernel) (pa_cons (pv 0) pa_nil)) pe_int (nomark _))))) (pss_one (ps_ret pe_bl)) pss_nil) (pss_cons (ps_asg (pv 0) (g_tup (K := K) (n := 3) (by rfl) (pgs_cons (pg_name (i := 2) sc_is_move.nd rfl (Or.inl rfl)) (pgs_cons (pg_name (i := 3) sc_is_move.nd rfl (Or.inl rfl)) (pgs_cons (pg_name (i := 4) sc_is_move.nd rfl (Or.inl rfl)) pgs_nil))))) (pss_cons (ps_if (PW.pt (pw_or (pt_not (pt_val (pe_fn C_is_standing (hr.mono (by decide)) (by rfl) (pa_cons (pv 2) (pa_cons (pv 1) pa_nil))))) (pw_or (pt_not (pt_val (pe_fn C_is_integer (hr.mono (by decide)) (by rfl) (pa_cons (pv 3) pa_nil)))) (pw_or1 (pt_not (pt_chain op_le op_le (pe_un un_neg (pe_globI (by rfl) Z.g_MAX_GAIN)) (pv 3) (pe_globI (by rfl) Z.g_MAX_GAIN))))))) (pss_one (ps_ret pe_bl)) pss_nil) (pss_one (ps_ret (pe_and (pe_fn C_is_fraction (hr.mono (by decide)) (by rfl) (pa_cons (pv 4) pa_nil)) (pe_one (pe_cmpR op_gt (pe_ix (x_tup (K := K)) (pv 4) pe_int (fun _ _ => rfl)) pe_int (nomark _))))))))), ?_⟩
    walk_at "yy"
    refine y_isTup h ?_
    walk_at "yy"
    cases ht : tupB d with
    | false =>
      refine y_t rfl ?_
      walk_at "yy"
      have e : moveB n d = false := by cases d <;> first | rfl | cases ht
      rw [← e]
      exact k
    | true =>
      obtain ⟨a, xs, ds, rfl, rfl, ea, hl⟩ := h.tupI ht
      refine y_f rfl ?_
      walk_at "yy"
      refine y_lenT (sqt ea) ?_
      walk_at "yy"
      have no : ∀ b, moveB n (.tuple ds) = b → Q (.bl b) H := fun b e => by
        rw [← e]
        exact k
      refine y_ite (fun h2 => ?_) (fun h2 => ?_)
      · walk_at "yy"
        have h2 := of_decide_eq_false ((Bool.not_eq_true' _).mp h2)
        rw [hl.len] at h2
        exact no _ (moveB_len (by omega))
      · have h2 := of_decide_eq_true ((Bool.not_eq_false' _).mp h2)
        match xs, ds, hl, h2 with
        | [x, y, z], [d1, d2, d3], .cons q1 (.cons q2 (.cons q3 .nil)), _ =>
        have no : ∀ b, (stdB n d1 && (gainB d2 && (fracDB d3 && topPos d3))) = b → Q (.bl b) H := no
        walk_at "yy"
        refine y_gtup rfl (sqt ea) rfl ?_
        walk_at "yy"
        refine ⟨x, d1, n, rfl, q1, ?_⟩
        walk_at "yy"
        cases b1 : stdB n d1 with
        | false =>
          refine y_t rfl ?_
          walk_at "yy"
          exact no _ (by rw [b1, Bool.false_and])
        | true =>
          refine y_f rfl ?_
          walk_at "yy"
          refine ⟨y, d2, rfl, q2, ?_⟩
          walk_at "yy"
          cases b2 : intB d2 with
          | false =>
            refine y_t rfl ?_
            walk_at "yy"
            have g2 : gainB d2 = false := by cases d2 <;> first | rfl | (show (okI _ && _) = false; rw [show okI _ = false from b2]; rfl)
            exact no _ (by rw [g2, Bool.false_and, Bool.and_false])
          | true =>
            obtain ⟨j, rfl, ok2⟩ := intB_inv b2
            cases q2
            have g2 : gainB (.int j) = (decide (-99 ≤ j) && decide (j ≤ 99)) := by
              show (okI j && _) = _
              rw [show okI j = true from ok2, Bool.true_and]
            refine y_f rfl ?_
            walk_at "yy"
            refine y_ite (fun h3 => ?_) (fun h3 => ?_)
            · walk_at "yy"
              cases h4 : decide (j ≤ 99) with
              | true =>
                refine y_f rfl ?_
                walk_at "yy"
                refine ⟨z, d3, rfl, q3, ?_⟩
                walk_at "yy"
                have gt : gainB (.int j) = true := by rw [g2, h3, h4]; rfl
                cases b3 : fracDB d3 with
                | false =>
                  refine y_f rfl ?_
                  exact no _ (by rw [b3, Bool.false_and, Bool.and_false, Bool.and_false])
                | true =>
                  obtain ⟨u, w, rfl, f3⟩ := fracDB_inv b3
                  cases q3 with
                  | tup eT hT =>
                  cases hT with
                  | cons r1 hT =>
                  cases hT with
                  | cons r2 hT =>
                  cases hT
                  cases r1
                  refine y_t rfl ?_
                  walk_at "yy"
                  refine y_ixT (sqt eT) rfl ?_
                  walk_at "yy"
                  refine no _ ?_
                  rw [b1, gt, b3, Bool.true_and, Bool.true_and, Bool.true_and]
                  rfl
              | false =>
                refine y_t rfl ?_
                walk_at "yy"
                exact no _ (by rw [g2, h4, Bool.and_false, Bool.false_and, Bool.and_false])
            · walk_at "yy"
              refine y_t rfl ?_
              walk_at "yy"
              exact no _ (by rw [g2, h3, Bool.false_and, Bool.false_and, Bool.and_false])
theorem sc_are_moves : FnScope ["value", "most", "size", "move"] ["value", "most", "size"] (defScope s_are_moves) := ⟨rfl, rfl, rfl, by decide +kernel, rfl, by decide +kernel, by decide +kernel⟩
-- 0 value, 1 most, 2 size, 3 move
theorem ok_are_moves {f : Addr} {fd : FuncData} (F : FunD K "_are_moves" "_are_moves" (defArgs s_are_moves) (defBody s_are_moves) (defScope s_are_moves) [] [] f fd) (B : Blt mg) (Z : Con mg) (GL : GcdF mg) {CG : Addr} (IG : IFC K mg "InvalidGame" CG) (C_is_move : Cal P w K mg base 3 "_is_move" ["value", "size"] spMove) (C_sum_of : Cal P w K mg base 2 "sum_of" ["pairs"] (spSumOf K)) : FnOk P w K mg base CX0 4 f fd ["value", "most", "size"] spMoves := by
  refine F.ok sc_are_moves (fun vs H Q E h => ?_) (fun cdv A outer s H vs Q E hr h => ?_)
  · obtain ⟨v, d, most, n, rfl, _⟩ := h
    rfl
  · obtain ⟨v, d, most, n, rfl, h, sm, hm, k⟩ := h
    refine ⟨_, PSs.nox (pss_cons (ps_if (PW.pt (pw_or (pt_not (pt_val (pe_callB (c_isiM (K := K)) (by rfl) B.n_isinstance (by decide +kernel) (pa_cons (pv 0) (pa_cons (pe_bltn (v := .ty "tuple") (by rfl) B.n_tuple (by decide +kernel) rfl) pa_nil))))) (pw_or1 (pt_not (pt_chain op_le op_le pe_int (pe_callB (c_lenQ (K := K)) (by rfl) B.n_len (by decide +kernel) (pa_cons (pv 0) pa_nil)) (pv 1)))))) (pss_one (ps_ret pe_bl)) pss_nil) (pss_one (ps_ret (pe_and (pe_callB (c_all (K := K) rfl) (by rfl) B.n_all (by decide +kernel) (pa_cons (pe_lc (own := [("move", 3)]) (g := gName 3) (tt := tYes) rfl sc_are_moves.nd (w_tup (K := K) (pv 0)) (blkOk_by (own := [("move", 3)]) (N := ["value", "most", "size", "move"]) (sc := defScope s_are_moves) (by decide +kernel)) (fun _ _ _ _ _ => pg_name (i := 3) sc_are_moves.nd rfl (Or.inl rfl)) (fun _ _ _ _ _ => pts_nil) (fun _ _ _ _ _ => (pe_fn C_is_move (hr.mono (by decide)) (by rfl) (pa_cons (pv 3) (pa_cons (pv 2) pa_nil))))) pa_nil)) (pe_one (pe_cmpR (o_eqD (K := K) hr.units) (pe_fn C_sum_of (hr.mono (by decide)) (by rfl) (pa_cons (pe_lc (own := [("move", 3)]) (g := gName 3) (tt := tYes) rfl sc_are_moves.nd (w_tup (K := K) (pv 0)) (blkOk_by (own := [("move", 3)]) (N := ["value", "most", "size", "move"]) (sc := defScope s_are_moves) (by decide +kernel)) (fun _ _ _ _ _ => pg_name (i := 3) sc_are_moves.nd rfl (Or.inl rfl)) (fun _ _ _ _ _ => pts_nil) (fun _ _ _ _ _ => (pe_ix (x_tup (K := K)) (pv 3) pe_int (fun _ _ => rfl)))) pa_nil)) (pe_tup (pa_cons pe_int (pa_cons pe_int pa_nil))) (nomark _))))))), ?_⟩
    walk_at "yy"
    refine y_isTup h ?_
    walk_at "yy"
    cases ht : tupB d with
    | false =>
      refine y_t rfl ?_
      walk_at "yy"
      have e : movesB most n d = false := by cases d <;> first | rfl | cases ht
      rw [← e]
      exact k _ (Same.refl H)
    | true =>
      obtain ⟨a, xs, ds, rfl, rfl, ea, hl⟩ := h.tupI ht
      refine y_f rfl ?_
      walk_at "yy"
      refine y_lenT (sqt ea) ?_
      walk_at "yy"
      have hn := hl.len
      have no : ∀ H', Same H H' → ∀ b, ((decide (1 ≤ ds.length) && decide ((ds.length : Int) ≤ most)) && (ds.all (moveB n) && decide (sumP (ds.map chOf) = (1, 1)))) = b → Q (.bl b) H' := fun H' s b e => by
        rw [← e]
        exact k H' s
      refine y_ite (fun h1 => ?_) (fun h1 => ?_)
      case refine_2 =>
        walk_at "yy"
        refine y_t rfl ?_
        walk_at "yy"
        refine no _ (Same.refl H) _ ?_
        have h1 := of_decide_eq_false h1
        rw [decide_eq_false (by omega), Bool.false_and, Bool.false_and]
      · walk_at "yy"
        have h1 := of_decide_eq_true h1
        refine y_ite (fun h2 => ?_) (fun h2 => ?_)
        · walk_at "yy"
          refine no _ (Same.refl H) _ ?_
          have h2 := of_decide_eq_false ((Bool.not_eq_true' _).mp h2)
          rw [decide_eq_false (show ¬ ((ds.length : Int) ≤ most) by omega), Bool.and_false, Bool.false_and]
        · have h2 := of_decide_eq_true ((Bool.not_eq_false' _).mp h2)
          have hlen : ds.length ≤ 100 := by omega
          have no : ∀ H', Same H H' → ∀ b, (ds.all (moveB n) && decide (sumP (ds.map chOf) = (1, 1))) = b → Q (.bl b) H' := fun H' s b e => no H' s b (by
            rw [decide_eq_true (show 1 ≤ ds.length by omega), decide_eq_true (show (ds.length : Int) ≤ most by omega), Bool.true_and, Bool.true_and]
            exact e)
          walk_at "yy"
          refine ⟨a, rfl, ⟨xs, sqt ea⟩, fun D nD => lc_it (walk_tup (K := K) (a := a) (xs := xs)) (fun j G => G D = some (.lst (((ds.take j).map (moveB n)).map V.bl)) ∧ Same H G) ⟨upd_same, same_new nD⟩ (fun _ _ _ h => sqt (h.2 _ _ ea)) ?_ ?_⟩
          · rintro j x G G2 hj ⟨eD, s1⟩ ⟨rfl, hx⟩
            obtain ⟨dd, ed, hd⟩ := hl.at hx
            walk_at "yy"
            refine ⟨rfl, ?_⟩
            walk_at "yy"
            walk_at "yt"
            walk_at "yy"
            refine ⟨x, dd, n, rfl, hd.same s1, ?_⟩
            refine ⟨_, eD, sz_lt (by rw [List.length_map, List.length_map, List.length_take]; omega), ?_, same_mut s1 nD⟩
            rw [upd_same, List.take_add_one, ed, List.map_append, List.map_append]
            rfl
          · rintro G ⟨eD, s1⟩
            rw [hn, List.take_length] at eD
            walk_at "yy"
            refine ⟨D, _, rfl, sql eD, ?_⟩
            have al : ((ds.map (moveB n)).all id) = ds.all (moveB n) := by rw [List.all_map]; rfl
            rw [al]
            walk_at "yy"
            cases ha : ds.all (moveB n) with
            | false =>
              refine y_f rfl ?_
              exact no G s1 _ (by rw [ha, Bool.false_and])
            | true =>
              rw [List.all_eq_true] at ha
              have no : ∀ H', Same H H' → ∀ b, decide (sumP (ds.map chOf) = (1, 1)) = b → Q (.bl b) H' := fun H' s b e => no H' s b (by rw [show ds.all (moveB n) = true from List.all_eq_true.mpr ha, Bool.true_and]; exact e)
              refine y_t rfl ?_
              walk_at "yy"
              refine ⟨a, rfl, ⟨xs, sqt (s1 _ _ ea)⟩, fun D2 nD2 => lc_it (walk_tup (K := K) (a := a) (xs := xs)) (fun j G2 => ∃ ys, G2 D2 = some (.lst ys) ∧ DaL (sans G2 D2) ys (((ds.take j).map chOf).map frD) ∧ Same G G2) ⟨_, upd_same, .nil, same_new nD2⟩ (fun _ _ _ h => by obtain ⟨_, _, _, s⟩ := h; exact sqt (s _ _ (s1 _ _ ea))) ?_ ?_⟩
              · rintro j x G2 G3 hj ⟨ys, eD2, hy, s2⟩ ⟨rfl, hx⟩
                obtain ⟨dd, ed, hd⟩ := hl.at hx
                obtain ⟨t, g, u, w, rfl, _⟩ := moveB_inv (ha dd (List.mem_of_getElem? ed))
                have hd := (hd.same s1).same (same_sans s2 nD2)
                cases hd with
                | @tup m _ _ em hm =>
                cases hm with
                | @cons x1 _ _ _ z1 hm =>
                cases hm with
                | @cons x2 _ _ _ z2 hm =>
                cases hm with
                | @cons x3 _ _ _ z3 hm =>
                cases hm
                walk_at "yy"
                refine ⟨rfl, ?_⟩
                walk_at "yy"
                walk_at "yt"
                walk_at "yy"
                refine y_ixT (sqt (sans_sub _ _ em)) (v := x3) rfl ?_
                refine ⟨ys, eD2, sz_lt (by rw [hy.len, List.length_map, List.length_map, List.length_take]; omega), ys ++ [x3], upd_same, ?_, same_mut s2 nD2⟩
                rw [List.take_add_one, ed, List.map_append, List.map_append]
                refine DaL.app ?_ (.cons ?_ .nil)
                · rw [sans_upd]; exact hy
                · rw [sans_upd]; exact z3
              · rintro G2 ⟨ys, eD2, hy, s2⟩
                rw [hn, List.take_length] at hy
                walk_at "yy"
                refine ⟨D2, ys, ds.map chOf, rfl, sql eD2, hy.same sans_sub, ?_, by rw [List.length_map]; exact hlen, fun z H3 nz ez s3 => ?_⟩
                · intro p hp
                  obtain ⟨dd, md, rfl⟩ := List.mem_map.mp hp
                  exact sm dd md (ha dd md)
                · walk_at "yy"
                  refine ⟨by show 2 ≤ sizeLine; decide, fun o no1 => ?_⟩
                  have dz : Dp K (upd H3 o (.tup [.int 1, .int 1])) (.ref z) (frD (sumP (ds.map chOf))) := .tup (sqt (by rw [upd_ne (ne_of_none ez no1)]; exact ez)) (.cons (.int _) (.cons (.int _) .nil))
                  have do1 : Dp K (upd H3 o (.tup [.int 1, .int 1])) (.ref o) (.tuple [.int 1, .int 1]) := .tup (sqt upd_same) (.cons (.int _) (.cons (.int _) .nil))
                  refine ⟨_, _, dz, do1, rfl, rfl, ?_⟩
                  refine no _ (((s1.trans s2).trans s3).trans (same_new no1)) _ ?_
                  exact (eqv_pair (q := (1, 1))).symm
theorem sc_do_ascend : FnScope ["moves", "one", "other"] ["moves"] (defScope s_do_ascend) := ⟨rfl, rfl, rfl, by decide +kernel, rfl, by decide +kernel, by decide +kernel⟩
-- 0 moves, 1 one, 2 other
theorem ok_do_ascend {f : Addr} {fd : FuncData} (F : FunD K "_do_ascend" "_do_ascend" (defArgs s_do_ascend) (defBody s_do_ascend) (defScope s_do_ascend) [] [] f fd) (B : Blt mg) (Z : Con mg) (GL : GcdF mg) {CG : Addr} (IG : IFC K mg "InvalidGame" CG) : FnOk P w K mg base CX0 1 f fd ["moves"] spAsc := by
  refine F.ok sc_do_ascend (fun vs H Q E h => ?_) (fun cdv A outer s H vs Q E hr h => ?_)
  · obtain ⟨v, ms, n, rfl, _⟩ := h
    rfl
  · obtain ⟨v, ms, n, rfl, h, hv, h1, h2, k⟩ := h
    refine ⟨_, PSs.nox (pss_one (ps_ret (pe_callB (c_all (K := K) rfl) (by rfl) B.n_all (by decide +kernel) (pa_cons (pe_lc (own := [("one", 1), ("other", 2)]) (tt := tYes) rfl sc_do_ascend.nd (w_zipA (K := K) (by rfl) B.n_zip (pa_cons (pv 0) (pa_cons (pe_slice (s_tup (K := K)) (pv 0) (po_some pe_int) po_none) pa_nil))) (blkOk_by (own := [("one", 1), ("other", 2)]) (N := ["moves", "one", "other"]) (sc := defScope s_do_ascend) (by decide +kernel)) (fun _ _ _ _ _ => (g_tup (K := K) (n := 2) (by rfl) (pgs_cons (pg_name (i := 1) sc_do_ascend.nd rfl (Or.inl rfl)) (pgs_cons (pg_name (i := 2) sc_do_ascend.nd rfl (Or.inl rfl)) pgs_nil)))) (fun _ _ _ _ _ => pts_nil) (fun _ _ _ _ _ => (pe_cmpR (o_ltT (K := K) hr.units0) (pe_slice (s_tup (K := K)) (pv 1) po_none (po_some pe_int)) (pe_slice (s_tup (K := K)) (pv 2) po_none (po_some pe_int)) (nomark _)))) pa_nil)))), ?_⟩
    obtain ⟨a, xs, ds, rfl, e0, ea, hl⟩ := h.tupI rfl
    cases e0
    have hn := hl.len
    walk_at "yy"
    refine ⟨1, rfl, ?_⟩
    walk_at "yy"
    refine ⟨a, xs, rfl, sqt ea, ?_, fun b nb => ?_⟩
    · rintro ⟨z1, _⟩
      have : HT.sIx xs.length 0 (some 1) = min 1 xs.length := HT.sIx_nat xs.length 0 1
      omega
    have ecut : cutV xs (some 1) none = xs.drop 1 := by
      unfold cutV
      rw [show HT.sIx xs.length 0 (some 1) = min 1 xs.length from HT.sIx_nat xs.length 0 1, HT.sIx_none, Nat.min_eq_left (by omega), List.take_of_length_le (by rw [List.length_drop]; exact Nat.le_refl _)]
    rw [ecut]
    have eb : (upd H b (.tup (xs.drop 1))) b = some (.tup (xs.drop 1)) := upd_same
    have s0 : Same H (upd H b (.tup (xs.drop 1))) := same_new nb
    generalize upd H b (.tup (xs.drop 1)) = H1 at eb s0 ⊢
    refine ⟨a, b, xs, xs.drop 1, rfl, .inr ⟨sqt (s0 _ _ ea), sqt eb, fun D nD => lc_it (RZ_walk (K := K) (a := a) (b := b) (xs := xs) (ys := xs.drop 1) rfl) (fun j G => G D = some (.lst (((ascL ms).take j).map V.bl)) ∧ Same H1 G) ⟨upd_same, same_new nD⟩ (fun _ _ _ hh => ⟨sqt (hh.2 _ _ (s0 _ _ ea)), sqt (hh.2 _ _ eb)⟩) ?_ ?_⟩⟩
    · rintro j x G G2 hj ⟨eD, s1⟩ ⟨T, x1, x2, rfl, nT, rfl, hx1, hx2⟩
      obtain ⟨d1, ed1, hd1⟩ := hl.at hx1
      have hx2 : (xs.drop 1)[j]? = some x2 := hx2
      rw [List.getElem?_drop] at hx2
      obtain ⟨d2, ed2, hd2⟩ := hl.at hx2
      have hj2 : (ascL ms)[j]? = some (HT.lexLt (keyOf d1) (keyOf d2)) := by
        unfold ascL
        rw [List.getElem?_map, show (ms.zip (ms.drop 1))[j]? = some (d1, d2) from by
          rw [List.getElem?_zip_eq_some, List.getElem?_drop]
          exact ⟨ed1, ed2⟩]
        rfl
      obtain ⟨a1, _, _, z1, t1, g1, rfl, f1, k1⟩ := key_of (hv d1 (List.mem_of_getElem? ed1)) hd1
      obtain ⟨a2, _, _, z2, t2, g2, rfl, f2, k2⟩ := key_of (hv d2 (List.mem_of_getElem? ed2)) hd2
      have s2 : Same G (upd G T (.tup [.ref a1, .ref a2])) := same_new nT
      have eT : (upd G T (.tup [.ref a1, .ref a2])) T = some (.tup [.ref a1, .ref a2]) := upd_same
      have f1 := s2 _ _ (s1 _ _ (s0 _ _ f1))
      have f2 := s2 _ _ (s1 _ _ (s0 _ _ f2))
      have eD := s2 _ _ eD
      have s1 := s1.trans s2
      generalize upd G T (.tup [.ref a1, .ref a2]) = G1 at eT f1 f2 eD s1 ⊢
      refine y_gtup rfl (sqt eT) rfl ?_
      walk_at "yy"
      refine ⟨rfl, ?_⟩
      walk_at "yy"
      walk_at "yt"
      walk_at "yy"
      refine ⟨2, rfl, a1, _, rfl, sqt f1, cut2, fun p1 np1 => ?_⟩
      have ep1 : (upd G1 p1 (.tup (cutV [.int t1, .int g1, z1] none (some 2)))) p1 = some (.tup [.int t1, .int g1]) := upd_same
      have sp1 := same_new (o := .tup (cutV [.int t1, .int g1, z1] none (some 2))) np1
      generalize upd G1 p1 (.tup (cutV [.int t1, .int g1, z1] none (some 2))) = G3 at ep1 sp1 ⊢
      walk_at "yy"
      refine ⟨2, rfl, a2, _, rfl, sqt (sp1 _ _ f2), cut2, fun p2 np2 => ?_⟩
      have ep2 : (upd G3 p2 (.tup (cutV [.int t2, .int g2, z2] none (some 2)))) p2 = some (.tup [.int t2, .int g2]) := upd_same
      have sp2 := same_new (o := .tup (cutV [.int t2, .int g2, z2] none (some 2))) np2
      generalize upd G3 p2 (.tup (cutV [.int t2, .int g2, z2] none (some 2))) = G4 at ep2 sp2 ⊢
      refine ⟨p1, p2, [t1, g1], [t2, g2], rfl, rfl, sqt (sp2 _ _ ep1), sqt ep2, ?_⟩
      refine ⟨_, sp2 _ _ (sp1 _ _ eD), sz_lt (by rw [List.length_map, List.length_take]; have := List.length_drop (i := 1) (l := xs); omega), ?_, same_mut ((s1.trans sp1).trans sp2) nD⟩
      rw [upd_same, List.take_add_one, hj2, List.map_append, k1, k2]
      rfl
    · rintro G ⟨eD, s1⟩
      have el : (ascL ms).length = min xs.length (xs.drop 1).length := by
        unfold ascL
        rw [List.length_map, List.length_zip, List.length_drop, List.length_drop, hn]
      rw [← el, List.take_length] at eD
      walk_at "yy"
      refine ⟨D, _, rfl, sql eD, ?_⟩
      rw [ascL_all]
      exact k _ (s0.trans s1)
theorem sc_are_moves_of_game : FnScope ["value", "size"] ["value", "size"] (defScope s_are_moves_of_game) := ⟨rfl, rfl, rfl, by decide +kernel, rfl, by decide +kernel, by decide +kernel⟩
-- 0 value, 1 size
theorem ok_are_moves_of_game {f : Addr} {fd : FuncData} (F : FunD K "are_moves_of_game" "are_moves_of_game" (defArgs s_are_moves_of_game) (defBody s_are_moves_of_game) (defScope s_are_moves_of_game) [] [] f fd) (B : Blt mg) (Z : Con mg) (GL : GcdF mg) {CG : Addr} (IG : IFC K mg "InvalidGame" CG) (C_are_moves : Cal P w K mg base 4 "_are_moves" ["value", "most", "size"] spMoves) (C_do_ascend : Cal P w K mg base 1 "_do_ascend" ["moves"] spAsc) : FnOk P w K mg base CX0 5 f fd ["value", "size"] spMovesG := by
  refine F.ok sc_are_moves_of_game (fun vs H Q E h => ?_) (fun cdv A outer s H vs Q E hr h => ?_)
  · obtain ⟨v, d, n, rfl, _⟩ := h
    rfl
  · obtain ⟨v, d, n, rfl, h, sm, k⟩ := h
    refine ⟨_, PSs.nox (pss_one (ps_ret (pe_and (pe_fn C_are_moves (hr.mono (by decide)) (by rfl) (pa_cons (pv 0) (pa_cons (pe_globI (by rfl) Z.g_MAX_MOVES) (pa_cons (pv 1) pa_nil)))) (pe_one (pe_fn C_do_ascend (hr.mono (by decide)) (by rfl) (pa_cons (pv 0) pa_nil)))))), ?_⟩
    walk_at "yy"
    refine ⟨v, d, 12, n, rfl, h, sm, by decide, fun G3 s3 => ?_⟩
    walk_at "yy"
    cases b1 : movesB 12 n d with
    | false =>
      rw [b1] at k
      refine y_f rfl ?_
      exact k _ s3
    | true =>
      rw [b1] at k
      refine y_t rfl ?_
      walk_at "yy"
      obtain ⟨ms, rfl, hm1, hm2, hm3⟩ := movesB_inv b1
      exact ⟨v, ms, _, rfl, h.same s3, hm3, hm1, by omega, fun G4 s4 => k _ (s3.trans s4)⟩
theorem sc_is_game : FnScope ["value", "moves"] ["value"] (defScope s_is_game) := ⟨rfl, rfl, rfl, by decide +kernel, rfl, by decide +kernel, by decide +kernel⟩
-- 0 value, 1 moves
theorem ok_is_game {f : Addr} {fd : FuncData} (F : FunD K "is_game" "is_game" (defArgs s_is_game) (defBody s_is_game) (defScope s_is_game) [] [] f fd) (B : Blt mg) (Z : Con mg) (GL : GcdF mg) {CG : Addr} (IG : IFC K mg "InvalidGame" CG) (C_are_moves_of_game : Cal P w K mg base 5 "are_moves_of_game" ["value", "size"] spMovesG) : FnOk P w K mg base CX0 6 f fd ["value"] spGame := by
  refine F.ok sc_is_game (fun vs H Q E h => ?_) (fun cdv A outer s H vs Q E hr h => ?_)
  · obtain ⟨v, d, rfl, _⟩ := h
    rfl
  · obtain ⟨v, d, rfl, h, sm, k⟩ := h
    refine ⟨_, PSs.nox (pss_cons (ps_if (PW.pt (pw_or (pt_not (pt_val (pe_callB (c_isiM (K := K)) (by rfl) B.n_isinstance (by decide +kernel) (pa_cons (pv 0) (pa_cons (pe_bltn (v := .ty "tuple") (by rfl) B.n_tuple (by decide +kernel) rfl) pa_nil))))) (pw_or1 (pt_not (pt_chain op_le op_le pe_int (pe_callB (c_lenQ (K := K)) (by rfl) B.n_len (by decide +kernel) (pa_cons (pv 0) pa_nil)) (pe_globI (by rfl) Z.g_MAX_STANDINGS)))))) (pss_one (ps_ret pe_bl)) pss_nil) (pss_one (ps_ret (pe_callB (c_all (K := K) rfl) (by rfl) B.n_all (by decide +kernel) (pa_cons (pe_lc (own := [("moves", 1)]) (g := gName 1) (tt := tYes) rfl sc_is_game.nd (w_tup (K := K) (pv 0)) (blkOk_by (own := [("moves", 1)]) (N := ["value", "moves"]) (sc := defScope s_is_game) (by decide +kernel)) (fun _ _ _ _ _ => pg_name (i := 1) sc_is_game.nd rfl (Or.inl rfl)) (fun _ _ _ _ _ => pts_nil) (fun _ _ _ _ _ => (pe_fn C_are_moves_of_game (hr.mono (by decide)) (by rfl) (pa_cons (pv 1) (pa_cons (pe_callB (c_lenQ (K := K)) (by rfl) B.n_len (by decide +kernel) (pa_cons (pv 0) pa_nil)) pa_nil))))) pa_nil))))), ?_⟩
    walk_at "yy"
    refine y_isTup h ?_
    walk_at "yy"
    cases ht : tupB d with
    | false =>
      refine y_t rfl ?_
      walk_at "yy"
      have e : gameB d = false := by cases d <;> first | rfl | cases ht
      rw [← e]
      exact k _ (Same.refl H)
    | true =>
      obtain ⟨a, xs, ds, rfl, rfl, ea, hl⟩ := h.tupI ht
      refine y_f rfl ?_
      walk_at "yy"
      refine y_lenT (sqt ea) ?_
      walk_at "yy"
      have hn := hl.len
      have no : ∀ H', Same H H' → ∀ b, ((decide (1 ≤ ds.length) && decide (ds.length ≤ 8)) && ds.all fun ms => movesB 12 ds.length ms && ascD ms) = b → Q (.bl b) H' := fun H' s b e => by
        rw [← e]
        exact k H' s
      refine y_ite (fun h1 => ?_) (fun h1 => ?_)
      case refine_2 =>
        walk_at "yy"
        refine y_t rfl ?_
        walk_at "yy"
        refine no _ (Same.refl H) _ ?_
        have h1 := of_decide_eq_false h1
        rw [decide_eq_false (by omega), Bool.false_and, Bool.false_and]
      · walk_at "yy"
        have h1 := of_decide_eq_true h1
        refine y_ite (fun h2 => ?_) (fun h2 => ?_)
        · walk_at "yy"
          refine no _ (Same.refl H) _ ?_
          have h2 := of_decide_eq_false ((Bool.not_eq_true' _).mp h2)
          rw [decide_eq_false (show ¬ (ds.length ≤ 8) by omega), Bool.and_false, Bool.false_and]
        · have h2 := of_decide_eq_true ((Bool.not_eq_false' _).mp h2)
          have no : ∀ H', Same H H' → ∀ b, (ds.all fun ms => movesB 12 ds.length ms && ascD ms) = b → Q (.bl b) H' := fun H' s b e => no H' s b (by
            rw [decide_eq_true (show 1 ≤ ds.length by omega), decide_eq_true (show ds.length ≤ 8 by omega), Bool.true_and, Bool.true_and]
            exact e)
          walk_at "yy"
          refine ⟨a, rfl, ⟨xs, sqt ea⟩, fun D nD => lc_it (walk_tup (K := K) (a := a) (xs := xs)) (fun j G => G D = some (.lst (((ds.take j).map fun ms => movesB 12 ds.length ms && ascD ms).map V.bl)) ∧ Same H G) ⟨upd_same, same_new nD⟩ (fun _ _ _ h => sqt (h.2 _ _ ea)) ?_ ?_⟩
          · rintro j x G0 G hj ⟨eD, s1⟩ ⟨rfl, hx⟩
            obtain ⟨dd, ed, hd⟩ := hl.at hx
            have hd := hd.same s1
            have smd : mvsm ds.length dd := sm dd (List.mem_of_getElem? ed)
            have fin : ∀ (b : Bool) (G3 : Hp), Same G G3 → (movesB 12 ds.length dd && ascD dd) = b → ∃ acc, G3 D = some (.lst acc) ∧ acc.length < sizeLine ∧ (upd G3 D (.lst (acc ++ [V.bl b]))) D = some (.lst (((ds.take (j + 1)).map fun ms => movesB 12 ds.length ms && ascD ms).map V.bl)) ∧ Same H (upd G3 D (.lst (acc ++ [V.bl b]))) := fun b G3 s3 e =>
              ⟨_, s3 _ _ eD, sz_lt (by rw [List.length_map, List.length_map, List.length_take]; omega), by rw [upd_same, List.take_add_one, ed, List.map_append, List.map_append, ← e]; rfl, same_mut (s1.trans s3) nD⟩
            walk_at "yy"
            refine ⟨rfl, ?_⟩
            walk_at "yy"
            walk_at "yt"
            walk_at "yy"
            refine y_lenT (sqt (s1 _ _ ea)) ?_
            refine ⟨x, dd, (xs.length : Nat), rfl, hd, by rw [hn]; exact smd, fun G3 s3 => ?_⟩
            rw [hn]
            exact fin _ G3 s3 rfl
          · rintro G ⟨eD, s1⟩
            rw [hn, List.take_length] at eD
            walk_at "yy"
            refine ⟨D, _, rfl, sql eD, ?_⟩
            refine no G s1 _ ?_
            rw [List.all_map]
            rfl
theorem sc_chances_of : FnScope ["moves", "chances", "to", "gain", "chance"] ["moves"] (defScope s_chances_of) := ⟨rfl, rfl, rfl, by decide +kernel, rfl, by decide +kernel, by decide +kernel⟩
-- 0 moves, 1 chances, 2 to, 3 gain, 4 chance
theorem ok_chances_of {f : Addr} {fd : FuncData} (F : FunD K "_chances_of" "_chances_of" (defArgs s_chances_of) (defBody s_chances_of) (defScope s_chances_of) [] [] f fd) (B : Blt mg) (Z : Con mg) (GL : GcdF mg) {CG : Addr} (IG : IFC K mg "InvalidGame" CG) : FnOk P w K mg base CX0 1 f fd ["moves"] spChancesOf := by
  refine F.ok sc_chances_of (fun vs H Q E h => ?_) (fun cdv A outer s H vs Q E hr h => ?_)
  · obtain ⟨v, ms, rfl, _⟩ := h
    rfl
  · obtain ⟨v, ms, rfl, h, hl, k⟩ := h
    refine ⟨_, PSs.nox (pss_cons (ps_set (i := 1) sc_chances_of.nd rfl (Or.inl rfl) pe_dnewT) (pss_cons (ps_for PassesOwn.never rfl (w_tup (K := K) (pv 0)) (g_tup (K := K) (n := 3) (by rfl) (pgs_cons (pg_name (i := 2) sc_chances_of.nd rfl (Or.inl rfl)) (pgs_cons (pg_name (i := 3) sc_chances_of.nd rfl (Or.inl rfl)) (pgs_cons (pg_name (i := 4) sc_chances_of.nd rfl (Or.inl rfl)) pgs_nil)))) (pss_one (ps_expr (e_bm (K := K) PySem.F.plainAttrs_list PySem.F.slot_list_append PySem.F.type_list_append mt_append (pe_dsetdT (hu1 hr.units) (pv 1) (pe_tup (pa_cons (pv 2) (pa_cons (pv 3) pa_nil))) (pe_lst pa_nil) ⟨rfl, rfl, rfl, rfl⟩) (pa_cons (pv 4) pa_nil))))) (pss_one (ps_ret (pv 1))))), ?_⟩
    unfold msD at h
    cases h with
    | @tup a xs _ ea hx =>
    have ea := tu_sub _ _ ea
    have hx := hx.pr'
    refine y_seq (y_asg ?_)
    intro p np
    have e0 : (upd H p (.dT [])) p = some (.dT []) := upd_same
    have s0 : Same H (upd H p (.dT [])) := same_new np
    generalize upd H p (.dT []) = H1 at e0 s0 ⊢
    refine y_name ?_
    refine y_seq ?_
    refine y_for (y_iTup (y_var rfl ⟨a, rfl, ⟨xs, sqt (s0 _ _ ea)⟩, ?_⟩))
    refine y_forW (b := fun _ _ => False) (c := fun _ _ => False) (walk_tup (K := K) (a := a) (xs := xs)) (fun i σ H2 => ∃ u1 u2 u3 kvs, σ = [some (.ref a), some (.ref p), u1, u2, u3] ∧ H2 p = some (.dT kvs) ∧ Paired (GEnt H2) kvs (grp (ms.take i)) ∧ (kvs.map (·.2)).Nodup ∧ (∀ kv ∈ kvs, ∀ b, kv.2 = .ref b → H b = none) ∧ kvs.length ≤ i ∧ Same H H2) ⟨_, _, _, [], rfl, e0, .nil, .nil, fun _ h => (nomatch h), Nat.le_refl _, s0⟩ (fun i σ H2 _ h => by obtain ⟨_, _, _, _, _, _, _, _, _, _, s⟩ := h; exact sqt (s _ _ ea)) ?_ ?_
    · rintro i x σ H2 H3 hi ⟨u1, u2, u3, kvs, rfl, ep, pr, nd, fre, ln, s⟩ ⟨rfl, ex⟩
      obtain ⟨m, em, hm⟩ := pr_at hx ex
      have hi2 : i < ms.length := (List.getElem?_eq_some_iff.mp em).1
      have hm := hm.same (tu_same s)
      cases hm with
      | @tup am _ _ eam r =>
      cases r with
      | cons r1 r =>
      cases r with
      | cons r2 r =>
      cases r with
      | @cons c _ _ _ hc r =>
      cases r
      cases r1
      cases r2
      refine y_gtup rfl (sqt (tu_sub _ _ eam)) rfl ?_
      refine y_gcons (y_name (y_gcons (y_name (y_gcons (y_name (y_gnil ?_))))))
      refine y_drop (y_bm ?_)
      refine y_var rfl ⟨p, rfl, .inr ⟨kvs, .inl ep⟩, ?_⟩
      refine y_tup (y_cons (y_var rfl (y_cons (y_var rfl (y_nil ⟨by show 2 ≤ sizeLine; decide, fun b nb => ?_⟩)))))
      refine y_lst (y_nil ⟨by show 0 ≤ sizeLine; decide, fun q nq => ?_⟩)
      have s4 : Same H3 (upd H3 b (.tup [.int m.1.1, .int m.1.2])) := same_new nb
      have s5 := s4.trans (same_new (o := .lst []) nq)
      have eb : (upd (upd H3 b (.tup [.int m.1.1, .int m.1.2])) q (.lst [])) b = some (.tup ((keyK m.1).map kV)) := same_new nq _ _ upd_same
      have eq : (upd (upd H3 b (.tup [.int m.1.1, .int m.1.2])) q (.lst [])) q = some (.lst []) := upd_same
      have nq3 : H3 q = none := by
        cases z : H3 q with
        | none => rfl
        | some o => rw [s4 _ _ z] at nq; cases nq
      generalize upd (upd H3 b (.tup [.int m.1.1, .int m.1.2])) q (.lst []) = H5 at s5 eb eq ⊢
      refine ⟨kvs, keyK m.1, b, s5 _ _ ep, rfl, eb, sz_lt (by omega), fun v hv => ?_, fun hv => ?_⟩
      · obtain ⟨a', ys, rfl, ea', up⟩ := grp_get pr nd hv
        have na' : p ≠ a' := fun z => by rw [← z, ep] at ea'; cases ea'
        have hys : ys.length < sizeLine := by
          obtain ⟨kv, mk, ek⟩ := val_mem hv
          obtain ⟨g, mg, _, a2, xs2, e2, e3, pg⟩ := pr_mem pr mk
          rw [ek] at e2
          cases e2
          rw [ea'] at e3
          cases e3
          have := grp_len mg
          rw [List.length_take] at this
          have := pg.length
          exact sz_lt (by omega)
        refine ⟨ty_l (s5 _ _ ea'), ?_⟩
        refine y_cons (y_var rfl (y_nil ⟨a', ys, c, rfl, rfl, s5 _ _ ea', hys, ?_⟩))
        have st := (tu_same s5).trans (tu_mut (o := .lst (ys ++ [c])) (s5 _ _ ea'))
        refine ⟨_, _, _, kvs, rfl, by rw [upd_ne na']; exact s5 _ _ ep, ?_, nd, fre, by omega, ?_⟩
        · rw [grp_snoc em]
          exact up _ c m.2 st (fun b2 ys2 nb2 eb2 => by rw [upd_ne nb2]; exact s5 _ _ eb2) upd_same (hc.same st)
        · obtain ⟨kv, mk, ek⟩ := val_mem hv
          exact same_mut (s.trans s5) (fre kv mk a' ek)
      · have npq : p ≠ q := fun z => by rw [← z, ep] at nq3; cases nq3
        rw [putK_new _ hv]
        have eq6 : (upd H5 p (.dT (kvs ++ [(keyK m.1, V.ref q)]))) q = some (.lst []) := by rw [upd_ne npq.symm]; exact eq
        have ep6 : (upd H5 p (.dT (kvs ++ [(keyK m.1, V.ref q)]))) p = some (.dT (kvs ++ [(keyK m.1, V.ref q)])) := upd_same
        have st : Same (tu H3) (tu (upd H5 p (.dT (kvs ++ [(keyK m.1, V.ref q)])))) := (tu_same s5).trans (tu_mut' fun xs z => by rw [s5 _ _ ep] at z; cases z)
        have s6 : Same H (upd H5 p (.dT (kvs ++ [(keyK m.1, V.ref q)]))) := same_mut (s.trans s5) np
        have k6 : ∀ b2 o, b2 ≠ p → H3 b2 = some o → (upd H5 p (.dT (kvs ++ [(keyK m.1, V.ref q)]))) b2 = some o := fun b2 o n e => by rw [upd_ne n]; exact s5 _ _ e
        generalize upd H5 p (.dT (kvs ++ [(keyK m.1, V.ref q)])) = H6 at eq6 ep6 st s6 k6 ⊢
        refine ⟨ty_l eq6, ?_⟩
        refine y_cons (y_var rfl (y_nil ⟨q, [], c, rfl, rfl, eq6, by show 0 < sizeLine; decide, ?_⟩))
        have st2 := st.trans (tu_mut (o := .lst ([] ++ [c])) eq6)
        have Hq : H q = none := by
          cases z : H q with
          | none => rfl
          | some o => rw [s _ _ z] at nq3; cases nq3
        refine ⟨_, _, _, kvs ++ [(keyK m.1, V.ref q)], rfl, by rw [upd_ne npq]; exact ep6, ?_, ?_, ?_, ?_, same_mut s6 Hq⟩
        · rw [grp_snoc em, show addG (grp (ms.take i)) m = _ from grp_new (c := m.2) pr hv]
          refine Paired.snoc (pr.mono fun kv g hg => hg.keep st2 fun b2 ys2 _ eb2 => ?_) ⟨rfl, q, _, rfl, upd_same, .cons (hc.same st2) .nil⟩
          have n1 : b2 ≠ q := fun z => by rw [z, nq3] at eb2; cases eb2
          rw [upd_ne n1]
          exact k6 _ _ (fun z => by rw [z, ep] at eb2; cases eb2) eb2
        · rw [List.map_append]
          refine List.nodup_append.mpr ⟨nd, by simp, fun x mx y my z => ?_⟩
          rw [List.mem_singleton.mp my] at z
          obtain ⟨kv, mk, rfl⟩ := List.mem_map.mp mx
          obtain ⟨g, _, _, a2, xs2, e2, e3, _⟩ := pr_mem pr mk
          rw [e2] at z
          have z : a2 = q := V.ref.inj z
          rw [z, nq3] at e3
          cases e3
        · intro kv mk b2 eb2
          rcases List.mem_append.mp mk with mk | mk
          · exact fre kv mk b2 eb2
          · rw [List.mem_singleton.mp mk] at eb2
            cases eb2
            exact Hq
        · rw [List.length_append]
          show kvs.length + 1 ≤ i + 1
          omega
    · rintro σ H2 ⟨u1, u2, u3, kvs, rfl, ep, pr, nd, fre, ln, s⟩
      have lx : xs.length = ms.length := hx.length
      rw [lx, List.take_length] at pr
      walk_at "yy"
      exact k p kvs H2 np ep pr s
theorem sc_short : FnScope ["pair"] ["pair"] (defScope s_short) := ⟨rfl, rfl, rfl, by decide +kernel, rfl, by decide +kernel, by decide +kernel⟩
-- 0 pair
theorem ok_short {f : Addr} {fd : FuncData} (F : FunD K "short" "short" (defArgs s_short) (defBody s_short) (defScope s_short) [] [] f fd) (B : Blt mg) (Z : Con mg) (GL : GcdF mg) {CG : Addr} (IG : IFC K mg "InvalidGame" CG) (C_is_integer : Cal P w K mg base 1 "is_integer" ["value"] spIntD) : FnOk P w K mg base CX0 2 f fd ["pair"] spShort := by
  refine F.ok sc_short (fun vs H Q E h => ?_) (fun cdv A outer s H vs Q E hr h => ?_)
  · obtain ⟨a, p, rfl, _⟩ := h
    rfl
  · obtain ⟨a, p, rfl, ha, h1, h2, k⟩ := h
    refine ⟨_, PSs.nox (pss_cons (ps_if (PW.pt (pw_or (pt_not (pt_val (pe_fn C_is_integer (hr.mono (by decide)) (by rfl) (pa_cons (pe_ix (x_tup (K := K)) (pv 0) pe_int (fun _ _ => rfl)) pa_nil)))) (pw_or1 (pt_not (pt_val (pe_fn C_is_integer (hr.mono (by decide)) (by rfl) (pa_cons (pe_ix (x_tup (K := K)) (pv 0) pe_int (fun _ _ => rfl)) pa_nil))))))) (pss_one ps_never) pss_nil) (pss_one (ps_ret (pv 0)))), ?_⟩
    walk_at "yy"
    refine y_ixT (sqt ha) rfl ?_
    walk_at "yy"
    refine ⟨.int p.1, .int p.1, rfl, .int _, ?_⟩
    rw [show intB (.int p.1) = true from h1]
    walk_at "yy"
    walk_at "yf"
    walk_at "yy"
    refine y_ixT (sqt ha) rfl ?_
    walk_at "yy"
    refine ⟨.int p.2, .int p.2, rfl, .int _, ?_⟩
    rw [show intB (.int p.2) = true from h2]
    walk_at "yy"
    walk_at "yf"
    walk_at "yy"
    exact k
theorem sc_moves_with : FnScope ["chances", "to", "gain"] ["chances"] (defScope s_moves_with) := ⟨rfl, rfl, rfl, by decide +kernel, rfl, by decide +kernel, by decide +kernel⟩
-- 0 chances, 1 to, 2 gain
theorem ok_moves_with {f : Addr} {fd : FuncData} (F : FunD K "_moves_with" "_moves_with" (defArgs s_moves_with) (defBody s_moves_with) (defScope s_moves_with) [] [] f fd) (B : Blt mg) (Z : Con mg) (GL : GcdF mg) {CG : Addr} (IG : IFC K mg "InvalidGame" CG) (C_sum_of : Cal P w K mg base 2 "sum_of" ["pairs"] (spSumOf K)) (C_short : Cal P w K mg base 2 "short" ["pair"] spShort) : FnOk P w K mg base CX0 3 f fd ["chances"] spMovesWith := by
  refine F.ok sc_moves_with (fun vs H Q E h => ?_) (fun cdv A outer s H vs Q E hr h => ?_)
  · obtain ⟨p, kvs, gs, rfl, _⟩ := h
    rfl
  · obtain ⟨p, kvs, gs, rfl, ep, pr, nd, sm, l40, ln, k⟩ := h
    refine ⟨_, PSs.nox (pss_one (ps_ret (pe_callTy (c_tupQ (K := K)) (by rfl) B.n_tuple (by decide +kernel) (pa_cons (pe_lc (own := [("to", 1), ("gain", 2)]) (tt := tYes) rfl sc_moves_with.nd (w_list (K := K) (pe_callB (c_sortedDT rfl) (by rfl) B.n_sorted (by decide +kernel) (pa_cons (pv 0) pa_nil))) (blkOk_by (own := [("to", 1), ("gain", 2)]) (N := ["chances", "to", "gain"]) (sc := defScope s_moves_with) (by decide +kernel)) (fun _ _ _ _ _ => (g_tup (K := K) (n := 2) (by rfl) (pgs_cons (pg_name (i := 1) sc_moves_with.nd rfl (Or.inl rfl)) (pgs_cons (pg_name (i := 2) sc_moves_with.nd rfl (Or.inl rfl)) pgs_nil)))) (fun _ _ _ _ _ => pts_nil) (fun _ _ _ _ _ => (pe_tup (pa_cons (pv 1) (pa_cons (pv 2) (pa_cons (pe_fn C_short (hr.mono (by decide)) (by rfl) (pa_cons (pe_fn C_sum_of (hr.mono (by decide)) (by rfl) (pa_cons (pe_dget (hu1 hr.units) (pv 0) (pe_tup (pa_cons (pv 1) (pa_cons (pv 2) pa_nil))) (fun _ _ => rfl)) pa_nil)) pa_nil)) pa_nil)))))) pa_nil)))), ?_⟩
    walk_at "yy"
    refine ⟨p, kvs, rfl, ep, grp_keyd pr, fun qs ys q hq hs pm nq => ?_⟩
    have s1 : Same H (upd H q (.lst ys)) := same_new nq
    have eq : (upd H q (.lst ys)) q = some (.lst ys) := upd_same
    obtain ⟨gs', hy, pg⟩ := pr_perm pm (pr_comp hq pr)
    generalize upd H q (.lst ys) = H1 at s1 eq ⊢
    refine ⟨q, rfl, ⟨ys, sql eq⟩, fun D nD => lc_list (K := K) (a := q) (xs := ys) (fun j G => ∃ acc, G D = some (.lst acc) ∧ Paired (fun v m => Da (tu G) v (mvD m)) acc ((gs'.take j).map mvG) ∧ acc.length = j ∧ Same H1 G) ⟨[], upd_same, .nil, rfl, same_new nD⟩ (fun j G _ h => by obtain ⟨_, _, _, _, s⟩ := h; exact sql (s _ _ eq)) ?_ ?_⟩
    · rintro j x G ej ⟨acc, eD, hp, hl, s⟩
      obtain ⟨g, eg, kv, ⟨qa, i1, i2, rfl, ek, ea⟩, ek2, _⟩ := pr_at hy ej
      have eg1 : (i1, i2) = g.1 := keyK_inj (ek.symm.trans ek2)
      have mg : g ∈ gs := pg.mem_iff.mp (List.mem_of_getElem? eg)
      have hj : j < gs'.length := (List.getElem?_eq_some_iff.mp eg).1
      have hlen : gs'.length = gs.length := pg.length_eq
      obtain ⟨la, lx, hv, ela, pl⟩ := grp_val pr nd g mg
      have s01 := s1.trans s
      refine y_gtup rfl (sqt (s01 _ _ ea)) rfl ?_
      refine y_gcons (y_name (y_gcons (y_name (y_gnil ?_))))
      refine ⟨rfl, ?_⟩
      walk_at "yy"
      walk_at "yt"
      walk_at "yy"
      refine y_var (v := .ref p) rfl ?_
      walk_at "yy"
      refine ⟨by show 2 ≤ sizeLine; decide, fun b nb => ?_⟩
      have s2 : Same G (upd G b (.tup [.int i1, .int i2])) := same_new nb
      have eb : (upd G b (.tup [.int i1, .int i2])) b = some (.tup [.int i1, .int i2]) := upd_same
      generalize upd G b (.tup [.int i1, .int i2]) = G2 at s2 eb ⊢
      have s02 := s01.trans s2
      refine ⟨p, .ref la, rfl, ?_, ?_⟩
      · rw [← hv, ← eg1]
        exact DGet.t (k := keyK (i1, i2)) (s02 _ _ ep) eb
      walk_at "yy"
      refine ⟨la, lx, g.2, rfl, sql (s02 _ _ ela), (DaL.pr (pl.mono fun v c h => h.same ((tu_same s02).trans tu_sub))), fun c mc => (sm g mg c mc).1, Nat.le_trans (l40 g mg) (by decide), fun z G3 nz ez s3 => ?_⟩
      have fi := sum_fine (sm g mg) (l40 g mg) g.2.length (Nat.le_refl _)
      rw [List.take_length] at fi
      walk_at "yy"
      refine ⟨z, sumP g.2, rfl, ez, fi.t, fi.b, ?_⟩
      walk_at "yy"
      refine ⟨by show 3 ≤ sizeLine; decide, fun o no => ?_⟩
      have s4 := s2.trans (s3.trans (same_new (o := .tup [.int i1, .int i2, .ref z]) no))
      have eo : (upd G3 o (.tup [.int i1, .int i2, .ref z])) o = some (.tup [.int i1, .int i2, .ref z]) := upd_same
      have ez4 := same_new (o := .tup [.int i1, .int i2, .ref z]) no _ _ ez
      generalize upd G3 o (.tup [.int i1, .int i2, .ref z]) = G4 at s4 eo ez4 ⊢
      have eD4 := s4 _ _ eD
      have st := tu_mut (o := .lst (acc ++ [.ref o])) eD4
      refine ⟨acc, eD4, sz_lt (by omega), acc ++ [.ref o], upd_same, ?_, by rw [List.length_append, hl]; rfl, same_mut (s.trans s4) nD⟩
      rw [List.take_add_one, eg, List.map_append]
      refine Paired.snoc (hp.mono fun v k h => h.same ((tu_same s4).trans st)) ?_
      have e1 : mvD (mvG g) = .tuple [.int i1, .int i2, frD (sumP g.2)] := by
        show PyData.tuple [.int g.1.1, .int g.1.2, _] = _
        rw [← eg1]
        rfl
      rw [e1]
      exact .tup (st _ _ (tu_at eo)) (.cons (.int _) (.cons (.int _) (.cons (.tup (st _ _ (tu_at ez4)) (.cons (.int _) (.cons (.int _) .nil))) .nil)))
    · rintro G ⟨acc, eD, hp, hl, s⟩
      rw [show ys.length = gs'.length from hy.length, List.take_length] at hp
      have hsr : srtG gs' := pr_pairwise (fun x y g g' hk hl h => by
        obtain ⟨kv, ⟨qa, i1, i2, rfl, ek, ea⟩, ek2, _⟩ := hk
        obtain ⟨kv', ⟨qb, j1, j2, rfl, ek', ea'⟩, ek2', _⟩ := hl
        have h : SrtO.lexB (key3 H (.ref qb)) (key3 H (.ref qa)) = false := h
        rw [key3_at ea, key3_at ea', keyK_inj (a := (i1, i2)) (ek.symm.trans ek2), keyK_inj (a := (j1, j2)) (ek'.symm.trans ek2')] at h
        exact h) hy hs
      walk_at "yy"
      refine ⟨D, acc, rfl, .inl ⟨sql eD, fun o no => ?_⟩⟩
      exact k _ gs' _ pg hsr (.tup (tu_at upd_same) (DaL.pr (hp.mono fun v m h => h.same (tu_new no)))) ((s1.trans s).trans (same_new no))
theorem sc_merged_moves : FnScope ["moves", "chances"] ["moves"] (defScope s_merged_moves) := ⟨rfl, rfl, rfl, by decide +kernel, rfl, by decide +kernel, by decide +kernel⟩
-- 0 moves, 1 chances
theorem ok_merged_moves {f : Addr} {fd : FuncData} (F : FunD K "merged_moves" "merged_moves" (defArgs s_merged_moves) (defBody s_merged_moves) (defScope s_merged_moves) [] [] f fd) (B : Blt mg) (Z : Con mg) (GL : GcdF mg) {CG : Addr} (IG : IFC K mg "InvalidGame" CG) (C_are_moves : Cal P w K mg base 4 "_are_moves" ["value", "most", "size"] spMoves) (C_chances_of : Cal P w K mg base 1 "_chances_of" ["moves"] spChancesOf) (C_moves_with : Cal P w K mg base 3 "_moves_with" ["chances"] spMovesWith) : FnOk P w K mg base (L2.CX P w) 5 f fd ["moves"] (spMerged CG) := by
  refine F.ok sc_merged_moves (fun vs H Q E h => ?_) (fun cdv A outer s H vs Q E hr h => ?_)
  · obtain ⟨v, d, rfl, _⟩ := h
    rfl
  · obtain ⟨v, d, rfl, h, sm, h40, k, k1, k2⟩ := h
    refine ⟨_, (pss_cons (ps_if (pt_not (pt_val (pe_fn C_are_moves (hr.mono (by decide)) (by rfl) (pa_cons (pv 0) (pa_cons (pe_globI (by rfl) Z.g_MAX_MERGED) (pa_cons (pe_globI (by rfl) Z.g_MAX_STANDINGS) pa_nil)))))) (pss_one (ps_raise rfl (takes_of rfl rfl rfl rfl) (pmk_own PySem.F.excBase_ValueError IG.q IG.g IG.kC (raises_own IG.exC IG.tyC) (by rfl)))) pss_nil) (pss_cons (ps_set (i := 1) sc_merged_moves.nd rfl (Or.inl rfl) (pe_fn C_chances_of (hr.mono (by decide)) (by rfl) (pa_cons (pv 0) pa_nil))) (pss_cons (ps_if (pt_cmpR op_gt (pe_callB c_lenDT (by rfl) B.n_len (by decide +kernel) (pa_cons (pv 1) pa_nil)) (pe_globI (by rfl) Z.g_MAX_MOVES) (nomark _)) (pss_one (ps_raise rfl (takes_of rfl rfl rfl rfl) (pmk_own PySem.F.excBase_ValueError IG.q IG.g IG.kC (raises_own IG.exC IG.tyC) (by rfl)))) pss_nil) (pss_one (ps_ret (pe_fn C_moves_with (hr.mono (by decide)) (by rfl) (pa_cons (pv 1) pa_nil))))))), ?_⟩
    walk_at "yy"
    refine ⟨v, d, 100, 8, rfl, h, mvsm_of sm, by decide, fun H1 s1 => ?_⟩
    walk_at "yy"
    cases hb : movesB 100 8 d with
    | false =>
      refine y_t rfl ?_
      exact k1 hb H1 s1
    | true =>
      obtain ⟨ds, rfl, l1, l2, hm⟩ := movesB_inv hb
      obtain ⟨ms, rfl⟩ := mv_of hm
      refine y_f rfl ?_
      have hl : ms.length ≤ 40 := by
        have h40 : (ms.map mvD).length ≤ 40 := h40
        rw [List.length_map] at h40
        exact h40
      have ht : Da (tu H1) v (msD ms) := (h.same s1).tu (Same.refl _) (msD_tup ms)
      have hc : ∀ m ∈ ms, smPair m.2 ∧ Nat.gcd m.2.1.natAbs m.2.2.natAbs = 1 := fun m mm => mv_fine (hm _ (List.mem_map.mpr ⟨m, mm, rfl⟩)) (smDs_mem (show smDs (ms.map mvD) = true from sm) _ (List.mem_map.mpr ⟨m, mm, rfl⟩))
      walk_at "yy"
      refine ⟨v, ms, rfl, ht, by omega, fun p kvs H2 np ep pr s2 => ?_⟩
      walk_at "yy"
      refine ⟨p, kvs, rfl, ep, ?_⟩
      have lk : kvs.length = (grp ms).length := pr.length
      walk_at "yy"
      refine y_ite (fun h12 => ?_) (fun h12 => ?_)
      · have h12 := of_decide_eq_true h12
        exact k2 ms rfl hb (by omega) H2 (s1.trans s2)
      · have h12 := of_decide_eq_false h12
        walk_at "yy"
        refine ⟨p, kvs, grp ms, rfl, ep, pr, grp_nd ms, grp_all hc, fun g mg => Nat.le_trans (grp_len mg) hl, by have := grp_cnt ms; omega, fun v' gs' H3 pg sg dv s3 => ?_⟩
        exact k ms rfl hb (by omega) v' gs' H3 pg sg dv ((s1.trans s2).trans s3)
theorem sc_law_dice : FnScope ["_law_script", "_law_spot", "_law_cell", "_law_great", "_law_blend"] ["_law_script", "_law_spot"] (defScope s_law_dice) := ⟨rfl, rfl, rfl, by decide +kernel, rfl, by decide +kernel, by decide +kernel⟩
-- 0 _law_script, 1 _law_spot, 2 _law_cell, 3 _law_great, 4 _law_blend
theorem ok_law_dice {f : Addr} {fd : FuncData} (F : FunD K "_law_dice" "_law_dice" (defArgs s_law_dice) (defBody s_law_dice) (defScope s_law_dice) [] [] f fd) (B : Blt mg) (Z : Con mg) (GL : GcdF mg) {CG : Addr} (IG : IFC K mg "InvalidGame" CG) : FnOk P w K mg base CX0 1 f fd ["_law_script", "_law_spot"] (spDice K) := by
  refine F.ok sc_law_dice (fun vs H Q E h => ?_) (fun cdv A outer s H vs Q E hr h => ?_)
  · obtain ⟨a, i, ns, rfl, _⟩ := h
    rfl
  · obtain ⟨a, i, ns, rfl, hS, h0, h1, k⟩ := h
    refine ⟨_, PSs.nox (pss_cons (ps_set (i := 2) sc_law_dice.nd rfl (Or.inl rfl) (pe_op op_add (pe_op op_mul pe_int (pv 1)) pe_int)) (pss_cons (ps_if (pt_cmpR op_lt (pv 1) (pe_callB (c_lenQ (K := K)) (by rfl) B.n_len (by decide +kernel) (pa_cons (pv 0) pa_nil)) (nomark _)) (pss_one (ps_set (i := 2) sc_law_dice.nd rfl (Or.inl rfl) (pe_ix (x_list (K := K)) (pv 0) (pv 1) (fun _ _ => rfl)))) pss_nil) (pss_cons (ps_set (i := 3) sc_law_dice.nd rfl (Or.inl rfl) (pe_op op_mod (pe_callTy c_int (by rfl) B.n_int (by decide +kernel) (pa_cons (pe_callB c_abs (by rfl) B.n_abs (by decide +kernel) (pa_cons (pv 2) pa_nil)) pa_nil)) (pe_op op_powW (pe_op op_powW pe_int pe_int) pe_int))) (pss_cons (ps_set (i := 4) sc_law_dice.nd rfl (Or.inl rfl) (pe_op op_add (pe_op op_add (pe_op op_add (pe_op op_mul (pe_op op_mod (pe_callTy c_int (by rfl) B.n_int (by decide +kernel) (pa_cons (pv 3) pa_nil)) pe_int) pe_int) (pe_op op_mul pe_int (pv 1))) (pe_op op_mul pe_int (pe_callTy c_int (by rfl) B.n_int (by decide +kernel) (pa_cons (pe_cmpR op_lt (pv 2) pe_int (nomark _)) pa_nil)))) pe_int)) (pss_one (ps_ret (pe_lst (pa_cons (pe_callB (c_max2 rfl) (by rfl) B.n_max (by decide +kernel) (pa_cons pe_int (pa_cons (pe_op op_sub (pv 3) (pe_op op_powW pe_int pe_int)) pa_nil))) (pa_cons (pe_op op_mod (pe_callTy c_int (by rfl) B.n_int (by decide +kernel) (pa_cons (pv 4) pa_nil)) pe_int) (pa_cons pe_int pa_nil)))))))))), ?_⟩
    walk_at "yy"
    walk_at "yi"
    walk_at "yy"
    refine y_lenL hS ?_
    walk_at "yy"
    -- if spot < len(script): cell = script[spot]; both ways come together
    refine y_join (fun cell : Int => [some (.ref a), some (.int i), some (.int cell), none, none]) (71 * i + 29) rfl (fun cell => ?_) (fun hk J => ?_)
    · walk_at "yy"
      walk_at "yi"
      walk_at "yy"
      walk_at "yi"
      walk_at "yy"
      walk_at "yi"
      walk_at "yy"
      generalize ((cell.natAbs : Int) % _) = great
      walk_at "yy"
      walk_at "yi"
      walk_at "yy"
      walk_at "yi"
      walk_at "yy"
      walk_at "yi"
      walk_at "yy"
      walk_at "yi"
      walk_at "yy"
      generalize (great % 2305843009213693613 * 1000427 + 8111 * i + 59 * _ + 31) = blend
      walk_at "yy"
      walk_at "yi"
      walk_at "yy"
      walk_at "yi"
      walk_at "yy"
      exact ⟨by show 3 ≤ sizeLine; decide, fun p hp => k p _ hp ⟨_, _, _, upd_same⟩ (same_new hp)⟩
    · have hk := of_decide_eq_true hk
      rw [List.length_map] at hk
      have hn : i.toNat < ns.length := by omega
      walk_at "yy"
      refine y_ixL hS (at_nat h0 (v := .int ns[i.toNat]) (by simp [hn])) ?_
      exact J _
theorem sc_law_roll : FnScope ["_law_dice_here", "_law_total", "_law_found", "_law_one", "_law_two"] ["_law_dice_here", "_law_total"] (defScope s_law_roll) := ⟨rfl, rfl, rfl, by decide +kernel, rfl, by decide +kernel, by decide +kernel⟩
-- 0 _law_dice_here, 1 _law_total, 2 _law_found, 3 _law_one, 4 _law_two
theorem ok_law_roll {f : Addr} {fd : FuncData} (F : FunD K "_law_roll" "_law_roll" (defArgs s_law_roll) (defBody s_law_roll) (defScope s_law_roll) [] [] f fd) (B : Blt mg) (Z : Con mg) (GL : GcdF mg) {CG : Addr} (IG : IFC K mg "InvalidGame" CG) : FnOk P w K mg base CX0 1 f fd ["_law_dice_here", "_law_total"] spRoll := by
  refine F.ok sc_law_roll (fun vs H Q E h => ?_) (fun cdv A outer s H vs Q E hr h => ?_)
  · obtain ⟨d, t, rfl, _⟩ := h
    rfl
  · obtain ⟨d, t, rfl, ⟨g, e, c, hd⟩, h0, h1, k⟩ := h
    refine ⟨_, PSs.nox (pss_cons (ps_if (pt_cmpR op_gt (pe_ix (x_list (K := K)) (pv 0) pe_int (fun _ _ => rfl)) pe_int (nomark _)) (pss_cons (ps_set (i := 2) sc_law_roll.nd rfl (Or.inl rfl) (pe_op op_mod (pe_callTy c_int (by rfl) B.n_int (by decide +kernel) (pa_cons (pe_ix (x_list (K := K)) (pv 0) pe_int (fun _ _ => rfl)) pa_nil)) (pv 1))) (pss_cons (ps_asg (pe_op op_fdivW (pe_ix (x_list (K := K)) (pv 0) pe_int (fun _ _ => rfl)) (pv 1)) (pg_sub (pv 0) pe_int set_list)) (pss_one (ps_ret (pv 2))))) pss_nil) (pss_cons (ps_asg (pe_op op_add (pe_ix (x_list (K := K)) (pv 0) pe_int (fun _ _ => rfl)) pe_int) (pg_sub (pv 0) pe_int set_list)) (pss_cons (ps_set (i := 3) sc_law_roll.nd rfl (Or.inl rfl) (pe_op op_mod (pe_callTy c_int (by rfl) B.n_int (by decide +kernel) (pa_cons (pe_op op_add (pe_ix (x_list (K := K)) (pv 0) pe_int (fun _ _ => rfl)) (pe_op op_mul pe_int (pe_ix (x_list (K := K)) (pv 0) pe_int (fun _ _ => rfl)))) pa_nil)) pe_int)) (pss_cons (ps_set (i := 4) sc_law_roll.nd rfl (Or.inl rfl) (pe_op op_add (pe_op op_mul (pe_op op_mod (pe_callTy c_int (by rfl) B.n_int (by decide +kernel) (pa_cons (pe_op op_mul (pv 3) (pv 3)) pa_nil)) pe_int) (pv 3)) (pe_op op_mul pe_int (pe_ix (x_list (K := K)) (pv 0) pe_int (fun _ _ => rfl))))) (pss_cons (ps_set (i := 4) sc_law_roll.nd rfl (Or.inl rfl) (pe_op op_mod (pe_callTy c_int (by rfl) B.n_int (by decide +kernel) (pa_cons (pv 4) pa_nil)) pe_int)) (pss_one (ps_ret (pe_op op_mod (pe_callTy c_int (by rfl) B.n_int (by decide +kernel) (pa_cons (pe_op op_fdivW (pv 4) pe_int) pa_nil)) (pv 1))))))))), ?_⟩
    have hdv : ∀ i : Int, CDivW i t := fun i => big_div h0 h1
    walk_at "yy"
    refine y_ixL (sql hd) rfl ?_
    walk_at "yy"
    refine y_ite (fun hk => ?_) (fun hk => ?_)
    · walk_at "yy"
      refine y_ixL (sql hd) rfl ?_
      walk_at "yy"
      walk_at "yi"
      walk_at "yy"
      refine y_ixL (sql hd) rfl ?_
      walk_at "yy"
      refine y_I (hdv _) ?_
      walk_at "yy"
      refine y_setL hd rfl ?_
      walk_at "yy"
      exact k _ _ (Int.emod_nonneg _ (by omega)) (Int.emod_lt_of_pos _ h0) ⟨_, _, _, upd_same⟩ Fr.self
    · walk_at "yy"
      refine y_ixL (sql hd) rfl ?_
      walk_at "yy"
      refine y_setL hd rfl ?_
      walk_at "yy"
      refine y_ixL (sql upd_same) rfl ?_
      walk_at "yy"
      refine y_ixL (sql upd_same) rfl ?_
      walk_at "yy"
      walk_at "yi"
      walk_at "yy"
      walk_at "yi"
      walk_at "yy"
      generalize e1 : (e + 998244289 * (c + 1)) % 2305843009213693951 = one
      have b0 : 0 ≤ one := by omega
      have b1 : one < 2305843009213693951 := by omega
      clear e1
      walk_at "yy"
      walk_at "yi"
      walk_at "yy"
      walk_at "yi"
      walk_at "yy"
      generalize e2 : one * one % 2305843009213693883 = sq
      have b2 : 0 ≤ sq := by omega
      have b3 : sq < 2305843009213693883 := by omega
      clear e2
      walk_at "yi"
      walk_at "yy"
      refine y_ixL (sql upd_same) rfl ?_
      walk_at "yy"
      walk_at "yi"
      walk_at "yy"
      walk_at "yi"
      walk_at "yy"
      refine y_I (big_div (by decide) (by decide)) ?_
      walk_at "yy"
      refine y_I (show (0 : Int) < t from h0) ?_
      exact k _ _ (Int.emod_nonneg _ (by omega)) (Int.emod_lt_of_pos _ h0) ⟨_, _, _, upd_same⟩ Fr.self
theorem sc_law_pick : FnScope ["_law_dice_here", "_law_items"] ["_law_dice_here", "_law_items"] (defScope s_law_pick) := ⟨rfl, rfl, rfl, by decide +kernel, rfl, by decide +kernel, by decide +kernel⟩
-- 0 _law_dice_here, 1 _law_items
theorem ok_law_pick {f : Addr} {fd : FuncData} (F : FunD K "_law_pick" "_law_pick" (defArgs s_law_pick) (defBody s_law_pick) (defScope s_law_pick) [] [] f fd) (B : Blt mg) (Z : Con mg) (GL : GcdF mg) {CG : Addr} (IG : IFC K mg "InvalidGame" CG) (C_law_roll : Cal P w K mg base 1 "_law_roll" ["_law_dice_here", "_law_total"] spRoll) : FnOk P w K mg base CX0 2 f fd ["_law_dice_here", "_law_items"] (spPick K) := by
  refine F.ok sc_law_pick (fun vs H Q E h => ?_) (fun cdv A outer s H vs Q E hr h => ?_)
  · obtain ⟨d, l, ys, rfl, _⟩ := h
    rfl
  · obtain ⟨d, l, ys, rfl, hD, hl, nl, h0, h1, k⟩ := h
    refine ⟨_, PSs.nox (pss_one (ps_ret (pe_ix (x_list (K := K)) (pv 1) (pe_fn C_law_roll (hr.mono (by decide)) (by rfl) (pa_cons (pv 0) (pa_cons (pe_callB (c_lenQ (K := K)) (by rfl) B.n_len (by decide +kernel) (pa_cons (pv 1) pa_nil)) pa_nil))) (fun _ _ => rfl)))), ?_⟩
    walk_at "yy"
    refine y_lenL hl ?_
    walk_at "yy"
    refine ⟨d, _, rfl, hD, by omega, ?_, fun n H' n0 n1 hD' f => ?_⟩
    · have : (2 : Nat) ^ 4000 > 100000 := by decide +kernel
      omega
    obtain ⟨v, e, m⟩ := getD_at n0 n1
    exact y_ixL (f.lst nl hl) (at_nat n0 e) (k v H' m hD' f)
theorem sc_law_some : FnScope ["_law_dice_here", "_law_items", "_law_size_here", "_law_left", "_law_turn"] ["_law_dice_here", "_law_items", "_law_size_here"] (defScope s_law_some) := ⟨rfl, rfl, rfl, by decide +kernel, rfl, by decide +kernel, by decide +kernel⟩
-- 0 _law_dice_here, 1 _law_items, 2 _law_size_here, 3 _law_left, 4 _law_turn
theorem ok_law_some {f : Addr} {fd : FuncData} (F : FunD K "_law_some" "_law_some" (defArgs s_law_some) (defBody s_law_some) (defScope s_law_some) [] [] f fd) (B : Blt mg) (Z : Con mg) (GL : GcdF mg) {CG : Addr} (IG : IFC K mg "InvalidGame" CG) (C_law_roll : Cal P w K mg base 1 "_law_roll" ["_law_dice_here", "_law_total"] spRoll) : FnOk P w K mg base CX0 2 f fd ["_law_dice_here", "_law_items", "_law_size_here"] (spSomeP K) := by
  refine F.ok sc_law_some (fun vs H Q E h => ?_) (fun cdv A outer s H vs Q E hr h => ?_)
  · obtain ⟨d, l, ys, n, rfl, _⟩ := h
    rfl
  · obtain ⟨d, l, ys, n, rfl, hD, hl, nl, hlen, n0, n1, k⟩ := h
    refine ⟨_, PSs.nox (pss_cons (ps_set (i := 3) sc_law_some.nd rfl (Or.inr rfl) (pe_callTy (c_listQ (K := K)) (by rfl) B.n_list (by decide +kernel) (pa_cons (pv 1) pa_nil))) (pss_one (ps_ret (pe_lc (own := [("_law_turn", 4)]) (g := gName 4) (tt := tYes) rfl sc_law_some.nd (pi_range1 (by rfl) B.n_range (pa_cons (pe_callB (c_min2 rfl) (by rfl) B.n_min (by decide +kernel) (pa_cons (pv 2) (pa_cons (pe_callB (c_lenQ (K := K)) (by rfl) B.n_len (by decide +kernel) (pa_cons (pv 3) pa_nil)) pa_nil))) pa_nil)) (blkOk_by (own := [("_law_turn", 4)]) (N := ["_law_dice_here", "_law_items", "_law_size_here", "_law_left", "_law_turn"]) (sc := defScope s_law_some) (by decide +kernel)) (fun _ _ _ _ _ => pg_name (i := 4) sc_law_some.nd rfl (Or.inl rfl)) (fun _ _ _ _ _ => pts_nil) (fun _ _ _ _ _ => (e_bm (K := K) PySem.F.plainAttrs_list PySem.F.slot_list_pop PySem.F.type_list_pop mt_popAt (pv 3) (pa_cons (pe_fn C_law_roll (hr.mono (by decide)) (by rfl) (pa_cons (pv 0) (pa_cons (pe_callB (c_lenQ (K := K)) (by rfl) B.n_len (by decide +kernel) (pa_cons (pv 3) pa_nil)) pa_nil))) pa_nil))))))), ?_⟩
    walk_at "yy"
    refine y_listL hl (fun L nL => ?_)
    walk_at "yy"
    refine y_lenL (sql upd_same) ?_
    walk_at "yy"
    have nLd : L ≠ d := hD.ne nL
    refine ⟨_, rfl, by omega, by omega, fun D nD => lc_range (fun j H1 => ∃ acc rest, H1 D = some (.lst acc) ∧ H1 L = some (.lst rest) ∧ (acc ++ rest).Perm ys ∧ rest.length + j = ys.length ∧ acc.length = j ∧ DiceAt H1 d ∧ Fr d H H1) ?_ ?_ ?_⟩
    · have nDL : D ≠ L := (ne_of_none upd_same nD).symm
      refine ⟨[], ys, upd_same, by rw [upd_ne nDL.symm, upd_same], List.Perm.refl _, by omega, rfl, (hD.new nL).new nD, (Fr.new nL).trans (Fr.new nD)⟩
    · rintro j H1 hj ⟨acc, rest, eD, eL, hp, hn, hm, hD1, f1⟩
      walk_at "yy"
      refine ⟨rfl, ?_⟩
      walk_at "yy"
      walk_at "yt"
      walk_at "yy"
      refine ⟨ty_l eL, ?_⟩
      walk_at "yy"
      refine y_lenL (sql eL) ?_
      walk_at "yy"
      have nDL : D ≠ L := (ne_of_none upd_same nD).symm
      have nDd : D ≠ d := (hD.new nL).ne nD
      refine ⟨d, _, rfl, hD1, by omega, big_of (by omega), fun n2 H2 m0 m1 hD2 f2 => ?_⟩
      walk_at "yy"
      obtain ⟨v, ev, mv⟩ := getD_at m0 m1
      have hv : n2.toNat < rest.length := by omega
      refine ⟨L, rest, n2, n2.toNat, v, rfl, rfl, f2 _ _ eL nLd, by omega, by omega, ix_seq m0 m1, ev, acc, by rw [upd_ne nDL]; exact f2 _ _ eD nDd, sz_lt (by omega), acc ++ [v], rest.eraseIdx n2.toNat, upd_same, by rw [upd_ne nDL.symm, upd_same], ?_, ?_, ?_, ?_, ?_⟩
      · refine List.Perm.trans ?_ hp
        rw [List.append_assoc]
        refine List.Perm.append_left _ ?_
        exact erase_perm ev
      · rw [List.length_eraseIdx_of_lt hv]
        omega
      · rw [List.length_append, hm]
        rfl
      · exact (hD2.mut nLd).mut nDd
      · have nDH : H D = none := by
          rw [upd_ne nDL] at nD
          exact nD
        exact ((f1.trans f2).mut nL).mut nDH
    · rintro H1 ⟨acc, rest, eD, eL, hp, hn, hm, hD1, f1⟩
      have nDL : D ≠ L := (ne_of_none upd_same nD).symm
      have nDH : H D = none := by
        rw [upd_ne nDL] at nD
        exact nD
      refine k D acc rest H1 hp ?_ hD1 f1 nDH eD
      omega
theorem sc_law_chances : FnScope ["_law_dice_here", "_law_many", "_law_rows"] ["_law_dice_here", "_law_many"] (defScope s_law_chances) := ⟨rfl, rfl, rfl, by decide +kernel, rfl, by decide +kernel, by decide +kernel⟩
-- 0 _law_dice_here, 1 _law_many, 2 _law_rows
theorem ok_law_chances {f : Addr} {fd : FuncData} (F : FunD K "_law_chances" "_law_chances" (defArgs s_law_chances) (defBody s_law_chances) (defScope s_law_chances) [] [] f fd) (B : Blt mg) (Z : Con mg) (GL : GcdF mg) {CG : Addr} (IG : IFC K mg "InvalidGame" CG) (C_law_pick : Cal P w K mg base 2 "_law_pick" ["_law_dice_here", "_law_items"] (spPick K)) : FnOk P w K mg base CX0 3 f fd ["_law_dice_here", "_law_many"] spChances := by
  refine F.ok sc_law_chances (fun vs H Q E h => ?_) (fun cdv A outer s H vs Q E hr h => ?_)
  · obtain ⟨d, n, rfl, _⟩ := h
    rfl
  · obtain ⟨d, n, rfl, hD, n1, n3, k⟩ := h
    refine ⟨_, PSs.nox (pss_cons (ps_set (i := 2) sc_law_chances.nd rfl (Or.inl rfl) (pe_lst (pa_cons (pe_lst (pa_cons (pe_tup (pa_cons pe_int (pa_cons pe_int pa_nil))) pa_nil)) (pa_cons (pe_lst (pa_cons (pe_tup (pa_cons pe_int (pa_cons pe_int pa_nil))) (pa_cons (pe_tup (pa_cons pe_int (pa_cons pe_int pa_nil))) pa_nil))) (pa_cons (pe_lst (pa_cons (pe_tup (pa_cons pe_int (pa_cons pe_int pa_nil))) (pa_cons (pe_tup (pa_cons pe_int (pa_cons pe_int pa_nil))) (pa_cons (pe_tup (pa_cons pe_int (pa_cons pe_int pa_nil))) pa_nil)))) (pa_cons (pe_lst (pa_cons (pe_tup (pa_cons pe_int (pa_cons pe_int pa_nil))) (pa_cons (pe_tup (pa_cons pe_int (pa_cons pe_int pa_nil))) (pa_cons (pe_tup (pa_cons pe_int (pa_cons pe_int pa_nil))) (pa_cons (pe_tup (pa_cons pe_int (pa_cons pe_int pa_nil))) pa_nil))))) pa_nil)))))) (pss_cons (ps_if (pt_cmpR op_eq (pv 1) pe_int (nomark _)) (pss_cons (ps_set (i := 2) sc_law_chances.nd rfl (Or.inl rfl) (pe_op op_cat (pv 2) (pe_lst (pa_cons (pe_lst (pa_cons (pe_tup (pa_cons pe_int (pa_cons pe_int pa_nil))) (pa_cons (pe_tup (pa_cons pe_int (pa_cons pe_int pa_nil))) pa_nil))) (pa_cons (pe_lst (pa_cons (pe_tup (pa_cons pe_int (pa_cons pe_int pa_nil))) (pa_cons (pe_tup (pa_cons pe_int (pa_cons pe_int pa_nil))) pa_nil))) (pa_cons (pe_lst (pa_cons (pe_tup (pa_cons pe_int (pa_cons pe_int pa_nil))) (pa_cons (pe_tup (pa_cons pe_int (pa_cons pe_int pa_nil))) pa_nil))) pa_nil)))))) (pss_one (ps_ret (pe_fn C_law_pick (hr.mono (by decide)) (by rfl) (pa_cons (pv 0) (pa_cons (pe_op op_cat (pe_lst (pa_cons (pe_ix (x_list (K := K)) (pv 2) pe_int (fun _ _ => rfl)) pa_nil)) (pe_slice (s_lst (K := K)) (pv 2) (po_some pe_int) po_none)) pa_nil)))))) pss_nil) (pss_cons (ps_if (pt_cmpR op_eq (pv 1) pe_int (nomark _)) (pss_cons (ps_set (i := 2) sc_law_chances.nd rfl (Or.inl rfl) (pe_op op_cat (pv 2) (pe_lst (pa_cons (pe_lst (pa_cons (pe_tup (pa_cons pe_int (pa_cons pe_int pa_nil))) (pa_cons (pe_tup (pa_cons pe_int (pa_cons pe_int pa_nil))) (pa_cons (pe_tup (pa_cons pe_int (pa_cons pe_int pa_nil))) pa_nil)))) (pa_cons (pe_lst (pa_cons (pe_tup (pa_cons pe_int (pa_cons pe_int pa_nil))) (pa_cons (pe_tup (pa_cons pe_int (pa_cons pe_int pa_nil))) (pa_cons (pe_tup (pa_cons pe_int (pa_cons pe_int pa_nil))) pa_nil)))) (pa_cons (pe_lst (pa_cons (pe_tup (pa_cons pe_int (pa_cons pe_int pa_nil))) (pa_cons (pe_tup (pa_cons pe_int (pa_cons pe_int pa_nil))) (pa_cons (pe_tup (pa_cons pe_int (pa_cons pe_int pa_nil))) pa_nil)))) pa_nil)))))) (pss_one (ps_ret (pe_fn C_law_pick (hr.mono (by decide)) (by rfl) (pa_cons (pv 0) (pa_cons (pe_op op_cat (pe_lst (pa_cons (pe_ix (x_list (K := K)) (pv 2) pe_int (fun _ _ => rfl)) pa_nil)) (pe_slice (s_lst (K := K)) (pv 2) (po_some pe_int) po_none)) pa_nil)))))) pss_nil) (pss_one (ps_ret (pe_ix (x_list (K := K)) (pv 2) (pe_op op_sub (pv 1) pe_int) (fun _ _ => rfl))))))), ?_⟩
    refine y_seq (y_asg ?_)
    refine DaE.use (d := d) (x := .list [prL [(1, 1)], prL [(1, 2), (1, 2)], prL [(1, 3), (1, 3), (1, 3)], prL [(1, 4), (1, 4), (1, 4), (1, 4)]]) (by repeat' first | exact dae_int | exact dae_str | exact dae_non | exact dae_bl | exact dae_neg | exact daa_nil | exact dae_var rfl (by assumption) | refine daa_cons ?_ ?_ | refine dae_tup hD (by decide) ?_ | refine dae_lst hD (by decide) ?_) fun v H1 s1 h1 => ?_
    cases h1 with
    | @lst a0 xs0 _ e0 l0 =>
    have e0 := sans_sub _ _ e0
    walk_at "yy"
    refine y_ite (fun c2 => ?_) (fun c2 => ?_)
    · have hn : n = 2 := by
        have q := of_decide_eq_true c2
        omega
      subst hn
      refine y_seq (y_asg (y_op (y_var rfl ?_)))
      refine DaE.use (d := d) (x := .list [prL [(1, 3), (2, 3)], prL [(3, 4), (1, 4)], prL [(1, 6), (5, 6)]]) (by repeat' first | exact dae_int | exact dae_str | exact dae_non | exact dae_bl | exact dae_neg | exact daa_nil | exact dae_var rfl (by assumption) | refine daa_cons ?_ ?_ | refine dae_tup (hD.same s1) (by decide) ?_ | refine dae_lst (hD.same s1) (by decide) ?_) fun v2 H2 s2 h2 => ?_
      cases h2 with
      | @lst b0 zs0 _ f0 m0 =>
      have f0 := sans_sub _ _ f0
      have hL := (l0.same (sans_mono s2)).app m0
      have z1 : xs0.length + zs0.length ≤ sizeLine := sz_le (by rw [l0.len, m0.len]; decide)
      refine ⟨a0, b0, xs0, zs0, rfl, rfl, s2 _ _ e0, f0, z1, fun p np => ?_⟩
      have s3 : Same H2 (upd H2 p (.lst (xs0 ++ zs0))) := same_new np
      have ep : (upd H2 p (.lst (xs0 ++ zs0))) p = some (.lst (xs0 ++ zs0)) := upd_same
      have hD3 := hD.same ((s1.trans s2).trans s3)
      have sS := (s1.trans s2).trans s3
      replace hL := hL.same (sans_mono s3)
      generalize upd H2 p (.lst (xs0 ++ zs0)) = H3 at s3 ep hD3 sS hL ⊢
      walk_at "yy"
      obtain ⟨v, ev, hv⟩ := hL.at2 (j := 1) rfl
      refine y_ixL (sql ep) (at_nat (by decide) ev) ?_
      refine ⟨by show 1 ≤ sizeLine; decide, fun q nq => ?_⟩
      walk_at "yy"
      refine ⟨4, rfl, p, _, rfl, sql (same_new nq _ _ ep), fun r nr => ?_⟩
      have hl7 : (xs0 ++ zs0).length = 7 := hL.len
      rw [show (4 : Int) = ((4 : Nat) : Int) from rfl, cut_from (by omega)]
      refine ⟨q, r, [v], (xs0 ++ zs0).drop 4, rfl, rfl, by rw [upd_ne (ne_of_none upd_same nr)]; exact upd_same, upd_same, sz_le (by rw [List.length_drop, hl7]; show 1 + (7 - 4) ≤ 100000; decide), fun u nu => ?_⟩
      have s4 := ((same_new (o := .lst [v]) nq).trans (same_new (o := .lst ((xs0 ++ zs0).drop 4)) nr)).trans (same_new (o := .lst ([v] ++ (xs0 ++ zs0).drop 4)) nu)
      walk_at "yy"
      refine ⟨d, u, _, rfl, hD3.same s4, sql upd_same, (hD3.same ((same_new nq).trans (same_new nr))).ne nu, by simp, by rw [List.length_append, List.length_drop, hl7]; show 1 + (7 - 4) ≤ 100000; decide, fun v' H' mv hD' f' => ?_⟩
      have hA : DaL (sans H3 d) ([v] ++ (xs0 ++ zs0).drop 4) ((chTab 2).map prL) := DaL.app (.cons hv .nil) (hL.drop 4)
      obtain ⟨x, mx, hx⟩ := hA.mem mv
      obtain ⟨ps, mp, rfl⟩ := List.mem_map.mp mx
      exact k v' ps H' mp (hx.same ((sans_mono s4).trans (sans_fr f'))) hD' ((Fr.of_same (sS.trans s4)).trans f')
    · walk_at "yy"
      refine y_ite (fun c3 => ?_) (fun c3 => ?_)
      · have hn : n = 3 := by
          have q := of_decide_eq_true c3
          omega
        subst hn
        refine y_seq (y_asg (y_op (y_var rfl ?_)))
        refine DaE.use (d := d) (x := .list [prL [(1, 2), (1, 4), (1, 4)], prL [(1, 6), (1, 3), (1, 2)], prL [(1, 4), (1, 2), (1, 4)]]) (by repeat' first | exact dae_int | exact dae_str | exact dae_non | exact dae_bl | exact dae_neg | exact daa_nil | exact dae_var rfl (by assumption) | refine daa_cons ?_ ?_ | refine dae_tup (hD.same s1) (by decide) ?_ | refine dae_lst (hD.same s1) (by decide) ?_) fun v2 H2 s2 h2 => ?_
        cases h2 with
        | @lst b0 zs0 _ f0 m0 =>
        have f0 := sans_sub _ _ f0
        have hL := (l0.same (sans_mono s2)).app m0
        have z1 : xs0.length + zs0.length ≤ sizeLine := sz_le (by rw [l0.len, m0.len]; decide)
        refine ⟨a0, b0, xs0, zs0, rfl, rfl, s2 _ _ e0, f0, z1, fun p np => ?_⟩
        have s3 : Same H2 (upd H2 p (.lst (xs0 ++ zs0))) := same_new np
        have ep : (upd H2 p (.lst (xs0 ++ zs0))) p = some (.lst (xs0 ++ zs0)) := upd_same
        have hD3 := hD.same ((s1.trans s2).trans s3)
        have sS := (s1.trans s2).trans s3
        replace hL := hL.same (sans_mono s3)
        generalize upd H2 p (.lst (xs0 ++ zs0)) = H3 at s3 ep hD3 sS hL ⊢
        walk_at "yy"
        obtain ⟨v, ev, hv⟩ := hL.at2 (j := 2) rfl
        refine y_ixL (sql ep) (at_nat (by decide) ev) ?_
        refine ⟨by show 1 ≤ sizeLine; decide, fun q nq => ?_⟩
        walk_at "yy"
        refine ⟨4, rfl, p, _, rfl, sql (same_new nq _ _ ep), fun r nr => ?_⟩
        have hl7 : (xs0 ++ zs0).length = 7 := hL.len
        rw [show (4 : Int) = ((4 : Nat) : Int) from rfl, cut_from (by omega)]
        refine ⟨q, r, [v], (xs0 ++ zs0).drop 4, rfl, rfl, by rw [upd_ne (ne_of_none upd_same nr)]; exact upd_same, upd_same, sz_le (by rw [List.length_drop, hl7]; show 1 + (7 - 4) ≤ 100000; decide), fun u nu => ?_⟩
        have s4 := ((same_new (o := .lst [v]) nq).trans (same_new (o := .lst ((xs0 ++ zs0).drop 4)) nr)).trans (same_new (o := .lst ([v] ++ (xs0 ++ zs0).drop 4)) nu)
        walk_at "yy"
        refine ⟨d, u, _, rfl, hD3.same s4, sql upd_same, (hD3.same ((same_new nq).trans (same_new nr))).ne nu, by simp, by rw [List.length_append, List.length_drop, hl7]; show 1 + (7 - 4) ≤ 100000; decide, fun v' H' mv hD' f' => ?_⟩
        have hA : DaL (sans H3 d) ([v] ++ (xs0 ++ zs0).drop 4) ((chTab 3).map prL) := DaL.app (.cons hv .nil) (hL.drop 4)
        obtain ⟨x, mx, hx⟩ := hA.mem mv
        obtain ⟨ps, mp, rfl⟩ := List.mem_map.mp mx
        exact k v' ps H' mp (hx.same ((sans_mono s4).trans (sans_fr f'))) hD' ((Fr.of_same (sS.trans s4)).trans f')
      · walk_at "yy"
        have hn : n = 1 := by
          have q1 := of_decide_eq_false c2
          have q2 := of_decide_eq_false c3
          omega
        subst hn
        obtain ⟨v, ev, hv⟩ := l0.at2 (j := 0) rfl
        refine y_ixL (sql e0) (at_nat (by decide) ev) ?_
        exact k v _ H1 (by decide) hv (hD.same s1) (Fr.of_same s1)
theorem sc_law_moves : FnScope ["_law_dice_here", "_law_size_here", "_law_keys", "_law_some_here", "_law_chances_here", "_law_to", "_law_at"] ["_law_dice_here", "_law_size_here"] (defScope s_law_moves) := ⟨rfl, rfl, rfl, by decide +kernel, rfl, by decide +kernel, by decide +kernel⟩
-- 0 _law_dice_here, 1 _law_size_here, 2 _law_keys, 3 _law_some_here, 4 _law_chances_here, 5 _law_to, 6 _law_at
theorem ok_law_moves {f : Addr} {fd : FuncData} (F : FunD K "_law_moves" "_law_moves" (defArgs s_law_moves) (defBody s_law_moves) (defScope s_law_moves) [] [] f fd) (B : Blt mg) (Z : Con mg) (GL : GcdF mg) {CG : Addr} (IG : IFC K mg "InvalidGame" CG) (C_law_roll : Cal P w K mg base 1 "_law_roll" ["_law_dice_here", "_law_total"] spRoll) (C_law_some : Cal P w K mg base 2 "_law_some" ["_law_dice_here", "_law_items", "_law_size_here"] (spSomeP K)) (C_law_pick : Cal P w K mg base 2 "_law_pick" ["_law_dice_here", "_law_items"] (spPick K)) (C_law_chances : Cal P w K mg base 3 "_law_chances" ["_law_dice_here", "_law_many"] spChances) : FnOk P w K mg base CX0 4 f fd ["_law_dice_here", "_law_size_here"] spLMoves := by
  refine F.ok sc_law_moves (fun vs H Q E h => ?_) (fun cdv A outer s H vs Q E hr h => ?_)
  · obtain ⟨d, n, rfl, _⟩ := h
    rfl
  · obtain ⟨d, n, rfl, hD, n1, n3, k⟩ := h
    refine ⟨_, PSs.nox (pss_cons (ps_set (i := 2) sc_law_moves.nd rfl (Or.inl rfl) (pe_op op_cat (pe_lc (own := [("_law_to", 5)]) (g := gName 5) (tt := tYes) rfl sc_law_moves.nd (pi_range1 (by rfl) B.n_range (pa_cons (pv 1) pa_nil)) (blkOk_by (own := [("_law_to", 5)]) (N := ["_law_dice_here", "_law_size_here", "_law_keys", "_law_some_here", "_law_chances_here", "_law_to", "_law_at"]) (sc := defScope s_law_moves) (by decide +kernel)) (fun _ _ _ _ _ => pg_name (i := 5) sc_law_moves.nd rfl (Or.inl rfl)) (fun _ _ _ _ _ => pts_nil) (fun _ _ _ _ _ => (pe_tup (pa_cons (pv 5) (pa_cons pe_int pa_nil))))) (pe_lc (own := [("_law_to", 5)]) (g := gName 5) (tt := tYes) rfl sc_law_moves.nd (pi_range1 (by rfl) B.n_range (pa_cons (pv 1) pa_nil)) (blkOk_by (own := [("_law_to", 5)]) (N := ["_law_dice_here", "_law_size_here", "_law_keys", "_law_some_here", "_law_chances_here", "_law_to", "_law_at"]) (sc := defScope s_law_moves) (by decide +kernel)) (fun _ _ _ _ _ => pg_name (i := 5) sc_law_moves.nd rfl (Or.inl rfl)) (fun _ _ _ _ _ => pts_nil) (fun _ _ _ _ _ => (pe_tup (pa_cons (pv 5) (pa_cons pe_int pa_nil))))))) (pss_cons (ps_set (i := 2) sc_law_moves.nd rfl (Or.inl rfl) (pe_op op_cat (pe_op op_cat (pv 2) (pe_lc (own := [("_law_to", 5)]) (g := gName 5) (tt := tYes) rfl sc_law_moves.nd (pi_range1 (by rfl) B.n_range (pa_cons (pv 1) pa_nil)) (blkOk_by (own := [("_law_to", 5)]) (N := ["_law_dice_here", "_law_size_here", "_law_keys", "_law_some_here", "_law_chances_here", "_law_to", "_law_at"]) (sc := defScope s_law_moves) (by decide +kernel)) (fun _ _ _ _ _ => pg_name (i := 5) sc_law_moves.nd rfl (Or.inl rfl)) (fun _ _ _ _ _ => pts_nil) (fun _ _ _ _ _ => (pe_tup (pa_cons (pv 5) (pa_cons (pe_un un_neg pe_int) pa_nil)))))) (pe_lst (pa_cons (pe_tup (pa_cons (pe_fn C_law_roll (hr.mono (by decide)) (by rfl) (pa_cons (pv 0) (pa_cons (pv 1) pa_nil))) (pa_cons pe_int pa_nil))) (pa_cons (pe_tup (pa_cons (pe_fn C_law_roll (hr.mono (by decide)) (by rfl) (pa_cons (pv 0) (pa_cons (pv 1) pa_nil))) (pa_cons (pe_un un_neg pe_int) pa_nil))) pa_nil))))) (pss_cons (ps_set (i := 3) sc_law_moves.nd rfl (Or.inr rfl) (pe_fn C_law_some (hr.mono (by decide)) (by rfl) (pa_cons (pv 0) (pa_cons (pv 2) (pa_cons (pe_fn C_law_pick (hr.mono (by decide)) (by rfl) (pa_cons (pv 0) (pa_cons (pe_lst (pa_cons pe_int (pa_cons pe_int (pa_cons pe_int (pa_cons pe_int (pa_cons pe_int pa_nil)))))) pa_nil))) pa_nil))))) (pss_cons (ps_set (i := 4) sc_law_moves.nd rfl (Or.inr rfl) (pe_fn C_law_chances (hr.mono (by decide)) (by rfl) (pa_cons (pv 0) (pa_cons (pe_callB (c_lenQ (K := K)) (by rfl) B.n_len (by decide +kernel) (pa_cons (pv 3) pa_nil)) pa_nil)))) (pss_one (ps_ret (pe_callTy (c_tupQ (K := K)) (by rfl) B.n_tuple (by decide +kernel) (pa_cons (pe_callB (c_sorted3 (K := K)) (by rfl) B.n_sorted (by decide +kernel) (pa_cons (pe_lc (own := [("_law_at", 6)]) (g := gName 6) (tt := tYes) rfl sc_law_moves.nd (pi_range1 (by rfl) B.n_range (pa_cons (pe_callB (c_lenQ (K := K)) (by rfl) B.n_len (by decide +kernel) (pa_cons (pv 3) pa_nil)) pa_nil)) (blkOk_by (own := [("_law_at", 6)]) (N := ["_law_dice_here", "_law_size_here", "_law_keys", "_law_some_here", "_law_chances_here", "_law_to", "_law_at"]) (sc := defScope s_law_moves) (by decide +kernel)) (fun _ _ _ _ _ => pg_name (i := 6) sc_law_moves.nd rfl (Or.inl rfl)) (fun _ _ _ _ _ => pts_nil) (fun _ _ _ _ _ => (pe_op (o_catT (K := K)) (pe_ix (x_list (K := K)) (pv 3) (pv 6) (fun _ _ => rfl)) (pe_tup (pa_cons (pe_ix (x_list (K := K)) (pv 4) (pv 6) (fun _ _ => rfl)) pa_nil))))) pa_nil)) pa_nil)))))))), ?_⟩
    refine y_seq (y_asg (y_op ?_))
    refine keys_lc (te := tC (.int 0)) n3 (fun σ H Q h => h) fun D1 acc1 H1 nD1 e1 p1 s1 => ?_
    refine keys_lc (te := tC (.int 1)) n3 (fun σ H Q h => h) fun D2 acc2 H2 nD2 e2 p2 s2 => ?_
    have l1 : acc1.length = n := by rw [p1.length]; unfold kS; rw [List.length_map, List.length_range]
    have l2 : acc2.length = n := by rw [p2.length]; unfold kS; rw [List.length_map, List.length_range]
    refine ⟨D1, D2, acc1, acc2, rfl, rfl, s2 _ _ e1, e2, sz_le (by omega), fun q1 nq1 => ?_⟩
    have s3 : Same H2 (upd H2 q1 (.lst (acc1 ++ acc2))) := same_new nq1
    have eq1 : (upd H2 q1 (.lst (acc1 ++ acc2))) q1 = some (.lst (acc1 ++ acc2)) := upd_same
    generalize upd H2 q1 (.lst (acc1 ++ acc2)) = H3 at s3 eq1 ⊢
    have p12 : Paired (fun v k => Da (tu H3) v (kD k)) (acc1 ++ acc2) (kS n 0 ++ kS n 1) := pr_app (p1.mono fun v k h => h.same (tu_same (s2.trans s3))) (p2.mono fun v k h => h.same (tu_same s3))
    have hD3 := hD.same ((s1.trans s2).trans s3)
    have s03 := (s1.trans s2).trans s3
    refine y_name (y_seq (y_asg (y_op (y_op (y_var rfl ?_)))))
    refine keys_lc (te := tUn (rU fun i => .int (-i)) (tC (.int 1))) n3 (fun σ H Q h => ⟨_, rfl, h⟩) fun D3 acc3 H4 nD3 e3 p3 s4 => ?_
    have l3 : acc3.length = n := by rw [p3.length]; unfold kS; rw [List.length_map, List.length_range]
    refine ⟨q1, D3, acc1 ++ acc2, acc3, rfl, rfl, s4 _ _ eq1, e3, sz_le (by rw [List.length_append]; omega), fun q2 nq2 => ?_⟩
    have s5 : Same H4 (upd H4 q2 (.lst (acc1 ++ acc2 ++ acc3))) := same_new nq2
    have eq2 : (upd H4 q2 (.lst (acc1 ++ acc2 ++ acc3))) q2 = some (.lst (acc1 ++ acc2 ++ acc3)) := upd_same
    have hD5 := hD3.same (s4.trans s5)
    have nq2d : q2 ≠ d := (hD3.same s4).ne nq2
    generalize upd H4 q2 (.lst (acc1 ++ acc2 ++ acc3)) = H5 at s5 eq2 hD5 ⊢
    have p123 : Paired (fun v k => Da (tu H5) v (kD k)) (acc1 ++ acc2 ++ acc3) ((kS n 0 ++ kS n 1) ++ kS n (-1)) := pr_app (p12.mono fun v k h => h.same (tu_same (s4.trans s5))) (p3.mono fun v k h => h.same (tu_same s5))
    have s05 := s03.trans (s4.trans s5)
    walk_at "yy"
    refine ⟨d, n, rfl, hD5, by omega, big_of (by omega), fun a H6 a0 a1 hD6 f6 => ?_⟩
    walk_at "yy"
    refine ⟨by show 2 ≤ sizeLine; decide, fun t1 nt1 => ?_⟩
    have s7 : Same H6 (upd H6 t1 (.tup [.int a, .int 2])) := same_new nt1
    have et1 : (upd H6 t1 (.tup [.int a, .int 2])) t1 = some (.tup [.int a, .int 2]) := upd_same
    have hD7 := hD6.same s7
    generalize upd H6 t1 (.tup [.int a, .int 2]) = H7 at s7 et1 hD7 ⊢
    walk_at "yy"
    refine ⟨d, n, rfl, hD7, by omega, big_of (by omega), fun b H8 b0 b1 hD8 f8 => ?_⟩
    walk_at "yy"
    refine ⟨by show 2 ≤ sizeLine; decide, fun t2 nt2 => ?_⟩
    have s9 : Same H8 (upd H8 t2 (.tup [.int b, .int (-2)])) := same_new nt2
    have et2 : (upd H8 t2 (.tup [.int b, .int (-2)])) t2 = some (.tup [.int b, .int (-2)]) := upd_same
    have hD9 := hD8.same s9
    generalize upd H8 t2 (.tup [.int b, .int (-2)]) = H9 at s9 et2 hD9 ⊢
    walk_at "yy"
    refine ⟨by show 2 ≤ sizeLine; decide, fun q3 nq3 => ?_⟩
    have s10 : Same H9 (upd H9 q3 (.lst [.ref t1, .ref t2])) := same_new nq3
    have eq3 : (upd H9 q3 (.lst [.ref t1, .ref t2])) q3 = some (.lst [.ref t1, .ref t2]) := upd_same
    have hD10 := hD9.same s10
    generalize upd H9 q3 (.lst [.ref t1, .ref t2]) = H10 at s10 eq3 hD10 ⊢
    have f59 : Fr d H5 H10 := (f6.trans (Fr.of_same s7)).trans (f8.trans (Fr.of_same (s9.trans s10)))
    refine ⟨q2, q3, acc1 ++ acc2 ++ acc3, [.ref t1, .ref t2], rfl, rfl, f59 _ _ eq2 nq2d, eq3, sz_le (by rw [List.length_append, List.length_append]; simp; omega), fun q4 nq4 => ?_⟩
    have s11 : Same H10 (upd H10 q4 (.lst (acc1 ++ acc2 ++ acc3 ++ [.ref t1, .ref t2]))) := same_new nq4
    have eq4 : (upd H10 q4 (.lst (acc1 ++ acc2 ++ acc3 ++ [.ref t1, .ref t2]))) q4 = some (.lst (acc1 ++ acc2 ++ acc3 ++ [.ref t1, .ref t2])) := upd_same
    have hD11 := hD10.same s11
    have nq4d : q4 ≠ d := hD10.ne nq4
    generalize upd H10 q4 (.lst (acc1 ++ acc2 ++ acc3 ++ [.ref t1, .ref t2])) = H11 at s11 eq4 hD11 ⊢
    have f511 : Fr d H5 H11 := f59.trans (Fr.of_same s11)
    have pK : Paired (fun v k => Da (tu H11) v (kD k)) (acc1 ++ acc2 ++ acc3 ++ [.ref t1, .ref t2]) (keysL n a b) := by
      refine pr_app (p123.mono fun v k h => h.same (tu_fr f511 hD5)) (.cons (.tup (tu_at ?_) (.cons (.int _) (.cons (.int _) .nil))) (.cons (.tup (tu_at ?_) (.cons (.int _) (.cons (.int _) .nil))) .nil))
      · exact s11 _ _ (s10 _ _ (s9 _ _ (f8 _ _ et1 (hD6.ne nt1))))
      · exact s11 _ _ (s10 _ _ et2)
    have lK : (acc1 ++ acc2 ++ acc3 ++ [V.ref t1, V.ref t2]).length = 3 * n + 2 := by rw [pK.length, keysL_len]
    have f011 : Fr d H H11 := (Fr.of_same s05).trans f511
    generalize acc1 ++ acc2 ++ acc3 ++ [V.ref t1, V.ref t2] = ky at eq4 pK lK ⊢
    clear p1 p2 p12 p3 p123 e1 e2 e3 eq1 eq2 eq3 et1 et2 s1 s2 s3 s4 s5 s7 s9 s10 s11 f59 f511 f6 f8
    walk_at "yy"
    refine ⟨by show 5 ≤ sizeLine; decide, fun z nz => ?_⟩
    have s12 : Same H11 (upd H11 z (.lst [.int 1, .int 2, .int 2, .int 2, .int 3])) := same_new nz
    have ez : (upd H11 z (.lst [.int 1, .int 2, .int 2, .int 2, .int 3])) z = some (.lst [.int 1, .int 2, .int 2, .int 2, .int 3]) := upd_same
    have hD12 := hD11.same s12
    have nzd : z ≠ d := hD11.ne nz
    generalize upd H11 z (.lst [.int 1, .int 2, .int 2, .int 2, .int 3]) = H12 at s12 ez hD12 ⊢
    walk_at "yy"
    refine ⟨d, z, _, rfl, hD12, sql ez, nzd, by simp, by simp, fun v H13 mv hD13 f13 => ?_⟩
    obtain ⟨m, rfl, m1, m3⟩ : ∃ m : Nat, v = .int m ∧ 1 ≤ m ∧ m ≤ 3 := by
      simp only [List.mem_cons, List.not_mem_nil, or_false] at mv
      rcases mv with rfl | rfl | rfl | rfl | rfl
      · exact ⟨1, rfl, by decide, by decide⟩
      · exact ⟨2, rfl, by decide, by decide⟩
      · exact ⟨2, rfl, by decide, by decide⟩
      · exact ⟨2, rfl, by decide, by decide⟩
      · exact ⟨3, rfl, by decide, by decide⟩
    have f1113 : Fr d H11 H13 := (Fr.of_same s12).trans f13
    walk_at "yy"
    refine ⟨d, q4, ky, m, rfl, hD13, sql (f1113 _ _ eq4 nq4d), nq4d, by omega, by omega, by omega, fun p us rest H14 hper hlen hD14 f14 np ep => ?_⟩
    have hus : us.length = m := by rw [hlen, lK, Int.toNat_natCast]; omega
    obtain ⟨ks0, pK2, pmK⟩ := pr_perm hper (pK.mono fun v k h => h.same (tu_fr (f1113.trans f14) hD11))
    obtain ⟨ks, k2, rfl, pU, _⟩ := pr_split pK2
    have hks : ks.length = m := by rw [← pU.length, hus]
    have npd : p ≠ d := hD13.ne np
    walk_at "yy"
    refine y_lenL (sql ep) ?_
    walk_at "yy"
    refine ⟨d, m, by rw [hus], hD14, m1, m3, fun v ps H15 mp hv hD15 f15 => ?_⟩
    unfold prL at hv
    cases hv with
    | @lst c xc _ ec hc =>
    have ec := sans_sub _ _ ec
    have hc := (DaL.tu sans_sub hc (frD_tup ps)).pr'
    have hps : ps.length = m := (chTab_ok m m1 m3 ps mp).1
    have hxc : xc.length = m := by rw [hc.length, hps]
    have ep := f15 _ _ ep npd
    replace pU := pU.mono fun v k h => h.same (tu_fr f15 hD14)
    have f015 : Fr d H H15 := (f011.trans f1113).trans (f14.trans f15)
    walk_at "yy"
    refine y_lenL (sql ep) ?_
    walk_at "yy"
    refine ⟨m, by rw [hus], by omega, by omega, fun D nD => lc_range (fun j G => ∃ acc, G D = some (.lst acc) ∧ Paired (fun v k => Da (tu G) v (mvD k)) acc ((ks.zip ps).take j) ∧ acc.length = j ∧ Same H15 G) ⟨[], upd_same, .nil, rfl, same_new nD⟩ ?_ ?_⟩
    · rintro j G hj ⟨acc, eD, hp, hl, s⟩
      have hj : j < m := by omega
      walk_at "yy"
      refine ⟨rfl, ?_⟩
      walk_at "yy"
      walk_at "yt"
      walk_at "yy"
      have ej : (0 : Int) + (j : Int) = (j : Int) := by omega
      rw [ej]
      obtain ⟨u, eu⟩ : ∃ u, us[j]? = some u := ⟨us[j]'(by omega), List.getElem?_eq_getElem _⟩
      obtain ⟨ch, ech⟩ : ∃ u, xc[j]? = some u := ⟨xc[j]'(by omega), List.getElem?_eq_getElem _⟩
      obtain ⟨key, ekey, hkey⟩ := pr_at pU eu
      obtain ⟨cc, ecc, hcc⟩ := pr_at hc ech
      refine y_ixL (sql (s _ _ ep)) (at_nat (by omega) (by rw [Int.toNat_natCast]; exact eu)) ?_
      walk_at "yy"
      refine y_ixL (sql (s _ _ ec)) (at_nat (by omega) (by rw [Int.toNat_natCast]; exact ech)) ?_
      refine ⟨by show 1 ≤ sizeLine; decide, fun w1 nw1 => ?_⟩
      cases hkey with
      | @tup ua _ _ ea ha =>
      cases ha with
      | cons r1 ha =>
      cases ha with
      | cons r2 ha =>
      cases ha
      cases r1
      cases r2
      have ea := s _ _ (tu_sub _ _ ea)
      have sw := same_new (o := .tup [ch]) nw1
      refine ⟨ua, w1, _, _, rfl, rfl, sqt (sw _ _ ea), sqt upd_same, by simp, by show 2 + 1 ≤ sizeLine; decide, fun z => (nomatch z), fun _ w2 nw2 => ?_⟩
      have sw2 := sw.trans (same_new (o := .tup ([.int key.1, .int key.2] ++ [ch])) nw2)
      have ew2 : (upd (upd G w1 (.tup [ch])) w2 (.tup ([.int key.1, .int key.2] ++ [ch]))) w2 = some (.tup ([.int key.1, .int key.2] ++ [ch])) := upd_same
      generalize upd (upd G w1 (.tup [ch])) w2 (.tup ([.int key.1, .int key.2] ++ [ch])) = G2 at sw2 ew2 ⊢
      have eD2 := sw2 _ _ eD
      refine ⟨acc, eD2, sz_lt (by omega), acc ++ [.ref w2], upd_same, ?_, by rw [List.length_append, hl]; rfl, same_mut (s.trans sw2) nD⟩
      have ez2 : (ks.zip ps)[j]? = some (key, cc) := by rw [List.getElem?_zip_eq_some]; exact ⟨ekey, ecc⟩
      rw [List.take_add_one, ez2]
      have st := (tu_same sw2).trans (tu_mut (o := .lst (acc ++ [.ref w2])) eD2)
      refine Paired.snoc (hp.mono fun v k h => h.same st) ?_
      have ew3 : (upd G2 D (.lst (acc ++ [.ref w2]))) w2 = some (.tup ([.int key.1, .int key.2] ++ [ch])) := by rw [upd_ne (fun zz => by rw [zz, eD2] at ew2; cases ew2)]; exact ew2
      exact .tup (tu_at ew3) (.cons (.int _) (.cons (.int _) (.cons (hcc.same ((tu_same s).trans st)) .nil)))
    · rintro G ⟨acc, eD, hp, hl, s⟩
      have lz : (ks.zip ps).length = m := by rw [List.length_zip]; omega
      rw [show ((m : Nat) : Int).toNat = m from Int.toNat_natCast m] at hp
      rw [List.take_of_length_le (by omega)] at hp
      have hf : ∀ x (k : Mv), Da (tu G) x (mvD k) → key3 G x = k.1 := fun x k h => by
        cases h with
        | tup e h =>
        cases h with
        | cons r1 h =>
        cases h with
        | cons r2 h =>
        cases r1
        cases r2
        exact key3_at (tu_sub _ _ e)
      have nd : ((ks.zip ps).map (fun x : Mv => x.1)).Nodup := by
        rw [show (ks.zip ps).map (fun x : Mv => x.1) = ks from List.map_fst_zip (by omega)]
        exact (List.nodup_append.mp (pmK.nodup_iff.mpr (keysL_nodup n a b))).1
      walk_at "yy"
      refine ⟨D, acc, key3 G, rfl, sql eD, pr_inj hf hp nd, fun x mx => ?_, fun ys o hsr pm no => ?_⟩
      · obtain ⟨k, _, hk⟩ := pr_mem hp mx
        have q := hf x k hk
        cases hk with
        | tup e h =>
        cases h with
        | cons r1 h =>
        cases h with
        | cons r2 h =>
        cases h with
        | cons r3 h =>
        cases h
        cases r1
        cases r2
        rw [q]
        exact ⟨_, _, rfl, tu_sub _ _ e⟩
      · obtain ⟨ms, hms, pms⟩ := pr_perm pm hp
        have ok : MsOk n ms := moves_ok n3 a0 a1 b0 b1 pmK m1 m3 hks mp pms (pr_pairwise (fun x y k l hk hl h => by
          have h : SrtO.lexB (key3 G y) (key3 G x) = false := h
          rw [hf x k hk, hf y l hl] at h
          exact h) hms hsr)
        walk_at "yy"
        refine ⟨o, ys, rfl, .inl ⟨sql upd_same, fun q5 nq5 => ?_⟩⟩
        have s6 := (same_new (o := .lst ys) no).trans (same_new (o := .tup ys) nq5)
        refine k _ ms _ ok (.tup (tu_at upd_same) (DaL.pr (hms.mono fun v k h => h.same (tu_same s6)))) (hD15.same (s.trans s6)) (f015.trans (Fr.of_same (s.trans s6)))
theorem sc_law_game : FnScope ["_law_dice_here", "_law_size_here", "_law_standing"] ["_law_dice_here", "_law_size_here"] (defScope s_law_game) := ⟨rfl, rfl, rfl, by decide +kernel, rfl, by decide +kernel, by decide +kernel⟩
-- 0 _law_dice_here, 1 _law_size_here, 2 _law_standing
theorem ok_law_game {f : Addr} {fd : FuncData} (F : FunD K "_law_game" "_law_game" (defArgs s_law_game) (defBody s_law_game) (defScope s_law_game) [] [] f fd) (B : Blt mg) (Z : Con mg) (GL : GcdF mg) {CG : Addr} (IG : IFC K mg "InvalidGame" CG) (C_law_moves : Cal P w K mg base 4 "_law_moves" ["_law_dice_here", "_law_size_here"] spLMoves) : FnOk P w K mg base CX0 5 f fd ["_law_dice_here", "_law_size_here"] spLGame := by
  refine F.ok sc_law_game (fun vs H Q E h => ?_) (fun cdv A outer s H vs Q E hr h => ?_)
  · obtain ⟨d, n, rfl, _⟩ := h
    rfl
  · obtain ⟨d, n, rfl, hD, n1, n3, k⟩ := h
    refine ⟨_, PSs.nox (pss_one (ps_ret (pe_callTy (c_tupQ (K := K)) (by rfl) B.n_tuple (by decide +kernel) (pa_cons (pe_lc (own := [("_law_standing", 2)]) (g := gName 2) (tt := tYes) rfl sc_law_game.nd (pi_range1 (by rfl) B.n_range (pa_cons (pv 1) pa_nil)) (blkOk_by (own := [("_law_standing", 2)]) (N := ["_law_dice_here", "_law_size_here", "_law_standing"]) (sc := defScope s_law_game) (by decide +kernel)) (fun _ _ _ _ _ => pg_name (i := 2) sc_law_game.nd rfl (Or.inl rfl)) (fun _ _ _ _ _ => pts_nil) (fun _ _ _ _ _ => (pe_fn C_law_moves (hr.mono (by decide)) (by rfl) (pa_cons (pv 0) (pa_cons (pv 1) pa_nil))))) pa_nil)))), ?_⟩
    refine y_ret (y_cb (y_cons ?_))
    refine y_lc (y_rng1 (y_cons (y_var rfl (y_nil ?_))))
    refine ⟨n, rfl, by omega, by omega, fun D nD => lc_range (fun j G => ∃ acc g, G D = some (.lst acc) ∧ Paired (fun v ms => Da (tu G) v (msD ms)) acc g ∧ (∀ ms ∈ g, MsOk n ms) ∧ g.length = j ∧ DiceAt G d ∧ Fr d H G) ⟨[], [], upd_same, .nil, fun _ h => (nomatch h), rfl, hD.new nD, Fr.new nD⟩ ?_ ?_⟩
    · rintro j G hj ⟨acc, g, eD, hp, hok, hl, hD1, f1⟩
      have hj : j < n := by omega
      have nDd : D ≠ d := hD.ne nD
      walk_at "yy"
      refine ⟨rfl, ?_⟩
      walk_at "yy"
      walk_at "yt"
      walk_at "yy"
      refine ⟨d, n, rfl, hD1, n1, n3, fun v ms H2 ok hv hD2 f2 => ?_⟩
      have eD2 := f2 _ _ eD nDd
      refine ⟨acc, eD2, sz_lt (by rw [hp.length]; omega), acc ++ [v], g ++ [ms], upd_same, ?_, ?_, by rw [List.length_append, hl]; rfl, hD2.mut nDd, (f1.trans f2).mut nD⟩
      · exact Paired.snoc (hp.mono fun v k h => h.same ((tu_fr f2 hD1).trans (tu_mut eD2))) (hv.same (tu_mut eD2))
      · intro m mm
        rcases List.mem_append.mp mm with mm | mm
        · exact hok m mm
        · rw [List.mem_singleton.mp mm]
          exact ok
    · rintro G ⟨acc, g, eD, hp, hok, hl, hD1, f1⟩
      walk_at "yy"
      refine ⟨D, acc, rfl, .inl ⟨sql eD, fun q nq => ?_⟩⟩
      exact k _ g _ ⟨by rw [hl, Int.toNat_natCast], hok⟩ (.tup (tu_at upd_same) (DaL.pr (hp.mono fun v k h => h.same (tu_new nq)))) (hD1.new nq) (f1.trans (Fr.new nq))
theorem sc_law_house : FnScope ["_law_dice_here", "_law_way", "_law_size_here", "_law_names", "_law_name"] ["_law_dice_here"] (defScope s_law_house) := ⟨rfl, rfl, rfl, by decide +kernel, rfl, by decide +kernel, by decide +kernel⟩
-- 0 _law_dice_here, 1 _law_way, 2 _law_size_here, 3 _law_names, 4 _law_name
theorem ok_law_house {f : Addr} {fd : FuncData} (F : FunD K "_law_house" "_law_house" (defArgs s_law_house) (defBody s_law_house) (defScope s_law_house) [] [] f fd) (B : Blt mg) (Z : Con mg) (GL : GcdF mg) {CG : Addr} (IG : IFC K mg "InvalidGame" CG) (C_law_roll : Cal P w K mg base 1 "_law_roll" ["_law_dice_here", "_law_total"] spRoll) (C_law_known_house : Cal P w K mg base 3 "_law_known_house" ["_law_dice_here"] spHouse) (C_law_pick : Cal P w K mg base 2 "_law_pick" ["_law_dice_here", "_law_items"] (spPick K)) (C_law_some : Cal P w K mg base 2 "_law_some" ["_law_dice_here", "_law_items", "_law_size_here"] (spSomeP K)) (C_law_game : Cal P w K mg base 5 "_law_game" ["_law_dice_here", "_law_size_here"] spLGame) : FnOk P w K mg base CX0 6 f fd ["_law_dice_here"] spHouse := by
  refine F.ok sc_law_house (fun vs H Q E h => ?_) (fun cdv A outer s H vs Q E hr h => ?_)
  · obtain ⟨d, rfl, _⟩ := h
    rfl
  · obtain ⟨d, rfl, hD, k⟩ := h
    refine ⟨_, PSs.nox (pss_cons (ps_set (i := 1) sc_law_house.nd rfl (Or.inl rfl) (pe_fn C_law_roll (hr.mono (by decide)) (by rfl) (pa_cons (pv 0) (pa_cons pe_int pa_nil)))) (pss_cons (ps_if (pt_cmpR op_eq (pv 1) pe_int (nomark _)) (pss_one (ps_ret (pe_fn C_law_known_house (hr.mono (by decide)) (by rfl) (pa_cons (pv 0) pa_nil)))) pss_nil) (pss_cons (ps_set (i := 2) sc_law_house.nd rfl (Or.inr rfl) (pe_fn C_law_pick (hr.mono (by decide)) (by rfl) (pa_cons (pv 0) (pa_cons (pe_lst (pa_cons pe_int (pa_cons pe_int (pa_cons pe_int (pa_cons pe_int (pa_cons pe_int (pa_cons pe_int pa_nil))))))) pa_nil)))) (pss_cons (ps_set (i := 3) sc_law_house.nd rfl (Or.inl rfl) (pe_callB (c_sortedS (K := K)) (by rfl) B.n_sorted (by decide +kernel) (pa_cons (pe_fn C_law_some (hr.mono (by decide)) (by rfl) (pa_cons (pv 0) (pa_cons (pe_lst (pa_cons pe_str (pa_cons pe_str (pa_cons pe_str (pa_cons pe_str (pa_cons pe_str (pa_cons pe_str (pa_cons pe_str pa_nil)))))))) (pa_cons (pe_fn C_law_pick (hr.mono (by decide)) (by rfl) (pa_cons (pv 0) (pa_cons (pe_lst (pa_cons pe_int (pa_cons pe_int (pa_cons pe_int (pa_cons pe_int pa_nil))))) pa_nil))) pa_nil)))) pa_nil))) (pss_one (ps_ret (pe_callTy (c_dictP (K := K) rfl) (by rfl) B.n_dict (by decide +kernel) (pa_cons (pe_lc (own := [("_law_name", 4)]) (g := gName 4) (tt := tYes) rfl sc_law_house.nd (w_list (K := K) (pv 3)) (blkOk_by (own := [("_law_name", 4)]) (N := ["_law_dice_here", "_law_way", "_law_size_here", "_law_names", "_law_name"]) (sc := defScope s_law_house) (by decide +kernel)) (fun _ _ _ _ _ => pg_name (i := 4) sc_law_house.nd rfl (Or.inl rfl)) (fun _ _ _ _ _ => pts_nil) (fun _ _ _ _ _ => (pe_tup (pa_cons (pv 4) (pa_cons (pe_fn C_law_game (hr.mono (by decide)) (by rfl) (pa_cons (pv 0) (pa_cons (pv 2) pa_nil))) pa_nil))))) pa_nil)))))))), ?_⟩
    walk_at "yy"
    refine ⟨d, 7, rfl, hD, by decide, by decide +kernel, fun way H1 w0 w1 hD1 f1 => ?_⟩
    walk_at "yy"
    refine y_ite (fun hw => ?_) (fun hw => ?_)
    · walk_at "yy"
      exact ⟨d, rfl, hD1, fun v hs H2 ok hv hD2 f2 => k v hs H2 ok hv hD2 (f1.trans f2)⟩
    · walk_at "yy"
      refine ⟨by show 6 ≤ sizeLine; decide, fun z nz => ?_⟩
      have hD2 := hD1.new (o := .lst [.int 1, .int 2, .int 2, .int 2, .int 3, .int 3]) nz
      have nzd : z ≠ d := hD1.ne nz
      have f2 := f1.trans (Fr.new (d := d) (o := .lst [.int 1, .int 2, .int 2, .int 2, .int 3, .int 3]) nz)
      have ez : (upd H1 z (.lst [.int 1, .int 2, .int 2, .int 2, .int 3, .int 3])) z = some (.lst [.int 1, .int 2, .int 2, .int 2, .int 3, .int 3]) := upd_same
      generalize upd H1 z (.lst [.int 1, .int 2, .int 2, .int 2, .int 3, .int 3]) = H2 at hD2 f2 ez ⊢
      walk_at "yy"
      refine ⟨d, z, _, rfl, hD2, sql ez, nzd, by simp, by simp, fun v H3 mv hD3 f3 => ?_⟩
      obtain ⟨n, rfl, n1, n3⟩ : ∃ m : Nat, v = .int m ∧ 1 ≤ m ∧ m ≤ 3 := by
        simp only [List.mem_cons, List.not_mem_nil, or_false] at mv
        rcases mv with rfl | rfl | rfl | rfl | rfl | rfl
        · exact ⟨1, rfl, by decide, by decide⟩
        · exact ⟨2, rfl, by decide, by decide⟩
        · exact ⟨2, rfl, by decide, by decide⟩
        · exact ⟨2, rfl, by decide, by decide⟩
        · exact ⟨3, rfl, by decide, by decide⟩
        · exact ⟨3, rfl, by decide, by decide⟩
      clear mv ez nz
      walk_at "yy"
      refine ⟨by show 7 ≤ sizeLine; decide, fun x nx => ?_⟩
      have hD4 := hD3.new (o := .lst (houseNames.map V.str)) nx
      have nxd : x ≠ d := hD3.ne nx
      have f4 := (f2.trans f3).trans (Fr.new (d := d) (o := .lst (houseNames.map V.str)) nx)
      have ex : (upd H3 x (.lst (houseNames.map V.str))) x = some (.lst (houseNames.map V.str)) := upd_same
      show tCons _ _ _ (upd H3 x (.lst (houseNames.map V.str))) _
      generalize upd H3 x (.lst (houseNames.map V.str)) = H4 at hD4 f4 ex ⊢
      walk_at "yy"
      refine ⟨by show 4 ≤ sizeLine; decide, fun y ny => ?_⟩
      have hD5 := hD4.new (o := .lst [.int 1, .int 2, .int 2, .int 3]) ny
      have nyd : y ≠ d := hD4.ne ny
      have s5 := same_new (o := .lst [.int 1, .int 2, .int 2, .int 3]) ny
      have ey : (upd H4 y (.lst [.int 1, .int 2, .int 2, .int 3])) y = some (.lst [.int 1, .int 2, .int 2, .int 3]) := upd_same
      generalize upd H4 y (.lst [.int 1, .int 2, .int 2, .int 3]) = H5 at hD5 s5 ey ⊢
      walk_at "yy"
      refine ⟨d, y, _, rfl, hD5, sql ey, nyd, by simp, by simp, fun v H6 mv hD6 f6 => ?_⟩
      obtain ⟨m, rfl, m1, m3⟩ : ∃ m : Nat, v = .int m ∧ 1 ≤ m ∧ m ≤ 3 := by
        simp only [List.mem_cons, List.not_mem_nil, or_false] at mv
        rcases mv with rfl | rfl | rfl | rfl
        · exact ⟨1, rfl, by decide, by decide⟩
        · exact ⟨2, rfl, by decide, by decide⟩
        · exact ⟨2, rfl, by decide, by decide⟩
        · exact ⟨3, rfl, by decide, by decide⟩
      have f06 := f4.trans ((Fr.of_same s5).trans f6)
      have ex6 := f6 _ _ (s5 _ _ ex) nxd
      clear mv ey ny ex s5 f6 f4
      walk_at "yy"
      refine ⟨d, x, houseNames.map V.str, m, rfl, hD6, sql ex6, nxd, by simp [houseNames], by omega, by omega, fun p us rest H7 hper hlen hD7 f7 np ep => ?_⟩
      have hus : us.length = m := by rw [hlen, Int.toNat_natCast]; simp [houseNames]; omega
      obtain ⟨ss0, pS, pmS⟩ := pr_perm hper (str_paired houseNames)
      obtain ⟨ss, s2, rfl, pU, _⟩ := pr_split pS
      have eU := str_back pU
      subst eU
      have ndS : ss.Nodup := (List.nodup_append.mp (pmS.nodup_iff.mpr (by decide +kernel))).1
      have lss : ss.length = m := by rw [← hus, List.length_map]
      have npd : p ≠ d := hD6.ne np
      walk_at "yy"
      refine ⟨p, ss, rfl, sql ep, by omega, fun ys q pmY _ nq => ?_⟩
      have hD8 := hD7.new (o := .lst (ys.map V.str)) nq
      have nqd : q ≠ d := hD7.ne nq
      have f8 := (f06.trans f7).trans (Fr.new (d := d) (o := .lst (ys.map V.str)) nq)
      have eq : (upd H7 q (.lst (ys.map V.str))) q = some (.lst (ys.map V.str)) := upd_same
      have lys : ys.length = m := by rw [pmY.length_eq, lss]
      have ndY : ys.Nodup := pmY.nodup_iff.mpr ndS
      generalize upd H7 q (.lst (ys.map V.str)) = H8 at hD8 f8 eq ⊢
      walk_at "yy"
      refine ⟨q, rfl, ⟨_, sql eq⟩, fun D nD => lc_list (K := K) (a := q) (xs := ys.map V.str) (fun j G => ∃ acc hs, G D = some (.lst (acc.map V.ref)) ∧ Paired (fun t (g : Str × Gm) => ∃ w, tu G t = some (.tup [.str g.1, w]) ∧ Da (tu G) w (gmD g.2)) acc hs ∧ hs.map (·.1) = ys.take j ∧ (∀ g ∈ hs, GmOk n g.2) ∧ DiceAt G d ∧ Fr d H8 G) ⟨[], [], upd_same, .nil, rfl, fun _ h => (nomatch h), hD8.new nD, Fr.new nD⟩ (fun j G _ h => ?_) ?_ ?_⟩
      · obtain ⟨_, _, _, _, _, _, _, f⟩ := h
        exact sql (f _ _ eq nqd)
      · rintro j s0 G ej ⟨acc, hs, eD, hp, hn, hok, hD9, f9⟩
        rw [List.getElem?_map] at ej
        obtain ⟨nm, enm, rfl⟩ := Option.map_eq_some_iff.mp ej
        have nDd : D ≠ d := hD8.ne nD
        walk_at "yy"
        refine ⟨rfl, ?_⟩
        walk_at "yy"
        walk_at "yt"
        walk_at "yy"
        refine ⟨d, n, rfl, hD9, n1, n3, fun v g H10 ok hv hD10 f10 => ?_⟩
        walk_at "yy"
        refine ⟨by show 2 ≤ sizeLine; decide, fun t nt => ?_⟩
        have s11 := same_new (o := .tup [.str nm, v]) nt
        have et : (upd H10 t (.tup [.str nm, v])) t = some (.tup [.str nm, v]) := upd_same
        have hD11 := hD10.same s11
        generalize upd H10 t (.tup [.str nm, v]) = H11 at s11 et hD11 ⊢
        have eD11 := s11 _ _ (f10 _ _ eD nDd)
        have st := (tu_fr f10 hD9).trans ((tu_same s11).trans (tu_mut (o := .lst (acc.map V.ref ++ [.ref t])) eD11))
        have st2 := (tu_same s11).trans (tu_mut (o := .lst (acc.map V.ref ++ [.ref t])) eD11)
        refine ⟨_, eD11, sz_lt ?_, acc ++ [t], hs ++ [(nm, g)], by rw [upd_same, List.map_append]; rfl, ?_, ?_, ?_, hD11.mut nDd, ((f9.trans f10).trans (Fr.of_same s11)).mut nD⟩
        · have q1 : (hs.map (·.1)).length = (ys.take j).length := by rw [hn]
          rw [List.length_map, List.length_take] at q1
          rw [List.length_map, hp.length]
          omega
        · refine Paired.snoc (hp.mono fun v k ⟨w, h1, h2⟩ => ⟨w, st _ _ h1, h2.same st⟩) ⟨v, ?_, hv.same st2⟩
          exact tu_mut eD11 _ _ (tu_at et)
        · rw [List.map_append, hn, List.take_add_one, enm]
          rfl
        · intro x mx
          rcases List.mem_append.mp mx with mx | mx
          · exact hok x mx
          · rw [List.mem_singleton.mp mx]
            exact ok
      · rintro G ⟨acc, hs, eD, hp, hn, hok, hD9, f9⟩
        rw [List.length_map, List.take_length] at hn
        have lh : hs.length = m := by rw [← lys, ← hn, List.length_map]
        obtain ⟨kvs, h1, h2⟩ : ∃ kvs : List (Key × V), Paired (fun p kv => SqT K G p [kV kv.1, kv.2]) acc kvs ∧ Paired (fun (kv : Key × V) (g : Str × Gm) => kv.1 = Sum.inr g.1 ∧ Da (tu G) kv.2 (gmD g.2)) kvs hs := by
          clear hn hok lh eD
          induction hp with
          | nil => exact ⟨[], .nil, .nil⟩
          | cons h _ ih =>
            obtain ⟨w, e, hw⟩ := h
            obtain ⟨kvs, q1, q2⟩ := ih
            exact ⟨(Sum.inr _, w) :: kvs, .cons (sqt (tu_sub _ _ e)) q1, .cons ⟨rfl, hw⟩ q2⟩
        have hnd : (hs.map (·.1)).Nodup := by rw [hn]; exact ndY
        walk_at "yy"
        refine ⟨D, acc, kvs, rfl, sql eD, h1, fun o no => ?_⟩
        rw [hou_merge h2 hnd]
        exact k _ hs _ ⟨by omega, by omega, hnd, n, n1, n3, hok⟩ ⟨o, kvs, rfl, upd_same, h2.mono fun a b q => ⟨q.1, q.2.same (tu_new no)⟩⟩ (hD9.new no) ((f8.trans f9).trans (Fr.new no))
theorem sc_law_known_house : FnScope ["_law_dice_here", "_law_one", "_law_half", "_law_swap", "_law_stay", "_law_up", "_law_down", "_law_see", "_law_rise", "_law_low", "_law_high", "_law_rests", "_law_fair", "_law_found"] ["_law_dice_here"] (defScope s_law_known_house) := ⟨rfl, rfl, rfl, by decide +kernel, rfl, by decide +kernel, by decide +kernel⟩
-- 0 _law_dice_here, 1 _law_one, 2 _law_half, 3 _law_swap, 4 _law_stay, 5 _law_up, 6 _law_down, 7 _law_see, 8 _law_rise, 9 _law_low, 10 _law_high, 11 _law_rests, 12 _law_fair, 13 _law_found
theorem ok_law_known_house {f : Addr} {fd : FuncData} (F : FunD K "_law_known_house" "_law_known_house" (defArgs s_law_known_house) (defBody s_law_known_house) (defScope s_law_known_house) [] [] f fd) (B : Blt mg) (Z : Con mg) (GL : GcdF mg) {CG : Addr} (IG : IFC K mg "InvalidGame" CG) (C_law_pick : Cal P w K mg base 2 "_law_pick" ["_law_dice_here", "_law_items"] (spPick K)) : FnOk P w K mg base CX0 3 f fd ["_law_dice_here"] spHouse := by
  refine F.ok sc_law_known_house (fun vs H Q E h => ?_) (fun cdv A outer s H vs Q E hr h => ?_)
  · obtain ⟨d, rfl, _⟩ := h
    rfl
  · obtain ⟨d, rfl, hD, k⟩ := h
    refine ⟨_, PSs.nox (pss_cons (ps_asg (pe_tup (pa_cons (pe_tup (pa_cons pe_int (pa_cons pe_int pa_nil))) (pa_cons (pe_tup (pa_cons pe_int (pa_cons pe_int pa_nil))) pa_nil))) (g_tup (K := K) (n := 2) (by rfl) (pgs_cons (pg_name (i := 1) sc_law_known_house.nd rfl (Or.inl rfl)) (pgs_cons (pg_name (i := 2) sc_law_known_house.nd rfl (Or.inl rfl)) pgs_nil)))) (pss_cons (ps_set (i := 3) sc_law_known_house.nd rfl (Or.inl rfl) (pe_disp (pps_cons pe_str (pe_tup (pa_cons (pe_tup (pa_cons (pe_tup (pa_cons pe_int (pa_cons pe_int (pa_cons (pv 1) pa_nil)))) pa_nil)) (pa_cons (pe_tup (pa_cons (pe_tup (pa_cons pe_int (pa_cons (pe_un un_neg pe_int) (pa_cons (pv 1) pa_nil)))) pa_nil)) pa_nil))) (pps_cons pe_str (pe_tup (pa_cons (pe_tup (pa_cons (pe_tup (pa_cons pe_int (pa_cons pe_int (pa_cons (pv 1) pa_nil)))) pa_nil)) (pa_cons (pe_tup (pa_cons (pe_tup (pa_cons pe_int (pa_cons pe_int (pa_cons (pv 1) pa_nil)))) pa_nil)) pa_nil))) pps_nil)) (by rfl) (by rfl) (fun z => by cases z) (by decide))) (pss_cons (ps_set (i := 4) sc_law_known_house.nd rfl (Or.inl rfl) (pe_disp (pps_cons pe_str (pe_tup (pa_cons (pe_tup (pa_cons (pe_tup (pa_cons pe_int (pa_cons pe_int (pa_cons (pv 1) pa_nil)))) pa_nil)) (pa_cons (pe_tup (pa_cons (pe_tup (pa_cons pe_int (pa_cons pe_int (pa_cons (pv 1) pa_nil)))) pa_nil)) pa_nil))) (pps_cons pe_str (pe_tup (pa_cons (pe_tup (pa_cons (pe_tup (pa_cons pe_int (pa_cons pe_int (pa_cons (pv 1) pa_nil)))) pa_nil)) (pa_cons (pe_tup (pa_cons (pe_tup (pa_cons pe_int (pa_cons (pe_un un_neg pe_int) (pa_cons (pv 1) pa_nil)))) pa_nil)) pa_nil))) pps_nil)) (by rfl) (by rfl) (fun z => by cases z) (by decide))) (pss_cons (ps_par (i := 5) (j := 6) (by rfl) sc_law_known_house.nd rfl rfl (by decide) rfl rfl (pa_cons (pe_tup (pa_cons (pe_tup (pa_cons pe_int (pa_cons pe_int (pa_cons (pv 2) pa_nil)))) (pa_cons (pe_tup (pa_cons pe_int (pa_cons pe_int (pa_cons (pv 2) pa_nil)))) pa_nil))) (pa_cons (pe_tup (pa_cons (pe_tup (pa_cons pe_int (pa_cons (pe_un un_neg pe_int) (pa_cons (pv 2) pa_nil)))) (pa_cons (pe_tup (pa_cons pe_int (pa_cons (pe_un un_neg pe_int) (pa_cons (pv 2) pa_nil)))) pa_nil))) pa_nil)) (by rfl)) (pss_cons (ps_set (i := 7) sc_law_known_house.nd rfl (Or.inl rfl) (pe_disp (pps_cons pe_str (pe_tup (pa_cons (pv 5) (pa_cons (pv 6) pa_nil))) (pps_cons pe_str (pe_tup (pa_cons (pv 6) (pa_cons (pv 5) pa_nil))) pps_nil)) (by rfl) (by rfl) (fun z => by cases z) (by decide))) (pss_cons (ps_set (i := 8) sc_law_known_house.nd rfl (Or.inl rfl) (pe_disp (pps_cons pe_str (pe_tup (pa_cons (pe_tup (pa_cons (pe_tup (pa_cons pe_int (pa_cons (pe_un un_neg pe_int) (pa_cons (pv 2) pa_nil)))) (pa_cons (pe_tup (pa_cons pe_int (pa_cons pe_int (pa_cons (pv 2) pa_nil)))) pa_nil))) pa_nil)) (pps_cons pe_str (pe_tup (pa_cons (pe_tup (pa_cons (pe_tup (pa_cons pe_int (pa_cons (pe_un un_neg pe_int) (pa_cons (pe_tup (pa_cons pe_int (pa_cons pe_int pa_nil))) pa_nil)))) (pa_cons (pe_tup (pa_cons pe_int (pa_cons pe_int (pa_cons (pe_tup (pa_cons pe_int (pa_cons pe_int pa_nil))) pa_nil)))) pa_nil))) pa_nil)) pps_nil)) (by rfl) (by rfl) (fun z => by cases z) (by decide))) (pss_cons (ps_asg (pe_tup (pa_cons (pe_tup (pa_cons pe_int (pa_cons pe_int pa_nil))) (pa_cons (pe_tup (pa_cons pe_int (pa_cons pe_int pa_nil))) pa_nil))) (g_tup (K := K) (n := 2) (by rfl) (pgs_cons (pg_name (i := 9) sc_law_known_house.nd rfl (Or.inl rfl)) (pgs_cons (pg_name (i := 10) sc_law_known_house.nd rfl (Or.inl rfl)) pgs_nil)))) (pss_cons (ps_set (i := 11) sc_law_known_house.nd rfl (Or.inl rfl) (pe_tup (pa_cons (pe_tup (pa_cons (pe_tup (pa_cons pe_int (pa_cons pe_int (pa_cons (pv 9) pa_nil)))) (pa_cons (pe_tup (pa_cons pe_int (pa_cons (pe_un un_neg pe_int) (pa_cons (pv 10) pa_nil)))) pa_nil))) (pa_cons (pe_tup (pa_cons (pe_tup (pa_cons pe_int (pa_cons (pe_un un_neg pe_int) (pa_cons (pv 9) pa_nil)))) (pa_cons (pe_tup (pa_cons pe_int (pa_cons pe_int (pa_cons (pv 10) pa_nil)))) pa_nil))) (pa_cons (pe_tup (pa_cons (pe_tup (pa_cons pe_int (pa_cons pe_int (pa_cons (pv 10) pa_nil)))) (pa_cons (pe_tup (pa_cons pe_int (pa_cons (pe_un un_neg pe_int) (pa_cons (pv 9) pa_nil)))) pa_nil))) pa_nil))))) (pss_cons (ps_set (i := 12) sc_law_known_house.nd rfl (Or.inl rfl) (pe_tup (pa_cons (pe_tup (pa_cons (pe_tup (pa_cons pe_int (pa_cons pe_int (pa_cons (pv 2) pa_nil)))) (pa_cons (pe_tup (pa_cons pe_int (pa_cons (pe_un un_neg pe_int) (pa_cons (pv 2) pa_nil)))) pa_nil))) (pa_cons (pe_tup (pa_cons (pe_tup (pa_cons pe_int (pa_cons (pe_un un_neg pe_int) (pa_cons (pv 2) pa_nil)))) (pa_cons (pe_tup (pa_cons pe_int (pa_cons pe_int (pa_cons (pv 2) pa_nil)))) pa_nil))) (pa_cons (pe_tup (pa_cons (pe_tup (pa_cons pe_int (pa_cons pe_int (pa_cons (pv 2) pa_nil)))) (pa_cons (pe_tup (pa_cons pe_int (pa_cons (pe_un un_neg pe_int) (pa_cons (pv 2) pa_nil)))) pa_nil))) pa_nil))))) (pss_cons (ps_set (i := 13) sc_law_known_house.nd rfl (Or.inl rfl) (pe_fn C_law_pick (hr.mono (by decide)) (by rfl) (pa_cons (pv 0) (pa_cons (pe_lst (pa_cons (pv 3) (pa_cons (pv 4) (pa_cons (pv 7) (pa_cons (pv 8) (pa_cons (pe_disp (pps_cons pe_str (pv 12) (pps_cons pe_str (pv 11) pps_nil)) (by rfl) (by rfl) (fun z => by cases z) (by decide)) pa_nil)))))) pa_nil)))) (pss_one (ps_ret (pe_callTy (c_dictP (K := K) rfl) (by rfl) B.n_dict (by decide +kernel) (pa_cons (LiI.pe_listItems rfl (pv 13) (by rfl) B.n_list (by decide +kernel)) pa_nil)))))))))))))), ?_⟩
    have s0 : Same H H := Same.refl H
    refine y_seq (y_asg ?_)
    refine DaE.use (d := d) (x := .tuple [frD (1, 1), frD (1, 2)]) (by repeat' first | exact dae_int | exact dae_str | exact dae_non | exact dae_bl | exact dae_neg | exact daa_nil | exact dae_var rfl (by assumption) | refine daa_cons ?_ ?_ | refine dae_tup hD (by decide) ?_ | refine dae_lst hD (by decide) ?_) fun v1 H1 s1 q1 => ?_
    replace hD := hD.same s1
    replace s0 := s0.trans s1
    cases q1 with
    | tup e1 q1 =>
    cases q1 with
    | cons dOne q1 =>
    cases q1 with
    | cons dHalf q1 =>
    cases q1
    refine y_gtup rfl (sqt (sans_sub _ _ e1)) rfl ?_
    refine y_gcons (y_name (y_gcons (y_name (y_gnil ?_))))
    refine y_seq (y_asg ?_)
    refine dis2 (d := d) [[((1, 1), (1, 1))], [((0, -1), (1, 1))]] [[((0, 0), (1, 1))], [((0, 0), (1, 1))]] (by decide +kernel) (by repeat' first | exact dae_int | exact dae_str | exact dae_non | exact dae_bl | exact dae_neg | exact daa_nil | exact dae_var rfl (by assumption) | refine daa_cons ?_ ?_ | refine dae_tup hD (by decide) ?_ | refine dae_lst hD (by decide) ?_) (by repeat' first | exact dae_int | exact dae_str | exact dae_non | exact dae_bl | exact dae_neg | exact daa_nil | exact dae_var rfl (by assumption) | refine daa_cons ?_ ?_ | refine dae_tup hD (by decide) ?_ | refine dae_lst hD (by decide) ?_) fun v2 H2 s2 uSwap => ?_
    replace hD := hD.same s2
    replace s0 := s0.trans s2
    replace dOne := dOne.same (sans_mono s2)
    replace dHalf := dHalf.same (sans_mono s2)
    refine y_name ?_
    refine y_seq (y_asg ?_)
    refine dis2 (d := d) [[((1, 0), (1, 1))], [((0, 0), (1, 1))]] [[((0, 1), (1, 1))], [((1, -1), (1, 1))]] (by decide +kernel) (by repeat' first | exact dae_int | exact dae_str | exact dae_non | exact dae_bl | exact dae_neg | exact daa_nil | exact dae_var rfl (by assumption) | refine daa_cons ?_ ?_ | refine dae_tup hD (by decide) ?_ | refine dae_lst hD (by decide) ?_) (by repeat' first | exact dae_int | exact dae_str | exact dae_non | exact dae_bl | exact dae_neg | exact daa_nil | exact dae_var rfl (by assumption) | refine daa_cons ?_ ?_ | refine dae_tup hD (by decide) ?_ | refine dae_lst hD (by decide) ?_) fun v3 H3 s3 uStay => ?_
    replace hD := hD.same s3
    replace s0 := s0.trans s3
    replace dOne := dOne.same (sans_mono s3)
    replace dHalf := dHalf.same (sans_mono s3)
    replace uSwap := uSwap.same s3
    refine y_name ?_
    refine y_seq (y_par ?_)
    refine y_cons ?_
    refine DaE.use (d := d) (x := msD mUp) (by repeat' first | exact dae_int | exact dae_str | exact dae_non | exact dae_bl | exact dae_neg | exact daa_nil | exact dae_var rfl (by assumption) | refine daa_cons ?_ ?_ | refine dae_tup hD (by decide) ?_ | refine dae_lst hD (by decide) ?_) fun v4 H4 s4 dUp => ?_
    replace hD := hD.same s4
    replace s0 := s0.trans s4
    replace dOne := dOne.same (sans_mono s4)
    replace dHalf := dHalf.same (sans_mono s4)
    replace uSwap := uSwap.same s4
    replace uStay := uStay.same s4
    refine y_cons ?_
    refine DaE.use (d := d) (x := msD mDown) (by repeat' first | exact dae_int | exact dae_str | exact dae_non | exact dae_bl | exact dae_neg | exact daa_nil | exact dae_var rfl (by assumption) | refine daa_cons ?_ ?_ | refine dae_tup hD (by decide) ?_ | refine dae_lst hD (by decide) ?_) fun v5 H5 s5 dDown => ?_
    replace hD := hD.same s5
    replace s0 := s0.trans s5
    replace dOne := dOne.same (sans_mono s5)
    replace dHalf := dHalf.same (sans_mono s5)
    replace dUp := dUp.same (sans_mono s5)
    replace uSwap := uSwap.same s5
    replace uStay := uStay.same s5
    refine y_nil (y_par2 ?_)
    refine y_seq (y_asg ?_)
    refine dis2 (d := d) [mUp, mDown] [mDown, mUp] (by decide +kernel) (by repeat' first | exact dae_int | exact dae_str | exact dae_non | exact dae_bl | exact dae_neg | exact daa_nil | exact dae_var rfl (by assumption) | refine daa_cons ?_ ?_ | refine dae_tup hD (by decide) ?_ | refine dae_lst hD (by decide) ?_) (by repeat' first | exact dae_int | exact dae_str | exact dae_non | exact dae_bl | exact dae_neg | exact daa_nil | exact dae_var rfl (by assumption) | refine daa_cons ?_ ?_ | refine dae_tup hD (by decide) ?_ | refine dae_lst hD (by decide) ?_) fun v6 H6 s6 uSee => ?_
    replace hD := hD.same s6
    replace s0 := s0.trans s6
    replace dOne := dOne.same (sans_mono s6)
    replace dHalf := dHalf.same (sans_mono s6)
    replace dUp := dUp.same (sans_mono s6)
    replace dDown := dDown.same (sans_mono s6)
    replace uSwap := uSwap.same s6
    replace uStay := uStay.same s6
    refine y_name ?_
    refine y_seq (y_asg ?_)
    refine dis2 (d := d) [[((0, -1), (1, 2)), ((0, 1), (1, 2))]] [[((0, -1), (2, 3)), ((0, 1), (1, 3))]] (by decide +kernel) (by repeat' first | exact dae_int | exact dae_str | exact dae_non | exact dae_bl | exact dae_neg | exact daa_nil | exact dae_var rfl (by assumption) | refine daa_cons ?_ ?_ | refine dae_tup hD (by decide) ?_ | refine dae_lst hD (by decide) ?_) (by repeat' first | exact dae_int | exact dae_str | exact dae_non | exact dae_bl | exact dae_neg | exact daa_nil | exact dae_var rfl (by assumption) | refine daa_cons ?_ ?_ | refine dae_tup hD (by decide) ?_ | refine dae_lst hD (by decide) ?_) fun v7 H7 s7 uRise => ?_
    replace hD := hD.same s7
    replace s0 := s0.trans s7
    replace dOne := dOne.same (sans_mono s7)
    replace dHalf := dHalf.same (sans_mono s7)
    replace dUp := dUp.same (sans_mono s7)
    replace dDown := dDown.same (sans_mono s7)
    replace uSwap := uSwap.same s7
    replace uStay := uStay.same s7
    replace uSee := uSee.same s7
    refine y_name ?_
    refine y_seq (y_asg ?_)
    refine DaE.use (d := d) (x := .tuple [frD (1, 4), frD (3, 4)]) (by repeat' first | exact dae_int | exact dae_str | exact dae_non | exact dae_bl | exact dae_neg | exact daa_nil | exact dae_var rfl (by assumption) | refine daa_cons ?_ ?_ | refine dae_tup hD (by decide) ?_ | refine dae_lst hD (by decide) ?_) fun v8 H8 s8 q8 => ?_
    replace hD := hD.same s8
    replace s0 := s0.trans s8
    replace dOne := dOne.same (sans_mono s8)
    replace dHalf := dHalf.same (sans_mono s8)
    replace dUp := dUp.same (sans_mono s8)
    replace dDown := dDown.same (sans_mono s8)
    replace uSwap := uSwap.same s8
    replace uStay := uStay.same s8
    replace uSee := uSee.same s8
    replace uRise := uRise.same s8
    cases q8 with
    | tup e8 q8 =>
    cases q8 with
    | cons dLow q8 =>
    cases q8 with
    | cons dHigh q8 =>
    cases q8
    refine y_gtup rfl (sqt (sans_sub _ _ e8)) rfl ?_
    refine y_gcons (y_name (y_gcons (y_name (y_gnil ?_))))
    refine y_seq (y_asg ?_)
    refine DaE.use (d := d) (x := gmD gRests) (by repeat' first | exact dae_int | exact dae_str | exact dae_non | exact dae_bl | exact dae_neg | exact daa_nil | exact dae_var rfl (by assumption) | refine daa_cons ?_ ?_ | refine dae_tup hD (by decide) ?_ | refine dae_lst hD (by decide) ?_) fun v9 H9 s9 dRests => ?_
    replace hD := hD.same s9
    replace s0 := s0.trans s9
    replace dOne := dOne.same (sans_mono s9)
    replace dHalf := dHalf.same (sans_mono s9)
    replace dUp := dUp.same (sans_mono s9)
    replace dDown := dDown.same (sans_mono s9)
    replace dLow := dLow.same (sans_mono s9)
    replace dHigh := dHigh.same (sans_mono s9)
    replace uSwap := uSwap.same s9
    replace uStay := uStay.same s9
    replace uSee := uSee.same s9
    replace uRise := uRise.same s9
    refine y_name ?_
    refine y_seq (y_asg ?_)
    refine DaE.use (d := d) (x := gmD gFair) (by repeat' first | exact dae_int | exact dae_str | exact dae_non | exact dae_bl | exact dae_neg | exact daa_nil | exact dae_var rfl (by assumption) | refine daa_cons ?_ ?_ | refine dae_tup hD (by decide) ?_ | refine dae_lst hD (by decide) ?_) fun v10 H10 s10 dFair => ?_
    replace hD := hD.same s10
    replace s0 := s0.trans s10
    replace dOne := dOne.same (sans_mono s10)
    replace dHalf := dHalf.same (sans_mono s10)
    replace dUp := dUp.same (sans_mono s10)
    replace dDown := dDown.same (sans_mono s10)
    replace dLow := dLow.same (sans_mono s10)
    replace dHigh := dHigh.same (sans_mono s10)
    replace dRests := dRests.same (sans_mono s10)
    replace uSwap := uSwap.same s10
    replace uStay := uStay.same s10
    replace uSee := uSee.same s10
    replace uRise := uRise.same s10
    refine y_name ?_
    walk_at "yy"
    refine dis2 (d := d) gFair gRests (by decide +kernel) (by repeat' first | exact dae_int | exact dae_str | exact dae_non | exact dae_bl | exact dae_neg | exact daa_nil | exact dae_var rfl (by assumption) | refine daa_cons ?_ ?_ | refine dae_tup hD (by decide) ?_ | refine dae_lst hD (by decide) ?_) (by repeat' first | exact dae_int | exact dae_str | exact dae_non | exact dae_bl | exact dae_neg | exact daa_nil | exact dae_var rfl (by assumption) | refine daa_cons ?_ ?_ | refine dae_tup hD (by decide) ?_ | refine dae_lst hD (by decide) ?_) fun v11 H11 s11 uThree => ?_
    replace hD := hD.same s11
    replace s0 := s0.trans s11
    replace uSwap := uSwap.same s11
    replace uStay := uStay.same s11
    replace uSee := uSee.same s11
    replace uRise := uRise.same s11
    walk_at "yy"
    refine ⟨by show 5 ≤ sizeLine; decide, fun p np => ?_⟩
    have s12 := same_new (o := .lst [v2, v3, v6, v7, v11]) np
    have ep : (upd H11 p (.lst [v2, v3, v6, v7, v11])) p = some (.lst [v2, v3, v6, v7, v11]) := upd_same
    have npd : p ≠ d := hD.ne np
    have all : ∀ v ∈ [v2, v3, v6, v7, v11], ∃ hs, HsOk hs ∧ HouAt H11 v hs := by
      intro v mv
      simp only [List.mem_cons, List.not_mem_nil, or_false] at mv
      obtain ⟨k1, k2, k3, k4, k5⟩ := known_ok
      rcases mv with rfl | rfl | rfl | rfl | rfl
      · exact ⟨_, k1, uSwap⟩
      · exact ⟨_, k2, uStay⟩
      · exact ⟨_, k3, uSee⟩
      · exact ⟨_, k4, uRise⟩
      · exact ⟨_, k5, uThree⟩
    generalize upd H11 p (.lst [v2, v3, v6, v7, v11]) = H12 at s12 ep ⊢
    replace s0 := s0.trans s12
    replace hD := hD.same s12
    clear uSwap uStay uSee uRise uThree
    walk_at "yy"
    refine ⟨d, p, _, rfl, hD, sql ep, npd, by simp, by simp, fun v H13 mv hD13 f13 => ?_⟩
    obtain ⟨hs, ok, hv⟩ := all v mv
    have hv := (hv.same s12).fr f13 hD
    clear all
    obtain ⟨o, kvs, rfl, eo, pr⟩ := hv
    walk_at "yy"
    refine y_var (v := .ref o) rfl ?_
    refine ⟨o, kvs, rfl, eo, fun H14 q ts s14 nq nts _ eq pts => ?_⟩
    have s14 : Same H13 H14 := s14
    refine ⟨q, ts, kvs, rfl, sql eq, pts.mono fun a b z => sqt z, fun r nr => ?_⟩
    rw [hou_merge pr ok.nd]
    exact k _ hs _ ok ⟨r, kvs, rfl, upd_same, pr.mono fun a b z => ⟨z.1, z.2.same ((tu_same s14).trans (tu_new nr))⟩⟩ (hD13.same (s14.trans (same_new nr))) ((Fr.of_same s0).trans (f13.trans (Fr.of_same (s14.trans (same_new nr)))))
theorem sc_law_ratio : FnScope ["_law_top", "_law_bottom", "_law_one", "_law_other", "_law_sign"] ["_law_top", "_law_bottom"] (defScope s_law_ratio) := ⟨rfl, rfl, rfl, by decide +kernel, rfl, by decide +kernel, by decide +kernel⟩
-- 0 _law_top, 1 _law_bottom, 2 _law_one, 3 _law_other, 4 _law_sign
theorem ok_law_ratio {f : Addr} {fd : FuncData} (F : FunD K "_law_ratio" "_law_ratio" (defArgs s_law_ratio) (defBody s_law_ratio) (defScope s_law_ratio) [] [] f fd) (B : Blt mg) (Z : Con mg) (GL : GcdF mg) {CG : Addr} (IG : IFC K mg "InvalidGame" CG) : FnOk P w K mg base CX0 1 f fd ["_law_top", "_law_bottom"] spLRatio := by
  refine F.ok sc_law_ratio (fun vs H Q E h => ?_) (fun cdv A outer s H vs Q E hr h => ?_)
  · obtain ⟨t, b, rfl, _⟩ := h
    rfl
  · obtain ⟨t, b, rfl, h0, ht, hb, k⟩ := h
    refine ⟨_, PSs.nox (pss_cons (ps_par (i := 2) (j := 3) (by rfl) sc_law_ratio.nd rfl rfl (by decide) rfl rfl (pa_cons (pe_callB c_abs (by rfl) B.n_abs (by decide +kernel) (pa_cons (pv 0) pa_nil)) (pa_cons (pe_callB c_abs (by rfl) B.n_abs (by decide +kernel) (pa_cons (pv 1) pa_nil)) pa_nil)) (by rfl)) (pss_cons (ps_while PassesOwn.never (pt_cmpR op_gt (pv 3) pe_int (nomark _)) (pss_one (ps_par (i := 2) (j := 3) (by rfl) sc_law_ratio.nd rfl rfl (by decide) rfl rfl (pa_cons (pv 3) (pa_cons (pe_op op_mod (pv 2) (pv 3)) pa_nil)) (by rfl)))) (pss_cons (ps_set (i := 4) sc_law_ratio.nd rfl (Or.inl rfl) (pe_ifExp (pt_cmpR op_lt (pv 1) pe_int (nomark _)) (pe_un un_neg pe_int) pe_int)) (pss_one (ps_ret (pe_tup (pa_cons (pe_op op_fdivW (pe_op op_mul (pv 4) (pv 0)) (pv 2)) (pa_cons (pe_op op_fdivW (pe_op op_mul (pv 4) (pv 1)) (pv 2)) pa_nil)))))))), ?_⟩
    have hg := gI_pos (t := t) h0
    have hl := gI_le (t := t) h0
    have hd : ∀ i : Int, CDivW i (gI t b) := fun i => big_div hg (Nat.lt_of_le_of_lt hl hb)
    walk_at "yy"
    refine y_while ⟨fun m σ H' => ∃ u v : Nat, σ = [some (.int t), some (.int b), some (.int (u : Int)), some (.int (v : Int)), none] ∧ Nat.gcd u v = Nat.gcd t.natAbs b.natAbs ∧ m = v ∧ H' = H, ⟨_, t.natAbs, b.natAbs, rfl, rfl, rfl, rfl⟩, ?_⟩
    rintro m σ H' ⟨u, v, rfl, eg, em, rfl⟩
    walk_at "yy"
    refine y_ite (fun h => ?_) (fun h => ?_)
    · have h := of_decide_eq_true h
      have hv : 0 < v := by omega
      refine ⟨fun σ' H2 => ∃ v' : Nat, σ' = [some (.int t), some (.int b), some (.int (v : Int)), some (.int (v' : Int)), none] ∧ Nat.gcd v v' = Nat.gcd t.natAbs b.natAbs ∧ v' < v ∧ H2 = H', fun σ' H2 ⟨v', e, g, l, eH⟩ => ⟨v', by omega, v, v', e, g, rfl, eH⟩, ?_⟩
      walk_at "yy"
      refine y_I (show (0 : Int) < (v : Int) by omega) ?_
      walk_at "yy"
      refine ⟨_, _, rfl, u % v, rfl, ?_, Nat.mod_lt _ hv, rfl⟩
      rw [← eg, Nat.gcd_comm u v, Nat.gcd_rec v u, Nat.gcd_comm]
    · have h := of_decide_eq_false h
      have hv : v = 0 := by omega
      subst hv
      rw [Nat.gcd_zero_right] at eg
      subst eg
      have fin : ∀ sg : Int, sg = (if b < 0 then -1 else 1) → (-(2 ^ 64) < sg ∧ sg < 2 ^ 64) → ∀ (p : Addr) (H2 : Hp), H' p = none → H2 = upd H' p (.tup [.int ((sg * t) / gI t b), .int ((sg * b) / gI t b)]) → Q (.ref p) H2 := fun sg es _ p H2 hp e => by
        subst es
        refine k p H2 hp ?_ (by rw [e]; exact same_new hp)
        rw [e, upd_same, lowT_eq h0, lowB_eq h0]
        rfl
      walk_at "yy"
      refine y_ite (fun hn => ?_) (fun hn => ?_)
      · have hn := of_decide_eq_true hn
        walk_at "yy"
        walk_at "yi"
        walk_at "yy"
        refine y_I (hd _) ?_
        walk_at "yy"
        walk_at "yi"
        walk_at "yy"
        refine y_I (hd _) ?_
        walk_at "yy"
        exact ⟨by show 2 ≤ sizeLine; decide, fun p hp => fin (-1) (by rw [if_pos hn]) (by decide) p _ hp rfl⟩
      · have hn := of_decide_eq_false hn
        walk_at "yy"
        walk_at "yi"
        walk_at "yy"
        refine y_I (hd _) ?_
        walk_at "yy"
        walk_at "yi"
        walk_at "yy"
        refine y_I (hd _) ?_
        walk_at "yy"
        exact ⟨by show 2 ≤ sizeLine; decide, fun p hp => fin 1 (by rw [if_neg hn]) (by decide) p _ hp rfl⟩
theorem sc_law_plus : FnScope ["_law_one", "_law_other"] ["_law_one", "_law_other"] (defScope s_law_plus) := ⟨rfl, rfl, rfl, by decide +kernel, rfl, by decide +kernel, by decide +kernel⟩
-- 0 _law_one, 1 _law_other
theorem ok_law_plus {f : Addr} {fd : FuncData} (F : FunD K "_law_plus" "_law_plus" (defArgs s_law_plus) (defBody s_law_plus) (defScope s_law_plus) [] [] f fd) (B : Blt mg) (Z : Con mg) (GL : GcdF mg) {CG : Addr} (IG : IFC K mg "InvalidGame" CG) (C_law_ratio : Cal P w K mg base 1 "_law_ratio" ["_law_top", "_law_bottom"] spLRatio) : FnOk P w K mg base CX0 2 f fd ["_law_one", "_law_other"] (spLPlus K) := by
  refine F.ok sc_law_plus (fun vs H Q E h => ?_) (fun cdv A outer s H vs Q E hr h => ?_)
  · obtain ⟨a, b, p, q, rfl, _⟩ := h
    rfl
  · obtain ⟨a, b, p, q, rfl, ha, hb, fp, fq, k⟩ := h
    refine ⟨_, PSs.nox (pss_one (ps_ret (pe_fn C_law_ratio (hr.mono (by decide)) (by rfl) (pa_cons (pe_op op_add (pe_op op_mulW (pe_ix (x_tup (K := K)) (pv 0) pe_int (fun _ _ => rfl)) (pe_ix (x_tup (K := K)) (pv 1) pe_int (fun _ _ => rfl))) (pe_op op_mulW (pe_ix (x_tup (K := K)) (pv 1) pe_int (fun _ _ => rfl)) (pe_ix (x_tup (K := K)) (pv 0) pe_int (fun _ _ => rfl)))) (pa_cons (pe_op op_mulW (pe_ix (x_tup (K := K)) (pv 0) pe_int (fun _ _ => rfl)) (pe_ix (x_tup (K := K)) (pv 1) pe_int (fun _ _ => rfl))) pa_nil))))), ?_⟩
    have b1 := okI_nat fp.t
    have b2 := okI_nat fp.b
    have b3 := okI_nat fq.t
    have b4 := okI_nat fq.b
    walk_at "yy"
    refine y_ixT ha rfl ?_
    walk_at "yy"
    refine y_ixT hb rfl ?_
    refine y_I (mulW (up_lt b1 (by decide)) (up_lt b4 (by decide))) ?_
    walk_at "yy"
    refine y_ixT hb rfl ?_
    walk_at "yy"
    refine y_ixT ha rfl ?_
    refine y_I (mulW (up_lt b3 (by decide)) (up_lt b2 (by decide))) ?_
    walk_at "yy"
    refine y_ixT ha rfl ?_
    walk_at "yy"
    refine y_ixT hb rfl ?_
    refine y_I (mulW (up_lt b2 (by decide)) (up_lt b4 (by decide))) ?_
    walk_at "yy"
    exact ⟨_, _, rfl, Int.ne_of_gt (Int.mul_pos fp.l.1 fq.l.1), up_lt (add_lt (mul_lt b1 b4) (mul_lt b3 b2)) (by decide), up_lt (mul_lt b2 b4) (by decide), k⟩
theorem sc_law_times : FnScope ["_law_one", "_law_other"] ["_law_one", "_law_other"] (defScope s_law_times) := ⟨rfl, rfl, rfl, by decide +kernel, rfl, by decide +kernel, by decide +kernel⟩
-- 0 _law_one, 1 _law_other
theorem ok_law_times {f : Addr} {fd : FuncData} (F : FunD K "_law_times" "_law_times" (defArgs s_law_times) (defBody s_law_times) (defScope s_law_times) [] [] f fd) (B : Blt mg) (Z : Con mg) (GL : GcdF mg) {CG : Addr} (IG : IFC K mg "InvalidGame" CG) (C_law_ratio : Cal P w K mg base 1 "_law_ratio" ["_law_top", "_law_bottom"] spLRatio) : FnOk P w K mg base CX0 2 f fd ["_law_one", "_law_other"] (spLTimes K) := by
  refine F.ok sc_law_times (fun vs H Q E h => ?_) (fun cdv A outer s H vs Q E hr h => ?_)
  · obtain ⟨a, b, p, q, rfl, _⟩ := h
    rfl
  · obtain ⟨a, b, p, q, rfl, ha, hb, fp, fq, k⟩ := h
    refine ⟨_, PSs.nox (pss_one (ps_ret (pe_fn C_law_ratio (hr.mono (by decide)) (by rfl) (pa_cons (pe_op op_mulW (pe_ix (x_tup (K := K)) (pv 0) pe_int (fun _ _ => rfl)) (pe_ix (x_tup (K := K)) (pv 1) pe_int (fun _ _ => rfl))) (pa_cons (pe_op op_mulW (pe_ix (x_tup (K := K)) (pv 0) pe_int (fun _ _ => rfl)) (pe_ix (x_tup (K := K)) (pv 1) pe_int (fun _ _ => rfl))) pa_nil))))), ?_⟩
    have b1 := okI_nat fp.t
    have b2 := okI_nat fp.b
    have b3 := okI_nat fq.t
    have b4 := okI_nat fq.b
    walk_at "yy"
    refine y_ixT ha rfl ?_
    walk_at "yy"
    refine y_ixT hb rfl ?_
    refine y_I (mulW (up_lt b1 (by decide)) (up_lt b3 (by decide))) ?_
    walk_at "yy"
    refine y_ixT ha rfl ?_
    walk_at "yy"
    refine y_ixT hb rfl ?_
    refine y_I (mulW (up_lt b2 (by decide)) (up_lt b4 (by decide))) ?_
    walk_at "yy"
    exact ⟨_, _, rfl, Int.ne_of_gt (Int.mul_pos fp.l.1 fq.l.1), up_lt (mul_lt b1 b3) (by decide), up_lt (mul_lt b2 b4) (by decide), k⟩
theorem sc_law_sum : FnScope ["_law_pairs", "_law_found", "_law_pair"] ["_law_pairs"] (defScope s_law_sum) := ⟨rfl, rfl, rfl, by decide +kernel, rfl, by decide +kernel, by decide +kernel⟩
-- 0 _law_pairs, 1 _law_found, 2 _law_pair
theorem ok_law_sum {f : Addr} {fd : FuncData} (F : FunD K "_law_sum" "_law_sum" (defArgs s_law_sum) (defBody s_law_sum) (defScope s_law_sum) [] [] f fd) (B : Blt mg) (Z : Con mg) (GL : GcdF mg) {CG : Addr} (IG : IFC K mg "InvalidGame" CG) (C_law_plus : Cal P w K mg base 2 "_law_plus" ["_law_one", "_law_other"] (spLPlus K)) : FnOk P w K mg base CX0 3 f fd ["_law_pairs"] (spLSum K) := by
  refine F.ok sc_law_sum (fun vs H Q E h => ?_) (fun cdv A outer s H vs Q E hr h => ?_)
  · obtain ⟨a, xs, ps, rfl, _⟩ := h
    rfl
  · obtain ⟨a, xs, ps, rfl, ha, hp, sm, hl, k⟩ := h
    refine ⟨_, PSs.nox (pss_cons (ps_set (i := 1) sc_law_sum.nd rfl (Or.inl rfl) (pe_tup (pa_cons pe_int (pa_cons pe_int pa_nil)))) (pss_cons (ps_for PassesOwn.never rfl (w_list (K := K) (pv 0)) (pg_name (i := 2) sc_law_sum.nd rfl (Or.inl rfl)) (pss_one (ps_set (i := 1) sc_law_sum.nd rfl (Or.inl rfl) (pe_fn C_law_plus (hr.mono (by decide)) (by rfl) (pa_cons (pv 1) (pa_cons (pv 2) pa_nil)))))) (pss_one (ps_ret (pv 1))))), ?_⟩
    walk_at "yy"
    refine ⟨by show 2 ≤ sizeLine; decide, fun t0 n0 => ?_⟩
    have s0 : Same H (upd H t0 (.tup [.int 0, .int 1])) := same_new n0
    have e0 : (upd H t0 (.tup [.int 0, .int 1])) t0 = some (.tup [.int 0, .int 1]) := upd_same
    generalize upd H t0 (.tup [.int 0, .int 1]) = H1 at s0 e0 ⊢
    have hlen : xs.length = ps.length := by rw [hp.len, List.length_map]
    walk_at "yy"
    refine ⟨a, rfl, ⟨xs, sql (s0 _ _ ha)⟩, y_forW (b := fun _ _ => False) (c := fun _ _ => False) (walk_list (K := K) (a := a) (xs := xs)) (fun i σ H2 => ∃ z u, σ = [some (.ref a), some (.ref z), u] ∧ H2 z = some (.tup [.int (sumP (ps.take i)).1, .int (sumP (ps.take i)).2]) ∧ Same H1 H2) ⟨t0, _, rfl, e0, Same.refl H1⟩ (fun i σ H2 _ h => by obtain ⟨_, _, _, _, s⟩ := h; exact sql (s _ _ (s0 _ _ ha))) ?_ ?_⟩
    · rintro i x σ H2 H3 hi ⟨z, u, rfl, ez, s⟩ ⟨rfl, ex⟩
      obtain ⟨dd, ed, hd⟩ := (hp.same (s0.trans s)).at ex
      rw [List.getElem?_map] at ed
      obtain ⟨p, ep, rfl⟩ := Option.map_eq_some_iff.mp ed
      have mp := List.mem_of_getElem? ep
      cases hd with
      | @tup aT _ _ eT hT =>
      cases hT with
      | cons q1 hT =>
      cases hT with
      | cons q2 hT =>
      cases hT
      cases q1
      cases q2
      walk_at "yy"
      refine ⟨z, aT, sumP (ps.take i), p, rfl, sqt ez, sqt eT, sum_fine sm hl i (by omega), sm_fine (sm p mp).1 (sm p mp).2, fun q H4 nq eq s4 => ?_⟩
      refine ⟨q, some (.ref aT), rfl, ?_, s.trans s4⟩
      rw [eq, List.take_add_one, ep]
      unfold sumP
      rw [List.foldl_append]
      rfl
    · rintro σ H2 ⟨z, u, rfl, ez, s⟩
      rw [hlen, List.take_length] at ez
      walk_at "yy"
      exact k _ H2 (.tup ez (.cons (.int _) (.cons (.int _) .nil))) (s0.trans s)
theorem sc_law_size : FnScope ["_law_plain"] ["_law_plain"] (defScope s_law_size) := ⟨rfl, rfl, rfl, by decide +kernel, rfl, by decide +kernel, by decide +kernel⟩
-- 0 _law_plain
theorem ok_law_size {f : Addr} {fd : FuncData} (F : FunD K "_law_size" "_law_size" (defArgs s_law_size) (defBody s_law_size) (defScope s_law_size) [] [] f fd) (B : Blt mg) (Z : Con mg) (GL : GcdF mg) {CG : Addr} (IG : IFC K mg "InvalidGame" CG) : FnOk P w K mg base CX0 1 f fd ["_law_plain"] spSize := by
  refine F.ok sc_law_size (fun vs H Q E h => ?_) (fun cdv A outer s H vs Q E hr h => ?_)
  · obtain ⟨v, hs, n, rfl, _⟩ := h
    rfl
  · obtain ⟨v, hs, n, rfl, hv, h1, h3, nd, ok, k⟩ := h
    refine ⟨_, PSs.nox (pss_one (ps_ret (pe_callB (c_lenQ (K := K)) (by rfl) B.n_len (by decide +kernel) (pa_cons (pe_dget (hu1 hr.units) (pv 0) (pe_ix (x_list (K := K)) (pe_callB (call_sortedD rfl) (by rfl) B.n_sorted (by decide +kernel) (pa_cons (pv 0) pa_nil)) pe_int (fun _ _ => rfl)) (fun _ _ => rfl)) pa_nil)))), ?_⟩
    obtain ⟨p, kvs, rfl, ep, pr⟩ := hv
    walk_at "yy"
    refine y_var (v := .ref p) rfl ?_
    walk_at "yy"
    refine ⟨p, kvs, hs.map (·.1), rfl, .inl ep, hou_keys pr, by rw [List.length_map]; omega, fun ys q pm _ nq => ?_⟩
    have s1 : Same H (upd H q (.lst (ys.map V.str))) := same_new nq
    have eq : (upd H q (.lst (ys.map V.str))) q = some (.lst (ys.map V.str)) := upd_same
    generalize upd H q (.lst (ys.map V.str)) = H1 at s1 eq ⊢
    obtain ⟨s, es⟩ : ∃ s, ys[0]? = some s := ⟨ys[0]'(by rw [pm.length_eq, List.length_map]; omega), List.getElem?_eq_getElem _⟩
    obtain ⟨v, g, hv, mg, dv⟩ := hou_get (pr.mono fun a b h => ⟨h.1, h.2.same (tu_same s1)⟩) (pm.mem_iff.mp (List.mem_of_getElem? es))
    walk_at "yy"
    refine y_ixL (sql eq) (at_nat (by decide) (by rw [List.getElem?_map]; exact congrArg (Option.map V.str) es)) ?_
    refine ⟨p, v, rfl, ?_, ?_⟩
    · rw [← hv]
      exact DGet.k (k := Sum.inr s) (s1 _ _ ep)
    walk_at "yy"
    unfold gmD at dv
    cases dv with
    | tup eg hg =>
    refine y_lenT (sqt (tu_sub _ _ eg)) ?_
    rw [hg.len, List.length_map, (ok _ mg).len]
    exact k H1 s1
theorem sc_law_is_number : FnScope ["_law_value"] ["_law_value"] (defScope s_law_is_number) := ⟨rfl, rfl, rfl, by decide +kernel, rfl, by decide +kernel, by decide +kernel⟩
-- 0 _law_value
theorem ok_law_is_number {f : Addr} {fd : FuncData} (F : FunD K "_law_is_number" "_law_is_number" (defArgs s_law_is_number) (defBody s_law_is_number) (defScope s_law_is_number) [] [] f fd) (B : Blt mg) (Z : Con mg) (GL : GcdF mg) {CG : Addr} (IG : IFC K mg "InvalidGame" CG) : FnOk P w K mg base CX0 1 f fd ["_law_value"] spLNum := by
  refine F.ok sc_law_is_number (fun vs H Q E h => ?_) (fun cdv A outer s H vs Q E hr h => ?_)
  · obtain ⟨v, d, rfl, _⟩ := h
    rfl
  · obtain ⟨v, d, rfl, h, k⟩ := h
    refine ⟨_, PSs.nox (pss_one (ps_ret (pe_and (pe_callB (c_isiM (K := K)) (by rfl) B.n_isinstance (by decide +kernel) (pa_cons (pv 0) (pa_cons (pe_bltn (v := .ty "int") (by rfl) B.n_int (by decide +kernel) rfl) pa_nil))) (pe_and (pe_cmpR op_isntB (pv 0) pe_bl (nomark _)) (pe_one (pe_cmpR op_isntB (pv 0) pe_bl (nomark _))))))), ?_⟩
    walk_at "yy"
    refine y_isInt h ?_
    walk_at "yy"
    cases hi : intK d with
    | false =>
      refine y_f rfl ?_
      have e : numB d = false := by cases d <;> first | rfl | cases hi
      rw [← e]
      exact k
    | true =>
      refine y_t rfl ?_
      walk_at "yy"
      cases hb : boolK d with
      | true =>
        obtain ⟨b, rfl, rfl⟩ : ∃ b, v = .bl b ∧ d = .bool b := by
          cases h with
          | bl b => exact ⟨b, rfl, rfl⟩
          | int i => cases hb
          | _ => cases hi
        refine ⟨_, rfl, .inl ⟨b, rfl, ?_⟩⟩
        cases b with
        | true =>
          walk_at "yy"
          exact k
        | false =>
          refine ⟨_, rfl, y_t rfl ?_⟩
          walk_at "yy"
          exact ⟨_, rfl, .inl ⟨_, rfl, k⟩⟩
      | false =>
        obtain ⟨i, rfl, rfl⟩ := h.intI hi hb
        refine ⟨_, rfl, .inr ⟨i, rfl, ?_⟩⟩
        refine ⟨_, rfl, y_t rfl ?_⟩
        walk_at "yy"
        exact ⟨_, rfl, .inr ⟨i, rfl, k⟩⟩
theorem sc_law_is_fraction : FnScope ["_law_value", "_law_one"] ["_law_value"] (defScope s_law_is_fraction) := ⟨rfl, rfl, rfl, by decide +kernel, rfl, by decide +kernel, by decide +kernel⟩
-- 0 _law_value, 1 _law_one
theorem ok_law_is_fraction {f : Addr} {fd : FuncData} (F : FunD K "_law_is_fraction" "_law_is_fraction" (defArgs s_law_is_fraction) (defBody s_law_is_fraction) (defScope s_law_is_fraction) [] [] f fd) (B : Blt mg) (Z : Con mg) (GL : GcdF mg) {CG : Addr} (IG : IFC K mg "InvalidGame" CG) (C_law_is_number : Cal P w K mg base 1 "_law_is_number" ["_law_value"] spLNum) (C_law_ratio : Cal P w K mg base 1 "_law_ratio" ["_law_top", "_law_bottom"] spLRatio) : FnOk P w K mg base CX0 2 f fd ["_law_value"] spLFracD := by
  refine F.ok sc_law_is_fraction (fun vs H Q E h => ?_) (fun cdv A outer s H vs Q E hr h => ?_)
  · obtain ⟨v, d, rfl, _⟩ := h
    rfl
  · obtain ⟨v, d, rfl, h, sm, k⟩ := h
    refine ⟨_, PSs.nox (pss_cons (ps_if (PW.pt (pw_or (pt_not (pt_val (pe_callB (c_isiM (K := K)) (by rfl) B.n_isinstance (by decide +kernel) (pa_cons (pv 0) (pa_cons (pe_bltn (v := .ty "tuple") (by rfl) B.n_tuple (by decide +kernel) rfl) pa_nil))))) (pw_or (pt_cmpR op_ne (pe_callB (c_lenQ (K := K)) (by rfl) B.n_len (by decide +kernel) (pa_cons (pv 0) pa_nil)) pe_int (nomark _)) (pw_or1 (pt_cmpR (op_neNil hr.units) (pe_lc (own := [("_law_one", 1)]) (g := gName 1) (tt := _) rfl sc_law_is_fraction.nd (w_tup (K := K) (pv 0)) (blkOk_by (own := [("_law_one", 1)]) (N := ["_law_value", "_law_one"]) (sc := defScope s_law_is_fraction) (by decide +kernel)) (fun _ _ _ _ _ => pg_name (i := 1) sc_law_is_fraction.nd rfl (Or.inl rfl)) (fun _ _ _ _ _ => (pts_one (pt_not (pt_val (pe_fn C_law_is_number (hr.mono (by decide)) (by rfl) (pa_cons (pv 1) pa_nil)))))) (fun _ _ _ _ _ => (pv 1))) (pe_lst pa_nil) (nomark _)))))) (pss_one (ps_ret pe_bl)) pss_nil) (pss_one (ps_ret (pe_and (pe_cmpR op_gt (pe_ix (x_tup (K := K)) (pv 0) pe_int (fun _ _ => rfl)) pe_int (nomark _)) (pe_one (pe_cmpR (o_eqD (K := K) hr.units) (pe_fn C_law_ratio (hr.mono (by decide)) (by rfl) (pa_cons (pe_ix (x_tup (K := K)) (pv 0) pe_int (fun _ _ => rfl)) (pa_cons (pe_ix (x_tup (K := K)) (pv 0) pe_int (fun _ _ => rfl)) pa_nil))) (pv 0) (nomark _))))))), ?_⟩
    walk_at "yy"
    refine y_isTup h ?_
    walk_at "yy"
    cases ht : tupB d with
    | false =>
      refine y_t rfl ?_
      walk_at "yy"
      have e : fracDB d = false := by cases d <;> first | rfl | cases ht
      rw [← e]
      exact k _ (Same.refl H)
    | true =>
      obtain ⟨a, xs, ds, rfl, rfl, ea, hl⟩ := h.tupI ht
      refine y_f rfl ?_
      walk_at "yy"
      refine y_lenT (sqt ea) ?_
      walk_at "yy"
      have hn := hl.len
      refine y_ite (fun h2 => ?_) (fun h2 => ?_)
      · walk_at "yy"
        have h2 := of_decide_eq_false ((Bool.not_eq_true' _).mp h2)
        rw [← fracDB_len (ds := ds) (by omega)]
        exact k _ (Same.refl H)
      · have h2 := of_decide_eq_true ((Bool.not_eq_false' _).mp h2)
        have h2 : xs.length = 2 := by omega
        walk_at "yy"
        refine ⟨a, rfl, ⟨xs, sqt ea⟩, fun D nD => lc_it (walk_tup (K := K) (a := a) (xs := xs)) (fun j G => ∃ acc, G D = some (.lst acc) ∧ acc.isEmpty = (ds.take j).all numB ∧ acc.length ≤ j ∧ Same H G) ⟨[], upd_same, rfl, Nat.le_refl _, same_new nD⟩ (fun _ _ _ h => by obtain ⟨_, _, _, _, s⟩ := h; exact sqt (s _ _ ea)) ?_ ?_⟩
        · rintro j x G G2 hj ⟨acc, eD, em, ln, s⟩ ⟨rfl, hx⟩
          obtain ⟨dd, ed, hd⟩ := hl.at hx
          walk_at "yy"
          refine ⟨rfl, ?_⟩
          walk_at "yy"
          refine ⟨x, dd, rfl, hd.same s, ?_⟩
          walk_at "yy"
          have et : (ds.take (j + 1)).all numB = ((ds.take j).all numB && numB dd) := by rw [List.take_add_one, ed, List.all_append]; show (_ && (numB dd && true)) = _; rw [Bool.and_true]
          cases b1 : numB dd with
          | true =>
            refine y_f rfl ?_
            exact ⟨acc, eD, by rw [et, b1, Bool.and_true]; exact em, by omega, s⟩
          | false =>
            refine y_t rfl ?_
            walk_at "yy"
            refine ⟨acc, eD, sz_lt (by omega), acc ++ [x], upd_same, ?_, by rw [List.length_append]; show acc.length + 1 ≤ j + 1; omega, same_mut s nD⟩
            rw [et, b1, Bool.and_false]
            cases acc <;> rfl
        · rintro G ⟨acc, eD, em, ln, s⟩
          rw [hn, List.take_length] at em
          walk_at "yy"
          refine ⟨by show 0 ≤ sizeLine; decide, fun e ne => ?_⟩
          have s2 := s.trans (same_new (o := .lst []) ne)
          refine y_neNil (xs := acc) (same_new ne _ _ eD) upd_same ?_
          generalize upd G e (.lst []) = G2 at s2 ⊢
          rw [em]
          walk_at "yy"
          cases al : ds.all numB with
          | false =>
            refine y_t rfl ?_
            walk_at "yy"
            rw [← frac_non al]
            exact k _ s2
          | true =>
            refine y_f rfl ?_
            match xs, ds, hl, h2, al with
            | [x, y], [d1, d2], .cons q1 (.cons q2 .nil), _, al =>
            have al : (numB d1 && (numB d2 && true)) = true := al
            simp only [Bool.and_eq_true, Bool.and_true] at al
            obtain ⟨i, rfl⟩ := num_inv al.1
            obtain ⟨j, rfl⟩ := num_inv al.2
            cases q1
            cases q2
            have fs := frac_sm sm
            have sz : i.natAbs < 1024 ∧ j.natAbs < 1024 := by
              have h : (decide (i.natAbs < 1024) && (decide (j.natAbs < 1024) && true)) = true := sm
              simp only [Bool.and_eq_true, decide_eq_true_eq, Bool.and_true] at h
              exact h
            have ea2 := s2 _ _ ea
            walk_at "yy"
            refine y_ixT (sqt ea2) rfl ?_
            walk_at "yy"
            cases hp : decide (j > 0) with
            | false =>
              refine y_f rfl ?_
              rw [hp, Bool.false_and] at fs
              rw [← fs]
              exact k _ s2
            | true =>
              rw [hp, Bool.true_and] at fs
              have hp := of_decide_eq_true hp
              refine y_t rfl ?_
              walk_at "yy"
              refine y_ixT (sqt ea2) rfl ?_
              walk_at "yy"
              refine y_ixT (sqt ea2) rfl ?_
              walk_at "yy"
              refine ⟨i, j, rfl, by omega, big_of (by omega), big_of (by omega), fun r G3 nr er s3 => ?_⟩
              walk_at "yy"
              have d1 : Dp K G3 (.ref r) (frD (low i j)) := .tup (sqt er) (.cons (.int _) (.cons (.int _) .nil))
              have d2 : Dp K G3 (.ref a) (.tuple [.int i, .int j]) := .tup (sqt (s3 _ _ ea2)) (.cons (.int _) (.cons (.int _) .nil))
              refine ⟨_, _, d1, d2, rfl, rfl, ?_⟩
              rw [show PyData.eqv (frD (low i j)) (.tuple [.int i, .int j]) = decide (low i j = (i, j)) from eqv_pair (q := (i, j)), ← fs]
              exact k _ (s2.trans s3)
theorem sc_law_is_move : FnScope ["_law_value", "_law_size_here"] ["_law_value", "_law_size_here"] (defScope s_law_is_move) := ⟨rfl, rfl, rfl, by decide +kernel, rfl, by decide +kernel, by decide +kernel⟩
-- 0 _law_value, 1 _law_size_here
theorem ok_law_is_move {f : Addr} {fd : FuncData} (F : FunD K "_law_is_move" "_law_is_move" (defArgs s_law_is_move) (defBody s_law_is_move) (defScope s_law_is_move) [] [] f fd) (B : Blt mg) (Z : Con mg) (GL : GcdF mg) {CG : Addr} (IG : IFC K mg "InvalidGame" CG) (C_law_is_number : Cal P w K mg base 1 "_law_is_number" ["_law_value"] spLNum) (C_law_is_fraction : Cal P w K mg base 2 "_law_is_fraction" ["_law_value"] spLFracD) : FnOk P w K mg base CX0 3 f fd ["_law_value", "_law_size_here"] spLMove := by
  refine F.ok sc_law_is_move (fun vs H Q E h => ?_) (fun cdv A outer s H vs Q E hr h => ?_)
  · obtain ⟨v, d, n, rfl, _⟩ := h
    rfl
  · obtain ⟨v, d, n, rfl, h, sm, k⟩ := h
    refine ⟨_, PSs.nox (pss_cons (ps_if (PW.pt (pw_or (pt_not (pt_val (pe_callB (c_isiM (K := K)) (by rfl) B.n_isinstance (by decide +kernel) (pa_cons (pv 0) (pa_cons (pe_bltn (v := .ty "tuple") (by rfl) B.n_tuple (by decide +kernel) rfl) pa_nil))))) (pw_or (pt_cmpR op_ne (pe_callB (c_lenQ (K := K)) (by rfl) B.n_len (by decide +kernel) (pa_cons (pv 0) pa_nil)) pe_int (nomark _)) (pw_or (pt_not (pt_val (pe_fn C_law_is_number (hr.mono (by decide)) (by rfl) (pa_cons (pe_ix (x_tup (K := K)) (pv 0) pe_int (fun _ _ => rfl)) pa_nil)))) (pw_or1 (pt_not (pt_val (pe_fn C_law_is_number (hr.mono (by decide)) (by rfl) (pa_cons (pe_ix (x_tup (K := K)) (pv 0) pe_int (fun _ _ => rfl)) pa_nil))))))))) (pss_one (ps_ret pe_bl)) pss_nil) (pss_cons (ps_if (PW.pt (pw_or (pt_not (pt_chain op_le op_lt pe_int (pe_ix (x_tup (K := K)) (pv 0) pe_int (fun _ _ => rfl)) (pv 1))) (pw_or (pt_not (pt_chain op_le op_le (pe_un un_neg pe_int) (pe_ix (x_tup (K := K)) (pv 0) pe_int (fun _ _ => rfl)) pe_int)) (pw_or1 (pt_not (pt_val (pe_fn C_law_is_fraction (hr.mono (by decide)) (by rfl) (pa_cons (pe_ix (x_tup (K := K)) (pv 0) pe_int (fun _ _ => rfl)) pa_nil)))))))) (pss_one (ps_ret pe_bl)) pss_nil) (pss_one (ps_ret (pe_chain op_lt op_le pe_int (pe_ix (x_tup (K := K)) (pe_ix (x_tup (K := K)) (pv 0) pe_int (fun _ _ => rfl)) pe_int (fun _ _ => rfl)) (pe_ix (x_tup (K := K)) (pe_ix (x_tup (K := K)) (pv 0) pe_int (fun _ _ => rfl)) pe_int (fun _ _ => rfl))))))), ?_⟩
    walk_at "yy"
    refine y_isTup h ?_
    walk_at "yy"
    cases ht : tupB d with
    | false =>
      refine y_t rfl ?_
      walk_at "yy"
      have e : lmoveB n d = false := by cases d <;> first | rfl | cases ht
      rw [← e]
      exact k _ (Same.refl H)
    | true =>
      obtain ⟨a, xs, ds, rfl, rfl, ea, hl⟩ := h.tupI ht
      refine y_f rfl ?_
      walk_at "yy"
      refine y_lenT (sqt ea) ?_
      walk_at "yy"
      have no : ∀ H', Same H H' → ∀ b, lmoveB n (.tuple ds) = b → Q (.bl b) H' := fun H' s b e => by
        rw [← e]
        exact k H' s
      refine y_ite (fun h2 => ?_) (fun h2 => ?_)
      · walk_at "yy"
        have h2 := of_decide_eq_false ((Bool.not_eq_true' _).mp h2)
        rw [hl.len] at h2
        exact no H (Same.refl H) _ (by unfold lmoveB; rw [moveB_len (by omega), Bool.false_and])
      · have h2 := of_decide_eq_true ((Bool.not_eq_false' _).mp h2)
        match xs, ds, hl, h2 with
        | [x, y, z], [d1, d2, d3], .cons q1 (.cons q2 (.cons q3 .nil)), _ =>
        have no : ∀ H', Same H H' → ∀ b, ((stdB n d1 && (gainB d2 && (fracDB d3 && topPos d3))) && leOne (.tuple [d1, d2, d3])) = b → Q (.bl b) H' := no
        have sm : (smD d1 && (smD d2 && (smD d3 && true))) = true := sm
        simp only [Bool.and_eq_true, Bool.and_true] at sm
        walk_at "yy"
        refine y_ixT (sqt ea) rfl ?_
        refine ⟨x, d1, rfl, q1, ?_⟩
        walk_at "yy"
        cases b1 : numB d1 with
        | false =>
          refine y_t rfl ?_
          walk_at "yy"
          have e : stdB n d1 = false := by cases d1 <;> first | rfl | cases b1
          exact no H (Same.refl H) _ (by rw [e, Bool.false_and, Bool.false_and])
        | true =>
          obtain ⟨i, rfl⟩ := num_inv b1
          cases q1
          refine y_f rfl ?_
          walk_at "yy"
          refine y_ixT (sqt ea) rfl ?_
          refine ⟨y, d2, rfl, q2, ?_⟩
          walk_at "yy"
          cases b2 : numB d2 with
          | false =>
            refine y_t rfl ?_
            walk_at "yy"
            have e : gainB d2 = false := by cases d2 <;> first | rfl | cases b2
            exact no H (Same.refl H) _ (by rw [e, Bool.false_and, Bool.and_false, Bool.false_and])
          | true =>
            obtain ⟨j, rfl⟩ := num_inv b2
            cases q2
            have e1 : stdB n (.int i) = (decide (0 ≤ i) && decide (i < n)) := by
              show (okI i && _) = _
              rw [show okI i = true from num_sm sm.1, Bool.true_and]
            have e2 : gainB (.int j) = (decide (-99 ≤ j) && decide (j ≤ 99)) := by
              show (okI j && _) = _
              rw [show okI j = true from num_sm sm.2.1, Bool.true_and]
            rw [e1, e2] at no
            refine y_f rfl ?_
            walk_at "yy"
            refine y_ixT (sqt ea) rfl ?_
            walk_at "yy"
            cases c1 : decide (0 ≤ i) with
            | false =>
              refine y_f rfl ?_
              walk_at "yy"
              walk_at "yt"
              walk_at "yt"
              walk_at "yy"
              exact no H (Same.refl H) _ (by rw [c1, Bool.false_and, Bool.false_and, Bool.false_and])
            | true =>
            refine y_t rfl ?_
            walk_at "yy"
            cases c2 : decide (i < n) with
            | false =>
              refine y_t rfl ?_
              walk_at "yy"
              exact no H (Same.refl H) _ (by rw [c2, Bool.and_false, Bool.false_and, Bool.false_and])
            | true =>
            rw [c1, c2, Bool.true_and, Bool.true_and] at no
            refine y_f rfl ?_
            walk_at "yy"
            refine y_ixT (sqt ea) rfl ?_
            walk_at "yy"
            cases c3 : decide (-99 ≤ j) with
            | false =>
              refine y_f rfl ?_
              walk_at "yy"
              walk_at "yt"
              walk_at "yt"
              walk_at "yy"
              exact no H (Same.refl H) _ (by rw [c3, Bool.false_and, Bool.false_and, Bool.false_and])
            | true =>
            refine y_t rfl ?_
            walk_at "yy"
            cases c4 : decide (j ≤ 99) with
            | false =>
              refine y_t rfl ?_
              walk_at "yy"
              exact no H (Same.refl H) _ (by rw [c4, Bool.and_false, Bool.false_and, Bool.false_and])
            | true =>
            rw [c3, c4, Bool.true_and, Bool.true_and] at no
            refine y_f rfl ?_
            walk_at "yy"
            refine y_ixT (sqt ea) rfl ?_
            refine ⟨z, d3, rfl, q3, sm.2.2, fun G s => ?_⟩
            walk_at "yy"
            cases b3 : fracDB d3 with
            | false =>
              refine y_t rfl ?_
              walk_at "yy"
              exact no G s _ (by rw [b3, Bool.false_and, Bool.false_and])
            | true =>
              obtain ⟨u, w, rfl, f3⟩ := fracDB_inv b3
              cases q3 with
              | tup eT hT =>
              cases hT with
              | cons r1 hT =>
              cases hT with
              | cons r2 hT =>
              cases hT
              cases r1
              cases r2
              refine y_f rfl ?_
              walk_at "yy"
              refine y_ixT (sqt (s _ _ ea)) rfl ?_
              walk_at "yy"
              refine y_ixT (sqt (s _ _ eT)) rfl ?_
              walk_at "yy"
              have no : ∀ H', Same H H' → ∀ b, (decide (0 < u) && decide (u ≤ w)) = b → Q (.bl b) H' := fun H' s b e => no H' s b (by rw [b3, Bool.true_and]; exact e)
              cases c5 : decide (0 < u) with
              | false =>
                refine y_f rfl ?_
                exact no G s _ (by rw [c5, Bool.false_and])
              | true =>
                refine y_t rfl ?_
                walk_at "yy"
                refine y_ixT (sqt (s _ _ ea)) rfl ?_
                walk_at "yy"
                refine y_ixT (sqt (s _ _ eT)) rfl ?_
                walk_at "yy"
                exact no G s _ (by rw [c5, Bool.true_and])
theorem sc_law_joined : FnScope ["_law_moves_here", "_law_found", "_law_to", "_law_gain", "_law_chance", "_law_key"] ["_law_moves_here"] (defScope s_law_joined) := ⟨rfl, rfl, rfl, by decide +kernel, rfl, by decide +kernel, by decide +kernel⟩
-- 0 _law_moves_here, 1 _law_found, 2 _law_to, 3 _law_gain, 4 _law_chance, 5 _law_key
theorem ok_law_joined {f : Addr} {fd : FuncData} (F : FunD K "_law_joined" "_law_joined" (defArgs s_law_joined) (defBody s_law_joined) (defScope s_law_joined) [] [] f fd) (B : Blt mg) (Z : Con mg) (GL : GcdF mg) {CG : Addr} (IG : IFC K mg "InvalidGame" CG) (C_law_plus : Cal P w K mg base 2 "_law_plus" ["_law_one", "_law_other"] (spLPlus K)) : FnOk P w K mg base CX0 3 f fd ["_law_moves_here"] spLJoined := by
  refine F.ok sc_law_joined (fun vs H Q E h => ?_) (fun cdv A outer s H vs Q E hr h => ?_)
  · obtain ⟨a, xs, ms, rfl, _⟩ := h
    rfl
  · obtain ⟨a, xs, ms, rfl, ea, hx, hc, hl, k⟩ := h
    refine ⟨_, PSs.nox (pss_cons (ps_set (i := 1) sc_law_joined.nd rfl (Or.inr rfl) pe_dnewT) (pss_cons (ps_for PassesOwn.never rfl (w_list (K := K) (pv 0)) (g_tup (K := K) (n := 3) (by rfl) (pgs_cons (pg_name (i := 2) sc_law_joined.nd rfl (Or.inl rfl)) (pgs_cons (pg_name (i := 3) sc_law_joined.nd rfl (Or.inl rfl)) (pgs_cons (pg_name (i := 4) sc_law_joined.nd rfl (Or.inl rfl)) pgs_nil)))) (pss_one (ps_dput (hu1 hr.units) (pv 1) (pe_tup (pa_cons (pv 2) (pa_cons (pv 3) pa_nil))) (pe_fn C_law_plus (hr.mono (by decide)) (by rfl) (pa_cons (pe_dget2 (hu1 hr.units) (pv 1) (pe_tup (pa_cons (pv 2) (pa_cons (pv 3) pa_nil))) (pe_tup (pa_cons pe_int (pa_cons pe_int pa_nil))) ⟨rfl, rfl, rfl, rfl⟩) (pa_cons (pv 4) pa_nil))) (by rfl)))) (pss_one (ps_ret (pe_callTy (c_tupQ (K := K)) (by rfl) B.n_tuple (by decide +kernel) (pa_cons (pe_lc (own := [("_law_key", 5)]) (g := gName 5) (tt := tYes) rfl sc_law_joined.nd (w_list (K := K) (pe_callB (c_sortedDT rfl) (by rfl) B.n_sorted (by decide +kernel) (pa_cons (pv 1) pa_nil))) (blkOk_by (own := [("_law_key", 5)]) (N := ["_law_moves_here", "_law_found", "_law_to", "_law_gain", "_law_chance", "_law_key"]) (sc := defScope s_law_joined) (by decide +kernel)) (fun _ _ _ _ _ => pg_name (i := 5) sc_law_joined.nd rfl (Or.inl rfl)) (fun _ _ _ _ _ => pts_nil) (fun _ _ _ _ _ => (pe_op (o_catT (K := K)) (pv 5) (pe_tup (pa_cons (pe_dget (hu1 hr.units) (pv 1) (pv 5) (fun _ _ => rfl)) pa_nil))))) pa_nil)))))), ?_⟩
    refine y_seq (y_asg ?_)
    intro p np
    have e0 : (upd H p (.dT [])) p = some (.dT []) := upd_same
    have s0 : Same H (upd H p (.dT [])) := same_new np
    generalize upd H p (.dT []) = H1 at e0 s0 ⊢
    refine y_name ?_
    refine y_seq ?_
    refine y_for (y_iList (y_var rfl ⟨a, rfl, ⟨xs, sql (s0 _ _ ea)⟩, ?_⟩))
    refine y_forW (b := fun _ _ => False) (c := fun _ _ => False) (walk_list (K := K) (a := a) (xs := xs)) (fun i σ H2 => ∃ u1 u2 u3 u4 kvs, σ = [some (.ref a), some (.ref p), u1, u2, u3, u4] ∧ H2 p = some (.dT kvs) ∧ Paired (SEnt H2) kvs (grp (ms.take i)) ∧ kvs.length ≤ i ∧ Same H H2) ⟨_, _, _, _, [], rfl, e0, .nil, Nat.le_refl _, s0⟩ (fun i σ H2 _ h => by obtain ⟨_, _, _, _, _, _, _, _, _, s⟩ := h; exact sql (s _ _ ea)) ?_ ?_
    · rintro i x σ H2 H3 hi ⟨u1, u2, u3, u4, kvs, rfl, ep, pr, ln, s⟩ ⟨rfl, ex⟩
      obtain ⟨m, em, hm⟩ := pr_at hx ex
      have hi2 : i < ms.length := (List.getElem?_eq_some_iff.mp em).1
      have mm := List.mem_of_getElem? em
      have hm := hm.same (tu_same s)
      cases hm with
      | @tup am _ _ eam r =>
      cases r with
      | cons r1 r =>
      cases r with
      | cons r2 r =>
      cases r with
      | @cons c _ _ _ hcd r =>
      cases r
      cases r1
      cases r2
      refine y_gtup rfl (sqt (tu_sub _ _ eam)) rfl ?_
      refine y_gcons (y_name (y_gcons (y_name (y_gcons (y_name (y_gnil ?_))))))
      cases hcd with
      | @tup ac _ _ eac rc =>
      cases rc with
      | cons r3 rc =>
      cases rc with
      | cons r4 rc =>
      cases rc
      cases r3
      cases r4
      have eac := tu_sub _ _ eac
      refine y_fn (y_cons ?_)
      refine y_var (v := .ref p) rfl ⟨p, rfl, .inr ⟨kvs, .inl ep⟩, ?_⟩
      refine y_tup (y_cons (y_var rfl (y_cons (y_var rfl (y_nil ⟨by show 2 ≤ sizeLine; decide, fun b nb => ?_⟩)))))
      have s4 : Same H3 (upd H3 b (.tup [.int m.1.1, .int m.1.2])) := same_new nb
      have eb : (upd H3 b (.tup [.int m.1.1, .int m.1.2])) b = some (.tup ((keyK m.1).map kV)) := upd_same
      generalize upd H3 b (.tup [.int m.1.1, .int m.1.2]) = H4 at s4 eb ⊢
      refine y_tup (y_cons (y_con (y_cons (y_con (y_nil ⟨by show 2 ≤ sizeLine; decide, fun z nz => ?_⟩)))))
      have s5 : Same H3 (upd H4 z (.tup [.int 0, .int 1])) := s4.trans (same_new nz)
      have ez : (upd H4 z (.tup [.int 0, .int 1])) z = some (.tup [.int 0, .int 1]) := upd_same
      have eb := same_new (o := .tup [.int 0, .int 1]) nz _ _ eb
      generalize upd H4 z (.tup [.int 0, .int 1]) = H5 at s5 ez eb ⊢
      refine ⟨valV kvs (keyK m.1), DGet.t (k := keyK m.1) (s5 _ _ ep) eb, ?_⟩
      have gall := grp_all (ms := ms.take i) (P := fun c => smPair c ∧ Nat.gcd c.1.natAbs c.2.natAbs = 1) fun m mm => hc m (List.mem_of_mem_take mm)
      have pr5 := sEnt_mono (tu_same s5) pr
      obtain ⟨w, cur, ew, hw, fw, up⟩ : ∃ w cur, (valV kvs (keyK m.1)).getD (.ref z) = .ref w ∧ H5 w = some (.tup [.int cur.1, .int cur.2]) ∧ Fine cur ∧ ∀ (H' : Hp) (v : V), Same (tu H5) (tu H') → Da (tu H') v (frD (addP cur m.2)) → Paired (SEnt H') (putK kvs (keyK m.1) v) (addG (grp (ms.take i)) m) := by
        cases hv : valV kvs (keyK m.1) with
        | none =>
          have nk := (sEnt_key pr5).mp hv
          refine ⟨z, (0, 1), rfl, ez, sum_fine (ps := []) (fun _ h => nomatch h) (by decide) 0 (by decide), fun H' v st hd => ?_⟩
          rw [putK_new _ hv, show addG (grp (ms.take i)) m = _ from sEnt_new (c := m.2) nk]
          exact Paired.snoc (sEnt_mono st pr5) ⟨rfl, hd⟩
        | some w0 =>
          obtain ⟨g, mg, dw, f⟩ := sEnt_some pr5 (grp_nd _) hv
          have fin := sum_fine (gall g mg) (Nat.le_trans (grp_len mg) (by rw [List.length_take]; omega)) g.2.length (Nat.le_refl _)
          rw [List.take_length] at fin
          cases dw with
          | @tup aw _ _ eaw rw0 =>
          cases rw0 with
          | cons t1 rw0 =>
          cases rw0 with
          | cons t2 rw0 =>
          cases rw0
          cases t1
          cases t2
          refine ⟨aw, sumP g.2, rfl, tu_sub _ _ eaw, fin, fun H' v st hd => ?_⟩
          have hany : (kvs.any fun kv => decide (kv.1 = keyK m.1)) = true := by
            rw [valV_any, hv]
            rfl
          unfold putK
          rw [if_pos hany]
          obtain ⟨g2, mg2, dw2, f2⟩ := sEnt_some (sEnt_mono st pr5) (grp_nd _) hv
          have e2 : sumP g2.2 = sumP g.2 := by
            cases dw2 with
            | tup e3 r3 =>
            cases r3 with
            | cons t1 r3 =>
            cases r3 with
            | cons t2 r3 =>
            cases r3
            have e4 := st _ _ eaw
            rw [e3] at e4
            cases t1
            cases t2
            injection e4 with e4
            injection e4 with e4
            injection e4 with q1 e4
            injection e4 with q2 _
            exact Prod.ext (V.int.inj q1) (V.int.inj q2)
          exact f2 v m.2 (by rw [sum_snoc, e2]; exact hd)
      rw [ew]
      refine y_cons (y_var rfl (y_nil ?_))
      refine ⟨w, ac, cur, m.2, rfl, sqt hw, sqt (s5 _ _ eac), fw, sm_fine (hc m mm).1 (hc m mm).2, fun r H6 nr er s6 => ?_⟩
      refine y_var (v := .ref p) rfl ?_
      refine y_tup (y_cons (y_var rfl (y_cons (y_var rfl (y_nil ⟨by show 2 ≤ sizeLine; decide, fun b2 nb2 => ?_⟩)))))
      have s7 : Same H5 (upd H6 b2 (.tup [.int m.1.1, .int m.1.2])) := s6.trans (same_new nb2)
      have eb2 : (upd H6 b2 (.tup [.int m.1.1, .int m.1.2])) b2 = some (.tup ((keyK m.1).map kV)) := upd_same
      have er7 := same_new (o := .tup [.int m.1.1, .int m.1.2]) nb2 _ _ er
      generalize upd H6 b2 (.tup [.int m.1.1, .int m.1.2]) = H7 at s7 eb2 er7 ⊢
      have ep7 := s7 _ _ (s5 _ _ ep)
      have st : Same (tu H7) (tu (upd H7 p (.dT (putK kvs (keyK m.1) (.ref r))))) := tu_mut' fun xs z => by rw [ep7] at z; cases z
      refine ⟨p, _, rfl, DPut.t (k := keyK m.1) ep7 eb2 (sz_lt (by omega)), ?_⟩
      refine ⟨_, _, _, _, putK kvs (keyK m.1) (.ref r), rfl, upd_same, ?_, ?_, same_mut (s.trans (s5.trans s7)) np⟩
      · rw [grp_snoc em]
        exact up _ _ ((tu_same s7).trans st) (.tup (st _ _ (tu_at er7)) (.cons (.int _) (.cons (.int _) .nil)))
      · have := length_putK kvs (keyK m.1) (.ref r)
        omega
    · rintro σ H2 ⟨u1, u2, u3, u4, kvs, rfl, ep, pr, ln, s⟩
      have lx : xs.length = ms.length := hx.length
      rw [lx, List.take_length] at pr
      refine y_ret (y_cb (y_cons ?_))
      refine y_lc (y_iList (y_cb (y_cons (y_var rfl (y_nil ?_)))))
      have nd := grp_nd ms
      have lk : kvs.length = (grp ms).length := pr.length
      refine ⟨p, kvs, rfl, ep, sEnt_keyd pr, fun qs ys q hq hs pm nq => ?_⟩
      have s1 : Same H2 (upd H2 q (.lst ys)) := same_new nq
      have eq : (upd H2 q (.lst ys)) q = some (.lst ys) := upd_same
      obtain ⟨gs', hy, pg⟩ := pr_perm pm (pr_comp hq pr)
      have hlen : gs'.length = (grp ms).length := pg.length_eq
      generalize upd H2 q (.lst ys) = H3 at s1 eq ⊢
      refine ⟨q, rfl, ⟨ys, sql eq⟩, fun D nD => lc_list (K := K) (a := q) (xs := ys) (fun j G => ∃ acc, G D = some (.lst acc) ∧ Paired (fun v m => Da (tu G) v (mvD m)) acc ((gs'.take j).map mvG) ∧ acc.length = j ∧ Same H3 G) ⟨[], upd_same, .nil, rfl, same_new nD⟩ (fun j G _ h => by obtain ⟨_, _, _, _, s⟩ := h; exact sql (s _ _ eq)) ?_ ?_⟩
      · rintro j x G ej ⟨acc, eD, hp, hl, s2⟩
        obtain ⟨g, eg, kv, ⟨qa, i1, i2, rfl, ek, eqa⟩, ek2, _⟩ := pr_at hy ej
        have eg1 : (i1, i2) = g.1 := keyK_inj (ek.symm.trans ek2)
        have mg : g ∈ grp ms := pg.mem_iff.mp (List.mem_of_getElem? eg)
        have hj : j < gs'.length := (List.getElem?_eq_some_iff.mp eg).1
        obtain ⟨w, hv, dw⟩ := sEnt_val pr nd g mg
        have s02 := s1.trans s2
        refine y_name ⟨rfl, y_yes (y_t rfl ?_)⟩
        refine y_op (y_var (v := .ref qa) rfl ?_)
        refine y_tup (y_cons ?_)
        refine y_var (v := .ref p) rfl ?_
        refine y_var (v := .ref qa) rfl ?_
        refine ⟨p, w, rfl, ?_, ?_⟩
        · rw [← hv, ← eg1]
          exact DGet.t (k := keyK (i1, i2)) (s02 _ _ ep) (s02 _ _ eqa)
        refine y_nil ⟨by show 1 ≤ sizeLine; decide, fun w1 nw1 => ?_⟩
        have sw := same_new (o := .tup [w]) nw1
        refine ⟨qa, w1, _, _, rfl, rfl, sqt (sw _ _ (s02 _ _ eqa)), sqt upd_same, by simp, by show 2 + 1 ≤ sizeLine; decide, fun z => (nomatch z), fun _ w2 nw2 => ?_⟩
        have sw2 := sw.trans (same_new (o := .tup ([.int i1, .int i2] ++ [w])) nw2)
        have ew2 : (upd (upd G w1 (.tup [w])) w2 (.tup ([.int i1, .int i2] ++ [w]))) w2 = some (.tup ([.int i1, .int i2] ++ [w])) := upd_same
        generalize upd (upd G w1 (.tup [w])) w2 (.tup ([.int i1, .int i2] ++ [w])) = G2 at sw2 ew2 ⊢
        have eD2 := sw2 _ _ eD
        have st := tu_mut (o := .lst (acc ++ [.ref w2])) eD2
        have gc := grp_cnt ms
        refine ⟨acc, eD2, sz_lt (by omega), acc ++ [.ref w2], upd_same, ?_, by rw [List.length_append, hl]; rfl, same_mut (s2.trans sw2) nD⟩
        rw [List.take_add_one, eg, List.map_append]
        refine Paired.snoc (hp.mono fun v k h => h.same ((tu_same sw2).trans st)) ?_
        have e1 : mvD (mvG g) = .tuple [.int i1, .int i2, frD (sumP g.2)] := by
          show PyData.tuple [.int g.1.1, .int g.1.2, _] = _
          rw [← eg1]
          rfl
        rw [e1]
        exact .tup (st _ _ (tu_at ew2)) (.cons (.int _) (.cons (.int _) (.cons (dw.same ((tu_same (s02.trans sw2)).trans st)) .nil)))
      · rintro G ⟨acc, eD, hp, hl, s2⟩
        rw [show ys.length = gs'.length from hy.length, List.take_length] at hp
        have hsr : srtG gs' := pr_pairwise (fun x y g g' hk hl h => by
          obtain ⟨kv, ⟨qa, i1, i2, rfl, ek, ea⟩, ek2, _⟩ := hk
          obtain ⟨kv', ⟨qb, j1, j2, rfl, ek', ea'⟩, ek2', _⟩ := hl
          have h : SrtO.lexB (key3 H2 (.ref qb)) (key3 H2 (.ref qa)) = false := h
          rw [key3_at ea, key3_at ea', keyK_inj (a := (i1, i2)) (ek.symm.trans ek2), keyK_inj (a := (j1, j2)) (ek'.symm.trans ek2')] at h
          exact h) hy hs
        refine y_nil ⟨D, acc, rfl, .inl ⟨sql eD, fun o no => ?_⟩⟩
        exact k _ gs' _ pg hsr (.tup (tu_at upd_same) (DaL.pr (hp.mono fun v m h => h.same (tu_new no)))) (((s.trans s1).trans s2).trans (same_new no))
theorem sc_law_got : FnScope ["_law_moves_here"] ["_law_moves_here"] (defScope s_law_got) := ⟨rfl, rfl, rfl, by decide +kernel, rfl, by decide +kernel, by decide +kernel⟩
-- 0 _law_moves_here
theorem ok_law_got {f : Addr} {fd : FuncData} (F : FunD K "_law_got" "_law_got" (defArgs s_law_got) (defBody s_law_got) (defScope s_law_got) [] [] f fd) (B : Blt mg) (Z : Con mg) (GL : GcdF mg) {CG : Addr} (IG : IFC K mg "InvalidGame" CG) (C_merged_moves : CalX P w K mg base 5 "merged_moves" ["moves"] (spMerged CG)) : FnOk P w K mg base CX0 6 f fd ["_law_moves_here"] spGotM := by
  refine F.ok sc_law_got (fun vs H Q E h => ?_) (fun cdv A outer s H vs Q E hr h => ?_)
  · obtain ⟨v, d, rfl, _⟩ := h
    rfl
  · obtain ⟨v, d, rfl, h, sm, h40, k, k1, k2⟩ := h
    refine ⟨_, (pss_one (ps_try_only (tb := fun W => tRet (tFnS (spMerged CG) W (tCons (tVar 0) tNil))) (ts := fun _ _ _ => tRet (tC .non)) (Wout := fun _ _ _ _ => False) rfl rfl ⟨rfl, by decide, Or.inl IG.g⟩ takes0
          (fun W pn xe tk _ => pss_one (ps_ret (pe_fnS C_merged_moves (hr.mono (by decide)) tk (by rfl) (pa_cons (pv 0) pa_nil))))
          (fun a oe cls d pn hz hf => pss_one (ps_ret pe_non)))), ?_⟩
    refine ⟨v, rfl, v, d, rfl, h, sm, h40, k, fun hb H1 s1 => ?_, fun ms e hb h12 H1 s1 => ?_⟩
    · refine ⟨true, IG.te, fun _ a0 _ => ?_, fun q => Bool.noConfusion q⟩
      exact k1 hb _ s1
    · refine ⟨true, IG.te, fun _ a0 _ => ?_, fun q => Bool.noConfusion q⟩
      exact k2 ms e hb h12 _ s1
theorem sc_law_is_game : FnScope ["_law_value", "_law_moves_here", "_law_keys", "_law_move"] ["_law_value"] (defScope s_law_is_game) := ⟨rfl, rfl, rfl, by decide +kernel, rfl, by decide +kernel, by decide +kernel⟩
-- 0 _law_value, 1 _law_moves_here, 2 _law_keys, 3 _law_move
theorem ok_law_is_game {f : Addr} {fd : FuncData} (F : FunD K "_law_is_game" "_law_is_game" (defArgs s_law_is_game) (defBody s_law_is_game) (defScope s_law_is_game) [] [] f fd) (B : Blt mg) (Z : Con mg) (GL : GcdF mg) {CG : Addr} (IG : IFC K mg "InvalidGame" CG) (C_law_is_move : Cal P w K mg base 3 "_law_is_move" ["_law_value", "_law_size_here"] spLMove) (C_law_sum : Cal P w K mg base 3 "_law_sum" ["_law_pairs"] (spLSum K)) : FnOk P w K mg base CX0 4 f fd ["_law_value"] spLGameD := by
  refine F.ok sc_law_is_game (fun vs H Q E h => ?_) (fun cdv A outer s H vs Q E hr h => ?_)
  · obtain ⟨v, d, rfl, _⟩ := h
    rfl
  · obtain ⟨v, d, rfl, h, sm, k⟩ := h
    refine ⟨_, PSs.nox (pss_cons (ps_if (PW.pt (pw_or (pt_not (pt_val (pe_callB (c_isiM (K := K)) (by rfl) B.n_isinstance (by decide +kernel) (pa_cons (pv 0) (pa_cons (pe_bltn (v := .ty "tuple") (by rfl) B.n_tuple (by decide +kernel) rfl) pa_nil))))) (pw_or1 (pt_not (pt_chain op_le op_le pe_int (pe_callB (c_lenQ (K := K)) (by rfl) B.n_len (by decide +kernel) (pa_cons (pv 0) pa_nil)) pe_int))))) (pss_one (ps_ret pe_bl)) pss_nil) (pss_cons (ps_for PassesOwn.never rfl (w_tup (K := K) (pv 0)) (pg_name (i := 1) sc_law_is_game.nd rfl (Or.inl rfl)) (pss_cons (ps_if (PW.pt (pw_or (pt_not (pt_val (pe_callB (c_isiM (K := K)) (by rfl) B.n_isinstance (by decide +kernel) (pa_cons (pv 1) (pa_cons (pe_bltn (v := .ty "tuple") (by rfl) B.n_tuple (by decide +kernel) rfl) pa_nil))))) (pw_or1 (pt_not (pt_chain op_le op_le pe_int (pe_callB (c_lenQ (K := K)) (by rfl) B.n_len (by decide +kernel) (pa_cons (pv 1) pa_nil)) pe_int))))) (pss_one (ps_ret pe_bl)) pss_nil) (pss_cons (ps_if (pt_cmpR (op_neNil hr.units) (pe_lc (own := [("_law_move", 3)]) (g := gName 3) (tt := _) rfl sc_law_is_game.nd (w_tup (K := K) (pv 1)) (blkOk_by (own := [("_law_move", 3)]) (N := ["_law_value", "_law_moves_here", "_law_keys", "_law_move"]) (sc := defScope s_law_is_game) (by decide +kernel)) (fun _ _ _ _ _ => pg_name (i := 3) sc_law_is_game.nd rfl (Or.inl rfl)) (fun _ _ _ _ _ => (pts_one (pt_not (pt_val (pe_fn C_law_is_move (hr.mono (by decide)) (by rfl) (pa_cons (pv 3) (pa_cons (pe_callB (c_lenQ (K := K)) (by rfl) B.n_len (by decide +kernel) (pa_cons (pv 0) pa_nil)) pa_nil))))))) (fun _ _ _ _ _ => (pv 3))) (pe_lst pa_nil) (nomark _)) (pss_one (ps_ret pe_bl)) pss_nil) (pss_cons (ps_setLc (i := 2) (own := [("_law_move", 3)]) (g := gName 3) (tt := tYes) rfl sc_law_is_game.nd rfl rfl (sw_true rfl rfl rfl (by decide +kernel)) (w_tup (K := K) (pv 1)) (blkOk_by (own := [("_law_move", 3)]) (N := ["_law_value", "_law_moves_here", "_law_keys", "_law_move"]) (sc := defScope s_law_is_game) (by decide +kernel)) (fun _ _ _ _ _ => pg_name (i := 3) sc_law_is_game.nd rfl (Or.inl rfl)) (fun _ _ _ _ _ => pts_nil) (fun _ _ _ _ _ => (pe_slice (s_tup (K := K)) (pv 3) po_none (po_some pe_int)))) (pss_one (ps_if (PW.pt (pw_or (pt_cmpR (o_neD (K := K) hr.units) (pv 2) (pe_callB (c_sortedST (P := P) (w := w) rfl) (by rfl) B.n_sorted (by decide +kernel) (pa_cons (pe_callTy (c_setT (K := K) (P := P) (w := w) rfl hr.units) (by rfl) B.n_set (by decide +kernel) (pa_cons (pv 2) pa_nil)) pa_nil)) (nomark _)) (pw_or1 (pt_cmpR (o_neD (K := K) hr.units) (pe_fn C_law_sum (hr.mono (by decide)) (by rfl) (pa_cons (pe_lc (own := [("_law_move", 3)]) (g := gName 3) (tt := tYes) rfl sc_law_is_game.nd (w_tup (K := K) (pv 1)) (blkOk_by (own := [("_law_move", 3)]) (N := ["_law_value", "_law_moves_here", "_law_keys", "_law_move"]) (sc := defScope s_law_is_game) (by decide +kernel)) (fun _ _ _ _ _ => pg_name (i := 3) sc_law_is_game.nd rfl (Or.inl rfl)) (fun _ _ _ _ _ => pts_nil) (fun _ _ _ _ _ => (pe_ix (x_tup (K := K)) (pv 3) pe_int (fun _ _ => rfl)))) pa_nil)) (pe_tup (pa_cons pe_int (pa_cons pe_int pa_nil))) (nomark _))))) (pss_one (ps_ret pe_bl)) pss_nil)))))) (pss_one (ps_ret pe_bl)))), ?_⟩
    walk_at "yy"
    refine y_isTup h ?_
    walk_at "yy"
    cases ht : tupB d with
    | false =>
      refine y_t rfl ?_
      walk_at "yy"
      have e : gameB d = false := by cases d <;> first | rfl | cases ht
      rw [← e]
      exact k _ (Same.refl H)
    | true =>
      obtain ⟨a, xs, ds, rfl, rfl, ea, hl⟩ := h.tupI ht
      refine y_f rfl ?_
      walk_at "yy"
      refine y_lenT (sqt ea) ?_
      walk_at "yy"
      have hn := hl.len
      have no : ∀ H', Same H H' → gameB (.tuple ds) = false → Q (.bl false) H' := fun H' s e => by
        rw [← e]
        exact k H' s
      have gd : gameB (.tuple ds) = ((decide (1 ≤ ds.length) && decide (ds.length ≤ 8)) && ds.all fun ms => movesB 12 ds.length ms && ascD ms) := rfl
      refine y_ite (fun h1 => ?_) (fun h1 => ?_)
      case refine_2 =>
        walk_at "yy"
        walk_at "yt"
        walk_at "yy"
        have h1 := of_decide_eq_false h1
        refine no H (Same.refl H) ?_
        rw [gd, decide_eq_false (show ¬ 1 ≤ ds.length by omega), Bool.false_and, Bool.false_and]
      have h1 := of_decide_eq_true h1
      walk_at "yy"
      refine y_ite (fun h2 => ?_) (fun h2 => ?_)
      · walk_at "yy"
        have h2 := of_decide_eq_false ((Bool.not_eq_true' _).mp h2)
        refine no H (Same.refl H) ?_
        rw [gd, decide_eq_false (show ¬ ds.length ≤ 8 by omega), Bool.and_false, Bool.false_and]
      have h2 := of_decide_eq_true ((Bool.not_eq_false' _).mp h2)
      refine y_next ?_
      refine y_seq ?_
      refine y_for (y_iTup (y_var rfl ⟨a, rfl, ⟨xs, sqt ea⟩, ?_⟩))
      refine y_forW (b := fun _ _ => False) (c := fun _ _ => False) (walk_tup (K := K) (a := a) (xs := xs)) (fun i σ H2 => ∃ u1 u2 u3, σ = [some (.ref a), u1, u2, u3] ∧ (∀ r ∈ ds.take i, (movesB 12 ds.length r && ascD r) = true) ∧ Same H H2) ⟨_, _, _, rfl, fun _ h => (nomatch h), Same.refl H⟩ (fun i σ H2 _ h => by obtain ⟨_, _, _, _, _, s⟩ := h; exact sqt (s _ _ ea)) ?_ ?_
      case refine_2 =>
        rintro σ H2 ⟨u1, u2, u3, rfl, hall, s⟩
        rw [hn, List.take_length] at hall
        walk_at "yy"
        have e : gameB (.tuple ds) = true := by
          rw [gd, decide_eq_true (show 1 ≤ ds.length by omega), decide_eq_true (show ds.length ≤ 8 by omega), Bool.true_and, Bool.true_and, List.all_eq_true]
          exact hall
        rw [← e]
        exact k _ s
      rintro i x σ H2 H3 hi ⟨u1, u2, u3, rfl, hall, s⟩ ⟨rfl, ex⟩
      obtain ⟨r, er, hr0⟩ := hl.at ex
      have hr1 := hr0.same s
      have mr := List.mem_of_getElem? er
      have smr := smDs_mem (show smDs ds = true from sm) r mr
      have bad : (movesB 12 ds.length r && ascD r) = false → gameB (.tuple ds) = false := fun e => by
        cases q : gameB (.tuple ds) with
        | false => rfl
        | true =>
          rw [game_at q mr] at e
          cases e
      clear hr0 ex
      walk_at "yy"
      refine y_isTup hr1 ?_
      walk_at "yy"
      cases hb : tupB r with
      | false =>
        refine y_t rfl ?_
        walk_at "yy"
        refine no _ s (bad ?_)
        have : movesB 12 ds.length r = false := by cases r <;> first | rfl | cases hb
        rw [this, Bool.false_and]
      | true =>
      obtain ⟨ra, rx, es, rfl, rfl, era, hrl⟩ := hr1.tupI hb
      have hre := hrl.len
      have bad0 : es.all (lmoveB ds.length) = false → (movesB 12 ds.length (.tuple es) && ascD (.tuple es)) = false := fun e => by
        cases q : movesB 12 ds.length (.tuple es) with
        | false => rfl
        | true =>
          rw [moves_all q] at e
          cases e
      refine y_f rfl ?_
      walk_at "yy"
      refine y_lenT (sqt era) ?_
      walk_at "yy"
      have badl : ¬ (1 ≤ es.length ∧ es.length ≤ 12) → (movesB 12 ds.length (.tuple es) && ascD (.tuple es)) = false := fun q => by
        have : movesB 12 ds.length (.tuple es) = false := by
          show ((decide (1 ≤ es.length) && decide ((es.length : Int) ≤ 12)) && _) = false
          by_cases q1 : 1 ≤ es.length
          · rw [decide_eq_false (show ¬ ((es.length : Int) ≤ 12) by omega), Bool.and_false, Bool.false_and]
          · rw [decide_eq_false q1, Bool.false_and, Bool.false_and]
        rw [this, Bool.false_and]
      refine y_ite (fun l1 => ?_) (fun l1 => ?_)
      case refine_2 =>
        walk_at "yy"
        walk_at "yt"
        walk_at "yy"
        have l1 := of_decide_eq_false l1
        exact no _ s (bad (badl (by omega)))
      have l1 := of_decide_eq_true l1
      walk_at "yy"
      refine y_ite (fun l2 => ?_) (fun l2 => ?_)
      · walk_at "yy"
        have l2 := of_decide_eq_false ((Bool.not_eq_true' _).mp l2)
        exact no _ s (bad (badl (by omega)))
      have l2 := of_decide_eq_true ((Bool.not_eq_false' _).mp l2)
      refine y_next ?_
      refine y_seq (y_ifs (y_test (y_op ?_)))
      refine y_lc (y_iTup (y_var rfl ⟨ra, rfl, ⟨rx, sqt era⟩, fun D nD => lc_it (walk_tup (K := K) (a := ra) (xs := rx)) (fun j G => ∃ acc, G D = some (.lst acc) ∧ acc.isEmpty = (es.take j).all (lmoveB ds.length) ∧ acc.length ≤ j ∧ Same H3 G) ⟨[], upd_same, rfl, Nat.le_refl _, same_new nD⟩ (fun _ _ _ h => by obtain ⟨_, _, _, _, s⟩ := h; exact sqt (s _ _ era)) ?_ ?_⟩))
      · rintro j y G G2 hj ⟨acc, eD, em, ln, s2⟩ ⟨rfl, hy⟩
        obtain ⟨dd, ed, hd⟩ := hrl.at hy
        walk_at "yy"
        refine ⟨rfl, ?_⟩
        walk_at "yy"
        refine y_lenT (sqt (s2 _ _ (s _ _ ea))) ?_
        have smd := smDs_mem (show smDs es = true from smr) dd (List.mem_of_getElem? ed)
        refine ⟨y, dd, (xs.length : Nat), rfl, hd.same s2, smd, fun G3 s3 => ?_⟩
        rw [hn]
        have et : (es.take (j + 1)).all (lmoveB ds.length) = ((es.take j).all (lmoveB ds.length) && lmoveB ds.length dd) := by rw [List.take_add_one, ed, List.all_append]; show (_ && (lmoveB ds.length dd && true)) = _; rw [Bool.and_true]
        walk_at "yy"
        cases b1 : lmoveB ds.length dd with
        | true =>
          refine y_f rfl ?_
          exact ⟨acc, s3 _ _ eD, by rw [et, b1, Bool.and_true]; exact em, by omega, s2.trans s3⟩
        | false =>
          refine y_t rfl ?_
          walk_at "yy"
          refine ⟨acc, s3 _ _ eD, sz_lt (by omega), acc ++ [y], upd_same, ?_, by rw [List.length_append]; show acc.length + 1 ≤ j + 1; omega, same_mut (s2.trans s3) nD⟩
          rw [et, b1, Bool.and_false]
          cases acc <;> rfl
      rintro G ⟨acc, eD, em, ln, s2⟩
      rw [hre, List.take_length] at em
      refine y_lst (y_nil ⟨by show 0 ≤ sizeLine; decide, fun e ne => ?_⟩)
      have s3 := s2.trans (same_new (o := .lst []) ne)
      refine y_neNil (xs := acc) (same_new ne _ _ eD) upd_same ?_
      generalize upd G e (.lst []) = G2 at s3 ⊢
      clear eD ne ln s2 nD
      rw [em]
      clear em
      refine y_bl ?_
      cases al : es.all (lmoveB ds.length) with
      | false =>
        refine y_t rfl ?_
        walk_at "yy"
        exact no _ (s.trans s3) (bad (bad0 al))
      | true =>
      refine y_f rfl ?_
      have hmv := lall_all al
      obtain ⟨ms, rfl⟩ := mv_of hmv
      have req := row_eq (by rw [List.length_map] at hre; omega) (by rw [List.length_map] at hre; omega) hmv
      have pT : Paired (fun v m => Da (tu G2) v (mvD m)) rx ms := ((hrl.same s3).tu (Same.refl _) (msD_tup ms)).pr'
      have lx : rx.length = ms.length := pT.length
      have era2 := s3 _ _ era
      have sG := s.trans s3
      refine y_next ?_
      refine y_seq (y_asg (y_lc (y_iTup (y_var rfl ⟨ra, rfl, ⟨rx, sqt era2⟩, fun D nD => lc_it (walk_tup (K := K) (a := ra) (xs := rx)) (fun j G => ∃ kr, G D = some (.lst kr) ∧ Paired (KAt (tu G)) kr ((ms.take j).map (·.1)) ∧ kr.length = j ∧ Same G2 G) ⟨[], upd_same, .nil, rfl, same_new nD⟩ (fun _ _ _ h => by obtain ⟨_, _, _, _, s⟩ := h; exact sqt (s _ _ era2)) ?_ ?_⟩))))
      · rintro j y G0 G hj ⟨kr, eD, hk, ln, s4⟩ ⟨rfl, hy⟩
        obtain ⟨m, em, hm⟩ := pr_at pT hy
        have hm := hm.same (tu_same s4)
        cases hm with
        | @tup am _ _ eam rr =>
        cases rr with
        | cons r1 rr =>
        cases rr with
        | cons r2 rr =>
        cases rr with
        | @cons c3 _ _ _ r3 rr =>
        cases rr
        cases r1
        cases r2
        walk_at "yy"
        refine ⟨rfl, ?_⟩
        walk_at "yy"
        walk_at "yt"
        walk_at "yy"
        refine ⟨2, rfl, am, _, rfl, sqt (tu_sub _ _ eam), cut2, fun p1 np1 => ?_⟩
        have ep1 : (upd G p1 (.tup (cutV [.int m.1.1, .int m.1.2, c3] none (some 2)))) p1 = some (.tup [.int m.1.1, .int m.1.2]) := upd_same
        have sp1 := same_new (o := .tup (cutV [.int m.1.1, .int m.1.2, c3] none (some 2))) np1
        generalize upd G p1 (.tup (cutV [.int m.1.1, .int m.1.2, c3] none (some 2))) = G4 at ep1 sp1 ⊢
        have eD4 := sp1 _ _ eD
        have st := tu_mut (o := .lst (kr ++ [.ref p1])) eD4
        refine ⟨kr, eD4, sz_lt (by omega), kr ++ [.ref p1], upd_same, ?_, by rw [List.length_append, ln]; rfl, same_mut (s4.trans sp1) nD⟩
        rw [List.take_add_one, em, List.map_append]
        exact Paired.snoc (hk.mono fun v k h => h.same ((tu_same sp1).trans st)) ⟨p1, rfl, st _ _ (tu_at ep1)⟩
      rintro G ⟨kr, eD, hk, ln, s4⟩
      rw [lx, List.take_length] at hk
      have hk := hk.mono (F' := KAt G) fun v k h => h.same tu_sub
      obtain ⟨L0, rfl, eL, fL⟩ := kat_L hk
      have lL : L0.length < 64 := by rw [List.length_map] at ln hre; omega
      refine y_name ?_
      refine y_ifs (y_or (y_test (y_op (y_var rfl ?_))))
      refine y_cb (y_cons (y_cb (y_cons (y_var rfl (y_nil ?_)))))
      refine ⟨D, L0, rfl, sql eD, fun p mp => by
        obtain ⟨i1, i2, e, h⟩ := fL p mp
        rw [e]
        exact sqt h, lL, fun sa L nsa hL1 hL2 => ?_⟩
      have s5 := same_new (o := SetTO P w sa L) nsa
      have esa : (upd G sa (SetTO P w sa L)) sa = some (SetTO P w sa L) := upd_same
      generalize upd G sa (SetTO P w sa L) = G5 at s5 esa ⊢
      have fL5 : ∀ p ∈ L0, ∃ i j : Int, p.2 = [i, j] ∧ G5 p.1 = some (.tup [.int i, .int j]) := fun p mp => by
        obtain ⟨i1, i2, e, h⟩ := fL p mp
        exact ⟨i1, i2, e, s5 _ _ h⟩
      refine y_nil ⟨sa, L, rfl, esa, fun p mp => fL5 p (hL1 p mp), fun ys o nd srt pm no' => ?_⟩
      obtain ⟨k2, hy2, nd2, so2, mem2⟩ := kat_sorted eL fL5 hL1 hL2 nd pm srt
      have s6 := same_new (o := .lst ys) no'
      have eo : (upd G5 o (.lst ys)) o = some (.lst ys) := upd_same
      generalize upd G5 o (.lst ys) = G6 at s6 eo ⊢
      have d1 : Dp K G6 (.ref D) (.list ((ms.map (·.1)).map kD)) := .lst (sql (s6 _ _ (s5 _ _ eD))) (dp_keys (hk.mono fun v k h => h.same (s5.trans s6)))
      have d2 : Dp K G6 (.ref o) (.list (k2.map kD)) := .lst (sql eo) (dp_keys (hy2.mono fun v k h => h.same s6))
      refine ⟨_, _, d1, d2, shaped_keys _, shaped_keys _, ?_⟩
      have s36 : Same H3 G6 := s3.trans (s4.trans (s5.trans s6))
      have ea1 : PyData.eqv (.list ((ms.map (·.1)).map kD)) (.list (k2.map kD)) = ascB (ms.map mvD) := by
        show PyData.eqvAll ((ms.map (·.1)).map kD) (k2.map kD) = _
        rw [eqv_keys, Bool.eq_iff_iff, decide_eq_true_iff, asc_pw]
        exact asc_set nd2 so2 mem2
      rw [ea1]
      refine y_bl ?_
      cases hasc : ascB (ms.map mvD) with
      | false =>
        refine y_t rfl ?_
        walk_at "yy"
        refine no _ (s.trans s36) (bad ?_)
        rw [show (PyData.tuple (ms.map mvD)) = msD ms from rfl, req, hasc, Bool.and_false]
      | true =>
      refine y_f rfl ?_
      have pT6 := pT.mono (F' := fun v m => Da (tu G6) v (mvD m)) fun v m h => h.same (tu_same (s4.trans (s5.trans s6)))
      have era6 := s36 _ _ era
      refine y_test (y_op (y_fn (y_cons (y_lc (y_iTup (y_var rfl ⟨ra, rfl, ⟨rx, sqt era6⟩, fun D2 nD2 => lc_it (walk_tup (K := K) (a := ra) (xs := rx)) (fun j G => ∃ cr, G D2 = some (.lst cr) ∧ Paired (fun v c => Da (tu G) v (frD c)) cr ((ms.take j).map (·.2)) ∧ cr.length = j ∧ Same G6 G) ⟨[], upd_same, .nil, rfl, same_new nD2⟩ (fun _ _ _ h => by obtain ⟨_, _, _, _, s⟩ := h; exact sqt (s _ _ era6)) ?_ ?_⟩))))))
      · rintro j y G7 G8 hj ⟨cr, eD2, hc2, ln2, s7⟩ ⟨rfl, hy⟩
        obtain ⟨m, em, hm⟩ := pr_at pT6 hy
        have hm := hm.same (tu_same s7)
        cases hm with
        | @tup am _ _ eam rr =>
        cases rr with
        | cons r1 rr =>
        cases rr with
        | cons r2 rr =>
        cases rr with
        | @cons c3 _ _ _ r3 rr =>
        cases rr
        walk_at "yy"
        refine ⟨rfl, ?_⟩
        walk_at "yy"
        walk_at "yt"
        walk_at "yy"
        refine y_ixT (sqt (tu_sub _ _ eam)) (v := c3) rfl ?_
        have st := tu_mut (o := .lst (cr ++ [c3])) eD2
        refine ⟨cr, eD2, sz_lt (by omega), cr ++ [c3], upd_same, ?_, by rw [List.length_append, ln2]; rfl, same_mut s7 nD2⟩
        rw [List.take_add_one, em, List.map_append]
        exact Paired.snoc (hc2.mono fun v c h => h.same st) (r3.same st)
      rintro G7 ⟨cr, eD2, hc2, ln2, s7⟩
      rw [lx, List.take_length] at hc2
      have hfine : ∀ p ∈ ms.map (·.2), smPair p ∧ Nat.gcd p.1.natAbs p.2.natAbs = 1 := fun p mp => by
        obtain ⟨m, mm, rfl⟩ := List.mem_map.mp mp
        have q : mvD m ∈ ms.map mvD := List.mem_map.mpr ⟨m, mm, rfl⟩
        exact mv_fine (hmv _ q) (smDs_mem (show smDs (ms.map mvD) = true from smr) _ q)
      refine y_nil ⟨D2, cr, ms.map (·.2), rfl, eD2, DaL.pr (hc2.mono fun v c h => h.same tu_sub), hfine, by rw [List.length_map] at hre ⊢; omega, fun sv G8 dv s8 => ?_⟩
      refine y_tup (y_cons (y_con (y_cons (y_con (y_nil ⟨by show 2 ≤ sizeLine; decide, fun o2 no2 => ?_⟩)))))
      have s9 := same_new (o := .tup [.int 1, .int 1]) no2
      have eo2 : (upd G8 o2 (.tup [.int 1, .int 1])) o2 = some (.tup [.int 1, .int 1]) := upd_same
      generalize upd G8 o2 (.tup [.int 1, .int 1]) = G9 at s9 eo2 ⊢
      have dv := dv.same s9
      unfold frD at dv
      cases dv with
      | @tup z _ _ ez rz =>
      cases rz with
      | cons r1 rz =>
      cases rz with
      | cons r2 rz =>
      cases rz
      cases r1
      cases r2
      have e1 : Dp K G9 (.ref z) (frD (sumP (ms.map (·.2)))) := .tup (sqt ez) (.cons (.int _) (.cons (.int _) .nil))
      have e2 : Dp K G9 (.ref o2) (.tuple [.int 1, .int 1]) := .tup (sqt eo2) (.cons (.int _) (.cons (.int _) .nil))
      refine ⟨_, _, e1, e2, rfl, rfl, ?_⟩
      have sF : Same H3 G9 := s36.trans (s7.trans (s8.trans s9))
      rw [show PyData.eqv (frD (sumP (ms.map (·.2)))) (.tuple [.int 1, .int 1]) = decide (sumP (ms.map (·.2)) = (1, 1)) from eqv_pair (q := (1, 1))]
      refine y_bl ?_
      rw [hasc, Bool.and_true] at req
      cases hsum : decide (sumP (ms.map (·.2)) = (1, 1)) with
      | false =>
        refine y_t rfl ?_
        walk_at "yy"
        refine no _ (s.trans sF) (bad ?_)
        rw [show (PyData.tuple (ms.map mvD)) = msD ms from rfl, req, hsum]
      | true =>
        refine y_f rfl ?_
        refine ⟨_, _, _, rfl, fun r2 mr2 => ?_, s.trans sF⟩
        rw [List.take_add_one, er] at mr2
        rcases List.mem_append.mp mr2 with mr2 | mr2
        · exact hall r2 mr2
        · rw [show r2 = msD ms from List.mem_singleton.mp mr2, req, hsum]
theorem sc_law_bent : FnScope ["_law_dice_here", "_law_game_here", "_law_at", "_law_way", "_law_moves_here", "_law_spot", "_law_to", "_law_gain", "_law_chance", "_law_found"] ["_law_dice_here", "_law_game_here"] (defScope s_law_bent) := ⟨rfl, rfl, rfl, by decide +kernel, rfl, by decide +kernel, by decide +kernel⟩
-- 0 _law_dice_here, 1 _law_game_here, 2 _law_at, 3 _law_way, 4 _law_moves_here, 5 _law_spot, 6 _law_to, 7 _law_gain, 8 _law_chance, 9 _law_found
theorem ok_law_bent {f : Addr} {fd : FuncData} (F : FunD K "_law_bent" "_law_bent" (defArgs s_law_bent) (defBody s_law_bent) (defScope s_law_bent) [] [] f fd) (B : Blt mg) (Z : Con mg) (GL : GcdF mg) {CG : Addr} (IG : IFC K mg "InvalidGame" CG) (C_law_roll : Cal P w K mg base 1 "_law_roll" ["_law_dice_here", "_law_total"] spRoll) (C_law_pick : Cal P w K mg base 2 "_law_pick" ["_law_dice_here", "_law_items"] (spPick K)) : FnOk P w K mg base CX0 4 f fd ["_law_dice_here", "_law_game_here"] spBent := by
  refine F.ok sc_law_bent (fun vs H Q E h => ?_) (fun cdv A outer s H vs Q E hr h => ?_)
  · obtain ⟨d, gv, n, g, rfl, _⟩ := h
    rfl
  · obtain ⟨d, gv, n, g, rfl, hD, n1, n3, ok, hg, k⟩ := h
    refine ⟨_, PSs.nox (pss_cons (ps_par (i := 2) (j := 3) (by rfl) sc_law_bent.nd rfl rfl (by decide) rfl rfl (pa_cons (pe_fn C_law_roll (hr.mono (by decide)) (by rfl) (pa_cons (pv 0) (pa_cons (pe_callB (c_lenQ (K := K)) (by rfl) B.n_len (by decide +kernel) (pa_cons (pv 1) pa_nil)) pa_nil))) (pa_cons (pe_fn C_law_roll (hr.mono (by decide)) (by rfl) (pa_cons (pv 0) (pa_cons pe_int pa_nil))) pa_nil)) (by rfl)) (pss_cons (ps_set (i := 4) sc_law_bent.nd rfl (Or.inl rfl) (pe_callTy (c_listQ (K := K)) (by rfl) B.n_list (by decide +kernel) (pa_cons (pe_ix (x_tup (K := K)) (pv 1) (pv 2) (fun _ _ => rfl)) pa_nil))) (pss_cons (ps_set (i := 5) sc_law_bent.nd rfl (Or.inl rfl) (pe_fn C_law_roll (hr.mono (by decide)) (by rfl) (pa_cons (pv 0) (pa_cons (pe_callB (c_lenQ (K := K)) (by rfl) B.n_len (by decide +kernel) (pa_cons (pv 4) pa_nil)) pa_nil)))) (pss_cons (ps_asg (pe_ix (x_list (K := K)) (pv 4) (pv 5) (fun _ _ => rfl)) (g_tup (K := K) (n := 3) (by rfl) (pgs_cons (pg_name (i := 6) sc_law_bent.nd rfl (Or.inl rfl)) (pgs_cons (pg_name (i := 7) sc_law_bent.nd rfl (Or.inl rfl)) (pgs_cons (pg_name (i := 8) sc_law_bent.nd rfl (Or.inl rfl)) pgs_nil))))) (pss_cons (ps_if (pt_cmpR op_eq (pv 3) pe_int (nomark _)) (pss_one (ps_asg (pe_tup (pa_cons (pe_fn C_law_pick (hr.mono (by decide)) (by rfl) (pa_cons (pv 0) (pa_cons (pe_lst (pa_cons (pe_op op_add (pv 6) pe_int) (pa_cons (pe_un un_neg pe_int) (pa_cons pe_int (pa_cons pe_non (pa_cons pe_bl (pa_cons pe_str (pa_cons (pe_callB (c_lenQ (K := K)) (by rfl) B.n_len (by decide +kernel) (pa_cons (pv 1) pa_nil)) pa_nil)))))))) pa_nil))) (pa_cons (pv 7) (pa_cons (pv 8) pa_nil)))) (pg_sub (pv 4) (pv 5) set_list))) pss_nil) (pss_cons (ps_if (pt_cmpR op_eq (pv 3) pe_int (nomark _)) (pss_one (ps_asg (pe_tup (pa_cons (pv 6) (pa_cons (pe_fn C_law_pick (hr.mono (by decide)) (by rfl) (pa_cons (pv 0) (pa_cons (pe_lst (pa_cons pe_int (pa_cons (pe_un un_neg pe_int) (pa_cons pe_int (pa_cons (pe_un un_neg pe_int) (pa_cons pe_non (pa_cons pe_bl (pa_cons pe_str (pa_cons (pe_op op_add (pv 7) pe_int) pa_nil))))))))) pa_nil))) (pa_cons (pv 8) pa_nil)))) (pg_sub (pv 4) (pv 5) set_list))) pss_nil) (pss_cons (ps_if (pt_cmpR op_eq (pv 3) pe_int (nomark _)) (pss_one (ps_asg (pe_tup (pa_cons (pv 6) (pa_cons (pv 7) (pa_cons (pe_fn C_law_pick (hr.mono (by decide)) (by rfl) (pa_cons (pv 0) (pa_cons (pe_lst (pa_cons (pe_tup (pa_cons pe_int (pa_cons pe_int pa_nil))) (pa_cons (pe_tup (pa_cons pe_int (pa_cons pe_int pa_nil))) (pa_cons (pe_tup (pa_cons pe_int (pa_cons pe_int pa_nil))) (pa_cons (pe_tup (pa_cons pe_int (pa_cons pe_int pa_nil))) (pa_cons (pe_tup (pa_cons (pe_un un_neg pe_int) (pa_cons pe_int pa_nil))) (pa_cons pe_non (pa_cons pe_str (pa_cons (pe_tup (pa_cons pe_int (pa_cons pe_int pa_nil))) (pa_cons (pe_lst (pa_cons pe_int (pa_cons pe_int pa_nil))) (pa_cons pe_int pa_nil))))))))))) pa_nil))) pa_nil)))) (pg_sub (pv 4) (pv 5) set_list))) pss_nil) (pss_cons (ps_if (pt_cmpR op_eq (pv 3) pe_int (nomark _)) (pss_one (ps_set (i := 4) sc_law_bent.nd rfl (Or.inl rfl) (pe_fn C_law_pick (hr.mono (by decide)) (by rfl) (pa_cons (pv 0) (pa_cons (pe_lst (pa_cons (e_revL (K := K) (pv 4)) (pa_cons (pe_slice (s_lst (K := K)) (pv 4) po_none (po_some (pe_un un_neg pe_int))) (pa_cons (pe_op op_cat (pv 4) (pv 4)) (pa_cons (pe_op op_cat (pe_lst (pa_cons (pe_op (op_catE (K := K)) (pe_ix (x_list (K := K)) (pv 4) pe_int (fun _ _ => rfl)) (pe_tup (pa_cons pe_int pa_nil))) pa_nil)) (pe_slice (s_lst (K := K)) (pv 4) (po_some pe_int) po_none)) (pa_cons (pe_lst (pa_cons (pe_slice (s_tup (K := K)) (pe_ix (x_list (K := K)) (pv 4) pe_int (fun _ _ => rfl)) po_none (po_some pe_int)) pa_nil)) pa_nil)))))) pa_nil))))) pss_nil) (pss_cons (ps_set (i := 9) sc_law_bent.nd rfl (Or.inl rfl) (pe_op (op_catE (K := K)) (pe_op (op_catE (K := K)) (pe_slice (s_tup (K := K)) (pv 1) po_none (po_some (pv 2))) (pe_tup (pa_cons (pe_ifExp (pt_cmpR op_eq (pv 3) pe_int (nomark _)) (pv 4) (pe_callTy (c_tupQ (K := K)) (by rfl) B.n_tuple (by decide +kernel) (pa_cons (pv 4) pa_nil))) pa_nil))) (pe_slice (s_tup (K := K)) (pv 1) (po_some (pe_op op_add (pv 2) pe_int)) po_none))) (pss_cons (ps_if (pt_cmpR op_ne (pv 3) pe_int (nomark _)) (pss_one (ps_ret (pv 9))) pss_nil) (pss_one (ps_ret (pe_fn C_law_pick (hr.mono (by decide)) (by rfl) (pa_cons (pv 0) (pa_cons (pe_lst (pa_cons (pv 9) (pa_cons (pe_callTy (c_listQ (K := K)) (by rfl) B.n_list (by decide +kernel) (pa_cons (pv 9) pa_nil)) (pa_cons (pe_op (op_catE (K := K)) (pv 9) (pe_tup (pa_cons (pe_tup pa_nil) pa_nil))) (pa_cons (pe_slice (s_tup (K := K)) (pv 9) (po_some pe_int) po_none) (pa_cons pe_non pa_nil)))))) pa_nil))))))))))))))), ?_⟩
    have hg0 := hg
    unfold gmD at hg0
    cases hg0 with
    | @tup ga gxs _ eg hgl =>
    have ega := tu_sub _ _ eg
    have hgp := hgl.pr'
    have lg : gxs.length = n := by rw [hgp.length, ok.len]
    walk_at "yy"
    refine y_lenT (sqt ega) ?_
    walk_at "yy"
    refine ⟨d, (gxs.length : Nat), rfl, hD, by omega, big_of (by omega), fun at_ H1 a0 a1 hD1 f1 => ?_⟩
    walk_at "yy"
    refine ⟨d, 6, rfl, hD1, by decide, by decide +kernel, fun way H2 w0 w1 hD2 f2 => ?_⟩
    refine y_nil (y_par2 ?_)
    have f02 := f1.trans f2
    have st2 := tu_fr f02 hD
    obtain ⟨rv, erv, _⟩ := getD_at a0 a1
    obtain ⟨ms, ems, hrv⟩ := pr_at hgp erv
    have okm := ok.ok ms (List.mem_of_getElem? ems)
    have hrv := hrv.same st2
    unfold msD at hrv
    cases hrv with
    | @tup ra rxs _ er hrl =>
    have hrp := hrl.pr'
    have lr : rxs.length = ms.length := hrp.length
    have lr1 := okm.l1
    have lr3 := okm.l3
    walk_at "yy"
    refine y_ixT (sqt (tu_sub _ _ (st2 _ _ eg))) (at_nat a0 erv) ?_
    walk_at "yy"
    refine y_listT (sqt (tu_sub _ _ er)) fun M nM => ?_
    have s3 : Same H2 (upd H2 M (.lst rxs)) := same_new nM
    have eM : (upd H2 M (.lst rxs)) M = some (.lst rxs) := upd_same
    have nMd : M ≠ d := hD2.ne nM
    have hD3 := hD2.same s3
    generalize upd H2 M (.lst rxs) = H3 at s3 eM hD3 ⊢
    walk_at "yy"
    refine y_lenL (sql eM) ?_
    walk_at "yy"
    refine ⟨d, (rxs.length : Nat), rfl, hD3, by omega, big_of (by omega), fun spot H4 p0 p1 hD4 f4 => ?_⟩
    have f24 : Fr d H2 H4 := (Fr.of_same s3).trans f4
    have st24 := tu_fr f24 hD2
    have f04 := f02.trans f24
    have eM4 := f4 _ _ eM nMd
    obtain ⟨mv, emv, _⟩ := getD_at p0 p1
    obtain ⟨m, em, hmv⟩ := pr_at hrp emv
    have okmv := okm.ok m (List.mem_of_getElem? em)
    have hmv := hmv.same st24
    cases hmv with
    | @tup ma _ _ ema hml =>
    cases hml with
    | cons r1 hml =>
    cases hml with
    | cons r2 hml =>
    cases hml with
    | @cons cv _ _ _ hcv hml =>
    cases hml
    cases r1
    cases r2
    walk_at "yy"
    refine y_ixL (sql eM4) (at_nat p0 emv) ?_
    refine y_gtup rfl (sqt (tu_sub _ _ ema)) rfl ?_
    refine y_gcons (y_name (y_gcons (y_name (y_gcons (y_name (y_gnil ?_))))))
    have nM0 : H M = none := by
      cases z : H M with
      | none => rfl
      | some o => rw [f02 _ _ z nMd] at nM; cases nM
    obtain ⟨xs, es, eM, hes, sme, l0, lsp, l100, nM0, hDk, f0k, hgk, hck⟩ : ∃ (xs : List V) (es : List PyData), H4 M = some (.lst xs) ∧ DaL (sans (sans H4 d) M) xs es ∧ (smDs es = true ∧ es.all is3 = true) ∧ 0 < xs.length ∧ spot < xs.length ∧ xs.length ≤ 100 ∧ H M = none ∧ DiceAt H4 d ∧ Fr d H H4 ∧ Da (tu H4) (.ref ga) (gmD g) ∧ Da (tu H4) cv (frD m.2) :=
      ⟨rxs, ms.map mvD, eM4, (hrl.same st24).same (tu_sans2 hD4 eM4), ⟨ms_small n3 okm.ok, mv_is3 ms⟩, by omega, by omega, by omega, nM0, hD4, f04, hg.same (tu_fr f04 hD), hcv⟩
    clear hrl hrp eM4 hD4 f04 f24 st24 f02 st2
    have q1 := okmv.t0
    have q2 := okmv.tn
    have q3 := okmv.g0
    have q4 := okmv.g1
    have q5 := okmv.ch.pos
    have q6 := okmv.ch.le
    have q7 := okmv.ch.sm
    have q8 := ok.len
    refine y_seq (y_ifs (y_test (y_op (y_var rfl (y_con (y_eqI (y_bl ?_)))))))
    refine y_joinI (BSt d (.ref ga) n g H at_ way spot m.1.1 m.1.2 cv m.2) ⟨M, xs, es, rfl, eM, hes, sme, l0, lsp, l100, nMd, nM0, hDk, f0k, hgk, hck⟩ (fun σ5 Hn hB => ?_) fun hw J => ?_
    case refine_2 =>
      have hg4 : Da (tu H4) (.ref ga) (.tuple (g.map msD)) := hgk
      refine y_asg (y_tup (y_cons (y_fn (y_cons (y_var rfl (y_cons ?_))))))
      refine DaF.use (d := d) (M := M) (x := .list [.int (m.1.1 + 1), .int (-1), .int 8, .none, .bool true, .str "0", .int (((g.map msD).length : Nat) : Int)]) (by repeat' first | exact daf_int | exact daf_str | exact daf_non | exact daf_bl | exact daf_neg | exact dag_nil | exact daf_addv rfl | exact daf_len rfl (by assumption) | exact daf_var rfl (by assumption) | refine dag_cons ?_ ?_ | refine daf_tup hDk eM (by first | decide | simp) ?_ | refine daf_lst hDk eM (by first | decide | simp) ?_) fun lv H5 s5 hl => y_nil ?_
      cases hl with
      | @lst la lxs _ el hll =>
      have el5 := sans_sub _ _ (sans_sub _ _ el)
      have lad : la ≠ d := sans_ne (sans_sub _ _ el)
      refine ⟨d, la, lxs, rfl, hDk.same s5, sql el5, lad, by rw [hll.len]; simp, by rw [hll.len]; simp, fun v H6 mv hD6 f6 => ?_⟩
      obtain ⟨x, mx, hx⟩ := hll.mem mv
      have smx : smD x = true := smDs_mem (show smDs [.int (m.1.1 + 1), .int (-1), .int 8, .none, .bool true, .str "0", .int (((g.map msD).length : Nat) : Int)] = true by simp [smDs, smD, frD]; try omega) x mx
      refine y_cons (y_var rfl (y_cons (y_var rfl (y_nil ⟨by show 3 ≤ sizeLine; decide, fun o no => ?_⟩))))
      have s7 : Same H6 (upd H6 o (.tup [v, .int m.1.2, cv])) := same_new no
      have eo : (upd H6 o (.tup [v, .int m.1.2, cv])) o = some (.tup [v, .int m.1.2, cv]) := upd_same
      have nod : o ≠ d := hD6.ne no
      have eM6 := f6 _ _ (s5 _ _ eM) nMd
      have noM : o ≠ M := (ne_of_none eM6 no).symm
      have hD7 := hD6.same s7
      have eM7 := s7 _ _ eM6
      have f7 : Fr d H4 (upd H6 o (.tup [v, .int m.1.2, cv])) := (Fr.of_same s5).trans (f6.trans (Fr.of_same s7))
      have hx7 := hx.same ((sans2_fr f6).trans (sans2_mono s7))
      have st7 : Same (tu H4) (tu (upd H6 o (.tup [v, .int m.1.2, cv]))) := tu_fr f7 hDk
      have hc7 := (hck.same st7).same (tu_sans2 hD7 eM7)
      generalize upd H6 o (.tup [v, .int m.1.2, cv]) = H7 at s7 eo hD7 eM7 f7 hx7 st7 hc7 ⊢
      have stM := tu_mut (o := .lst (xs.set spot.toNat (.ref o))) eM7
      refine y_sub (y_var rfl (y_var rfl (y_setL eM7 (j := spot.toNat) (by unfold ixN; rw [if_pos p0, if_pos lsp]) ?_)))
      refine J _ _ ⟨M, xs.set spot.toNat (.ref o), es.set spot.toNat (.tuple [x, .int m.1.2, frD m.2]), rfl, upd_same, ?_, ⟨smDs_set sme.1 ?_, all_set sme.2 rfl⟩, by rw [List.length_set]; exact l0, by rw [List.length_set]; exact lsp, by rw [List.length_set]; exact l100, nMd, nM0, hD7.mut nMd, (f0k.trans f7).mut nM0, (hgk.same st7).same stM, (hck.same st7).same stM⟩
      · rw [sans2_upd nMd]
        exact (hes.same (sans2_fr f7)).setD (.tup (sans2_at nod noM eo) (.cons hx7 (.cons (.int _) (.cons hc7 .nil))))
      · simp only [smD, smDs, frD, smx, Bool.and_true, Bool.true_and, Bool.and_eq_true, decide_eq_true_eq]
        omega
    clear hDk f0k hgk hck eM hes
    obtain ⟨M, xs, es, rfl, eM, hes, sme, l0, lsp, l100, nMd, nM0, hDk, f0k, hgk, hck⟩ := hB
    refine y_seq (y_ifs (y_test (y_op (y_var rfl (y_con (y_eqI (y_bl ?_)))))))
    refine y_joinI (BSt d (.ref ga) n g H at_ way spot m.1.1 m.1.2 cv m.2) ⟨M, xs, es, rfl, eM, hes, sme, l0, lsp, l100, nMd, nM0, hDk, f0k, hgk, hck⟩ (fun σ5 Hn hB => ?_) fun hw J => ?_
    case refine_2 =>
      have hg4 : Da (tu Hn) (.ref ga) (.tuple (g.map msD)) := hgk
      refine y_asg (y_tup (y_cons (y_var rfl (y_cons (y_fn (y_cons (y_var rfl (y_cons ?_))))))))
      refine DaF.use (d := d) (M := M) (x := .list [.int 100, .int (-100), .int 99, .int (-99), .none, .bool true, .str "1", .int (m.1.2 + 1)]) (by repeat' first | exact daf_int | exact daf_str | exact daf_non | exact daf_bl | exact daf_neg | exact dag_nil | exact daf_addv rfl | exact daf_len rfl (by assumption) | exact daf_var rfl (by assumption) | refine dag_cons ?_ ?_ | refine daf_tup hDk eM (by first | decide | simp) ?_ | refine daf_lst hDk eM (by first | decide | simp) ?_) fun lv H5 s5 hl => y_nil ?_
      cases hl with
      | @lst la lxs _ el hll =>
      have el5 := sans_sub _ _ (sans_sub _ _ el)
      have lad : la ≠ d := sans_ne (sans_sub _ _ el)
      refine ⟨d, la, lxs, rfl, hDk.same s5, sql el5, lad, by rw [hll.len]; simp, by rw [hll.len]; simp, fun v H6 mv hD6 f6 => ?_⟩
      obtain ⟨x, mx, hx⟩ := hll.mem mv
      have smx : smD x = true := smDs_mem (show smDs [.int 100, .int (-100), .int 99, .int (-99), .none, .bool true, .str "1", .int (m.1.2 + 1)] = true by simp [smDs, smD, frD]; try omega) x mx
      refine y_cons (y_var rfl (y_nil ⟨by show 3 ≤ sizeLine; decide, fun o no => ?_⟩))
      have s7 : Same H6 (upd H6 o (.tup [.int m.1.1, v, cv])) := same_new no
      have eo : (upd H6 o (.tup [.int m.1.1, v, cv])) o = some (.tup [.int m.1.1, v, cv]) := upd_same
      have nod : o ≠ d := hD6.ne no
      have eM6 := f6 _ _ (s5 _ _ eM) nMd
      have noM : o ≠ M := (ne_of_none eM6 no).symm
      have hD7 := hD6.same s7
      have eM7 := s7 _ _ eM6
      have f7 : Fr d Hn (upd H6 o (.tup [.int m.1.1, v, cv])) := (Fr.of_same s5).trans (f6.trans (Fr.of_same s7))
      have hx7 := hx.same ((sans2_fr f6).trans (sans2_mono s7))
      have st7 : Same (tu Hn) (tu (upd H6 o (.tup [.int m.1.1, v, cv]))) := tu_fr f7 hDk
      have hc7 := (hck.same st7).same (tu_sans2 hD7 eM7)
      generalize upd H6 o (.tup [.int m.1.1, v, cv]) = H7 at s7 eo hD7 eM7 f7 hx7 st7 hc7 ⊢
      have stM := tu_mut (o := .lst (xs.set spot.toNat (.ref o))) eM7
      refine y_sub (y_var rfl (y_var rfl (y_setL eM7 (j := spot.toNat) (by unfold ixN; rw [if_pos p0, if_pos lsp]) ?_)))
      refine J _ _ ⟨M, xs.set spot.toNat (.ref o), es.set spot.toNat (.tuple [.int m.1.1, x, frD m.2]), rfl, upd_same, ?_, ⟨smDs_set sme.1 ?_, all_set sme.2 rfl⟩, by rw [List.length_set]; exact l0, by rw [List.length_set]; exact lsp, by rw [List.length_set]; exact l100, nMd, nM0, hD7.mut nMd, (f0k.trans f7).mut nM0, (hgk.same st7).same stM, (hck.same st7).same stM⟩
      · rw [sans2_upd nMd]
        exact (hes.same (sans2_fr f7)).setD (.tup (sans2_at nod noM eo) (.cons (.int _) (.cons hx7 (.cons hc7 .nil))))
      · simp only [smD, smDs, frD, smx, Bool.and_true, Bool.true_and, Bool.and_eq_true, decide_eq_true_eq]
        omega
    clear hDk f0k hgk hck eM hes
    obtain ⟨M, xs, es, rfl, eM, hes, sme, l0, lsp, l100, nMd, nM0, hDk, f0k, hgk, hck⟩ := hB
    refine y_seq (y_ifs (y_test (y_op (y_var rfl (y_con (y_eqI (y_bl ?_)))))))
    refine y_joinI (BSt d (.ref ga) n g H at_ way spot m.1.1 m.1.2 cv m.2) ⟨M, xs, es, rfl, eM, hes, sme, l0, lsp, l100, nMd, nM0, hDk, f0k, hgk, hck⟩ (fun σ5 Hn hB => ?_) fun hw J => ?_
    case refine_2 =>
      have hg4 : Da (tu Hn) (.ref ga) (.tuple (g.map msD)) := hgk
      refine y_asg (y_tup (y_cons (y_var rfl (y_cons (y_var rfl (y_cons (y_fn (y_cons (y_var rfl (y_cons ?_))))))))))
      refine DaF.use (d := d) (M := M) (x := .list [frD (0, 1), frD (2, 4), frD (1, 5), frD (3, 2), frD (-1, 2), .none, .str "1/2", frD (1, 1), .list [.int 1, .int 1], .int 1]) (by repeat' first | exact daf_int | exact daf_str | exact daf_non | exact daf_bl | exact daf_neg | exact dag_nil | exact daf_addv rfl | exact daf_len rfl (by assumption) | exact daf_var rfl (by assumption) | refine dag_cons ?_ ?_ | refine daf_tup hDk eM (by first | decide | simp) ?_ | refine daf_lst hDk eM (by first | decide | simp) ?_) fun lv H5 s5 hl => y_nil ?_
      cases hl with
      | @lst la lxs _ el hll =>
      have el5 := sans_sub _ _ (sans_sub _ _ el)
      have lad : la ≠ d := sans_ne (sans_sub _ _ el)
      refine ⟨d, la, lxs, rfl, hDk.same s5, sql el5, lad, by rw [hll.len]; simp, by rw [hll.len]; simp, fun v H6 mv hD6 f6 => ?_⟩
      obtain ⟨x, mx, hx⟩ := hll.mem mv
      have smx : smD x = true := smDs_mem (show smDs [frD (0, 1), frD (2, 4), frD (1, 5), frD (3, 2), frD (-1, 2), .none, .str "1/2", frD (1, 1), .list [.int 1, .int 1], .int 1] = true by simp [smDs, smD, frD]; try omega) x mx
      refine y_nil ⟨by show 3 ≤ sizeLine; decide, fun o no => ?_⟩
      have s7 : Same H6 (upd H6 o (.tup [.int m.1.1, .int m.1.2, v])) := same_new no
      have eo : (upd H6 o (.tup [.int m.1.1, .int m.1.2, v])) o = some (.tup [.int m.1.1, .int m.1.2, v]) := upd_same
      have nod : o ≠ d := hD6.ne no
      have eM6 := f6 _ _ (s5 _ _ eM) nMd
      have noM : o ≠ M := (ne_of_none eM6 no).symm
      have hD7 := hD6.same s7
      have eM7 := s7 _ _ eM6
      have f7 : Fr d Hn (upd H6 o (.tup [.int m.1.1, .int m.1.2, v])) := (Fr.of_same s5).trans (f6.trans (Fr.of_same s7))
      have hx7 := hx.same ((sans2_fr f6).trans (sans2_mono s7))
      have st7 : Same (tu Hn) (tu (upd H6 o (.tup [.int m.1.1, .int m.1.2, v]))) := tu_fr f7 hDk
      have hc7 := (hck.same st7).same (tu_sans2 hD7 eM7)
      generalize upd H6 o (.tup [.int m.1.1, .int m.1.2, v]) = H7 at s7 eo hD7 eM7 f7 hx7 st7 hc7 ⊢
      have stM := tu_mut (o := .lst (xs.set spot.toNat (.ref o))) eM7
      refine y_sub (y_var rfl (y_var rfl (y_setL eM7 (j := spot.toNat) (by unfold ixN; rw [if_pos p0, if_pos lsp]) ?_)))
      refine J _ _ ⟨M, xs.set spot.toNat (.ref o), es.set spot.toNat (.tuple [.int m.1.1, .int m.1.2, x]), rfl, upd_same, ?_, ⟨smDs_set sme.1 ?_, all_set sme.2 rfl⟩, by rw [List.length_set]; exact l0, by rw [List.length_set]; exact lsp, by rw [List.length_set]; exact l100, nMd, nM0, hD7.mut nMd, (f0k.trans f7).mut nM0, (hgk.same st7).same stM, (hck.same st7).same stM⟩
      · rw [sans2_upd nMd]
        exact (hes.same (sans2_fr f7)).setD (.tup (sans2_at nod noM eo) (.cons (.int _) (.cons (.int _) (.cons hx7 .nil))))
      · simp only [smD, smDs, frD, smx, Bool.and_true, Bool.true_and, Bool.and_eq_true, decide_eq_true_eq]
        omega
    clear hDk f0k hgk hck eM hes
    obtain ⟨M, xs, es, rfl, eM, hes, ⟨sme, t3⟩, l0, lsp, l100, nMd, nM0, hDk, f0k, hgk, hck⟩ := hB
    have les := hes.len
    refine y_seq (y_ifs (y_test (y_op (y_var rfl (y_con (y_eqI (y_bl ?_)))))))
    refine y_joinI (BS2 d (.ref ga) g H at_ way) ⟨M, xs, es, _, _, _, _, rfl, eM, nMd, hes.same sans_sub, sme, by omega, hDk, f0k, hgk⟩ (fun σ6 Hm hB => ?_) fun hw J => ?_
    case refine_2 =>
      obtain ⟨e0, er, ees⟩ : ∃ e0 er, es = e0 :: er := by
        cases es with
        | nil => exact absurd l0 (by rw [les]; exact Nat.lt_irrefl 0)
        | cons e0 er => exact ⟨e0, er, rfl⟩
      obtain ⟨x, y, z, rfl⟩ := is3_inv (List.all_eq_true.mp t3 e0 (by rw [ees]; exact List.mem_cons_self))
      have hes2 := hes
      rw [ees] at hes2
      have hw3 := way3_ok (k := xs.length - 1) ees sme (by omega)
      refine y_asg (y_fn (y_cons (y_var rfl (y_cons ?_))))
      refine DaF.use (d := d) (M := M) (x := .list [.list es.reverse, .list (es.take (xs.length - 1)), .list (es ++ es), .list (.tuple [x, y, z, .int 0] :: er), .list [.tuple [x, y]]]) (daf_lst hDk eM (by simp) (dag_cons (daf_rev hDk eM hes rfl) (dag_cons (daf_init hDk eM hes l0 rfl) (dag_cons (daf_dbl hDk eM hes l100 rfl) (dag_cons (daf_head hDk eM hes2 l100 rfl) (dag_cons (daf_lst hDk eM (by simp) (dag_cons (daf_two hDk eM hes2 rfl) dag_nil)) dag_nil)))))) fun lv H5 s5 hl => y_nil ?_
      cases hl with
      | @lst la lxs _ el hll =>
      have ll := hll.len
      refine ⟨d, la, lxs, rfl, hDk.same s5, sql (sans_sub _ _ (sans_sub _ _ el)), sans_ne (sans_sub _ _ el), by rw [ll]; simp, by rw [ll]; simp, fun v H6 mv hD6 f6 => ?_⟩
      obtain ⟨q, mq, hx⟩ := hll.mem mv
      obtain ⟨fs, rfl, smf, lf⟩ := hw3 q mq
      cases hx with
      | @lst N ys _ eN hf =>
      have nN := sans_ne (sans_sub _ _ eN)
      have f56 := (Fr.of_same (d := d) s5).trans f6
      refine y_name ?_
      exact J _ _ ⟨N, ys, fs, _, _, _, _, rfl, f6 _ _ (sans_sub _ _ (sans_sub _ _ eN)) nN, nN, hf.same ((sans_sub).trans (sans_fr f6)), smf, lf, hD6, f0k.trans f56, hgk.same (tu_fr f56 hDk)⟩
    clear hDk f0k hgk hck eM hes
    obtain ⟨N, ys, fs, x5, x6, x7, x8, rfl, eN, nNd, hfs, smf, lf, hDm, f0m, hgm⟩ := hB
    obtain ⟨an, rfl⟩ : ∃ an : Nat, at_ = (an : Int) := ⟨at_.toNat, by omega⟩
    have hgs : Da (sans Hm d) (.ref ga) (.tuple (g.map msD)) := hgm.same (tu_sans hDm)
    have lgm : (g.map msD).length = n := by rw [List.length_map, q8]
    have han : an < (g.map msD).length := by omega
    have smg := gm_small n3 ok
    have lfn := fnd_len (fs := fs) (way := way) han
    have smn := fnd_small (an := an) (way := way) smg smf
    refine y_seq (y_asg ?_)
    refine DaE.use (d := d) (x := .tuple (fnd (g.map msD) fs an way)) (dae_cat hDm (dae_cat hDm (dae_sl (lo := none) (hi := some (an : Int)) hDm rfl hgs (fun H R h => y_noP h) (fun H R h => y_prt ⟨_, rfl, _, rfl, h⟩) (fun z => ?_) (fun H xs h => ?_)) (dae_tup hDm (by simp) (daa_cons (dae_pickW hDm rfl rfl eN nNd hfs) daa_nil)) ?_) (dae_sl (lo := some ((an + 1 : Nat) : Int)) (hi := none) hDm rfl hgs (fun H R h => y_prt (y_op ⟨_, rfl, y_con (y_I0 ⟨_, rfl, h⟩)⟩)) (fun H R h => y_noP h) (fun z => ?_) (fun H xs h => ?_)) ?_) fun fv H5 s5 hf => ?_
    · have z2 := z.2
      rw [HT.sIx_nat] at z2
      omega
    · rw [cut_to (by rw [h.len]; omega)]
      exact h.take _
    · rw [List.length_take, List.length_singleton]
      omega
    · have z1 := z.1
      rw [HT.sIx_nat] at z1
      omega
    · rw [cut_from (by rw [h.len]; omega)]
      exact h.drop _
    · rw [List.length_append, List.length_take, List.length_drop, List.length_singleton]
      omega
    generalize fnd (g.map msD) fs an way = fn at lfn smn hf
    have hD5 := hDm.same s5
    have f05 := f0m.trans (Fr.of_same s5)
    refine y_name ?_
    refine y_seq (y_ifs (y_test (y_op (y_var rfl (y_con (y_neI (y_bl ?_)))))))
    by_cases h5 : way = 5
    case neg =>
      rw [if_pos (by simpa using h5)]
      refine y_ret ⟨_, rfl, ?_⟩
      exact k _ _ _ hf smn hD5 f05
    rw [if_neg (by simpa using h5)]
    refine y_next ?_
    refine y_ret (y_fn (y_cons (y_var rfl (y_cons ?_))))
    have lo := last_ok smn
    refine DaE.use (d := d) (x := .list [.tuple fn, .list fn, .tuple (fn ++ [.tuple []]), .tuple (fn.drop 1), .none]) (dae_lst hD5 (by simp) (daa_cons (dae_var rfl hf) (daa_cons (dae_tupl hD5 rfl hf) (daa_cons (dae_cat hD5 (dae_var rfl hf) (dae_tup hD5 (by simp) (daa_cons (dae_tup hD5 (by simp) daa_nil) daa_nil)) (by simp; omega)) (daa_cons (dae_sl (lo := some ((1 : Nat) : Int)) (hi := none) hD5 rfl hf (fun H R h => y_prt (y_con ⟨_, rfl, h⟩)) (fun H R h => y_noP h) (fun z => ?_) (fun H xs h => ?_)) (daa_cons dae_non daa_nil)))))) fun lv H6 s6 hl => y_nil ?_
    · have z1 := z.1
      rw [HT.sIx_nat] at z1
      omega
    · rw [cut_from (by rw [h.len]; omega)]
      exact h.drop _
    cases hl with
    | @lst la lxs _ el hll =>
    have ll := hll.len
    refine ⟨d, la, lxs, rfl, hD5.same s6, sql (sans_sub _ _ el), sans_ne el, by rw [ll]; simp, by rw [ll]; simp, fun v H7 mv hD7 f7 => ?_⟩
    obtain ⟨q, mq, hx⟩ := hll.mem mv
    exact k _ _ _ (hx.same (sans_fr f7)) (lo q mq) hD7 (f05.trans ((Fr.of_same s6).trans f7))
theorem sc_law_right : FnScope ["_law_dice_here", "_law_plain", "_law_game_here", "_law_turn", "_law_near", "_law_many", "_law_rows", "_law_moves_here", "_law_odd", "_law_value", "_law_to", "_law_gain", "_law_chance"] ["_law_dice_here"] (defScope s_law_right) := ⟨rfl, rfl, rfl, by decide +kernel, rfl, by decide +kernel, by decide +kernel⟩
-- 0 _law_dice_here, 1 _law_plain, 2 _law_game_here, 3 _law_turn, 4 _law_near, 5 _law_many, 6 _law_rows, 7 _law_moves_here, 8 _law_odd, 9 _law_value, 10 _law_to, 11 _law_gain, 12 _law_chance
theorem ok_law_right {f : Addr} {fd : FuncData} (F : FunD K "_law_right" "_law_right" (defArgs s_law_right) (defBody s_law_right) (defScope s_law_right) [] [] f fd) (B : Blt mg) (Z : Con mg) (GL : GcdF mg) {CG : Addr} (IG : IFC K mg "InvalidGame" CG) (C_law_house : Cal P w K mg base 6 "_law_house" ["_law_dice_here"] spHouse) (C_law_pick : Cal P w K mg base 2 "_law_pick" ["_law_dice_here", "_law_items"] (spPick K)) (C_is_game : Cal P w K mg base 6 "is_game" ["value"] spGame) (C_law_bent : Cal P w K mg base 4 "_law_bent" ["_law_dice_here", "_law_game_here"] spBent) (C_law_is_game : Cal P w K mg base 4 "_law_is_game" ["_law_value"] spLGameD) (C_law_size : Cal P w K mg base 1 "_law_size" ["_law_plain"] spSize) (C_law_moves : Cal P w K mg base 4 "_law_moves" ["_law_dice_here", "_law_size_here"] spLMoves) (C_law_times : Cal P w K mg base 2 "_law_times" ["_law_one", "_law_other"] (spLTimes K)) (C_law_got : Cal P w K mg base 6 "_law_got" ["_law_moves_here"] spGotM) (C_law_joined : Cal P w K mg base 3 "_law_joined" ["_law_moves_here"] spLJoined) : FnOk P w K mg base CX0 8 f fd ["_law_dice_here"] spRight3 := by
  refine F.ok sc_law_right (fun vs H Q E h => ?_) (fun cdv A outer s H vs Q E hr h => ?_)
  · obtain ⟨d, rfl, _⟩ := h
    rfl
  · obtain ⟨d, rfl, hD, k⟩ := h
    refine ⟨_, PSs.nox (pss_cons (ps_set (i := 1) sc_law_right.nd rfl (Or.inl rfl) (pe_fn C_law_house (hr.mono (by decide)) (by rfl) (pa_cons (pv 0) pa_nil))) (pss_cons (ps_set (i := 2) sc_law_right.nd rfl (Or.inl rfl) (pe_dget (hu1 hr.units) (pv 1) (pe_fn C_law_pick (hr.mono (by decide)) (by rfl) (pa_cons (pv 0) (pa_cons (pe_callB (call_sortedD rfl) (by rfl) B.n_sorted (by decide +kernel) (pa_cons (pv 1) pa_nil)) pa_nil))) (fun _ _ => rfl))) (pss_cons (ps_if (pt_cmpR op_isntB (pe_fn C_is_game (hr.mono (by decide)) (by rfl) (pa_cons (pv 2) pa_nil)) pe_bl (nomark _)) (pss_one (ps_ret pe_bl)) pss_nil) (pss_cons (ps_for PassesOwn.never rfl (pi_range1 (by rfl) B.n_range (pa_cons pe_int pa_nil)) (pg_name (i := 3) sc_law_right.nd rfl (Or.inl rfl)) (pss_cons (ps_set (i := 4) sc_law_right.nd rfl (Or.inl rfl) (pe_fn C_law_bent (hr.mono (by decide)) (by rfl) (pa_cons (pv 0) (pa_cons (pv 2) pa_nil)))) (pss_one (ps_if (pt_cmpR op_ne (pe_callB c_reprB (by rfl) B.n_repr (by decide +kernel) (pa_cons (pe_fn C_is_game (hr.mono (by decide)) (by rfl) (pa_cons (pv 4) pa_nil)) pa_nil)) (pe_callB c_reprB (by rfl) B.n_repr (by decide +kernel) (pa_cons (pe_fn C_law_is_game (hr.mono (by decide)) (by rfl) (pa_cons (pv 4) pa_nil)) pa_nil)) (nomark _)) (pss_one (ps_ret pe_bl)) pss_nil)))) (pss_cons (ps_par (i := 5) (j := 6) (by rfl) sc_law_right.nd rfl rfl (by decide) rfl rfl (pa_cons (pe_fn C_law_size (hr.mono (by decide)) (by rfl) (pa_cons (pv 1) pa_nil)) (pa_cons (pe_lst pa_nil) pa_nil)) (by rfl)) (pss_cons (ps_for PassesOwn.never rfl (pi_range1 (by rfl) B.n_range (pa_cons pe_int pa_nil)) (pg_name (i := 3) sc_law_right.nd rfl (Or.inl rfl)) (pss_cons (ps_set (i := 7) sc_law_right.nd rfl (Or.inl rfl) (pe_fn C_law_moves (hr.mono (by decide)) (by rfl) (pa_cons (pv 0) (pa_cons (pv 5) pa_nil)))) (pss_one (ps_set (i := 6) sc_law_right.nd rfl (Or.inl rfl) (pe_op op_cat (pv 6) (pe_lc (own := [("_law_to", 10), ("_law_gain", 11), ("_law_chance", 12)]) (tt := tYes) rfl sc_law_right.nd (w_tup (K := K) (pv 7)) (blkOk_by (own := [("_law_to", 10), ("_law_gain", 11), ("_law_chance", 12)]) (N := ["_law_dice_here", "_law_plain", "_law_game_here", "_law_turn", "_law_near", "_law_many", "_law_rows", "_law_moves_here", "_law_odd", "_law_value", "_law_to", "_law_gain", "_law_chance"]) (sc := defScope s_law_right) (by decide +kernel)) (fun _ _ _ _ _ => (g_tup (K := K) (n := 3) (by rfl) (pgs_cons (pg_name (i := 10) sc_law_right.nd rfl (Or.inl rfl)) (pgs_cons (pg_name (i := 11) sc_law_right.nd rfl (Or.inl rfl)) (pgs_cons (pg_name (i := 12) sc_law_right.nd rfl (Or.inl rfl)) pgs_nil))))) (fun _ _ _ _ _ => pts_nil) (fun _ _ _ _ _ => (pe_tup (pa_cons (pv 10) (pa_cons (pv 11) (pa_cons (pe_fn C_law_times (hr.mono (by decide)) (by rfl) (pa_cons (pv 12) (pa_cons (pe_tup (pa_cons pe_int (pa_cons pe_int pa_nil))) pa_nil))) pa_nil))))))))))) (pss_cons (ps_if (PW.pt (pw_or (pt_cmpR (o_neD (K := K) hr.units) (pe_fn C_law_got (hr.mono (by decide)) (by rfl) (pa_cons (pe_callTy (c_tupQ (K := K)) (by rfl) B.n_tuple (by decide +kernel) (pa_cons (pv 6) pa_nil)) pa_nil)) (pe_fn C_law_joined (hr.mono (by decide)) (by rfl) (pa_cons (pv 6) pa_nil)) (nomark _)) (pw_or1 (pt_cmpR (o_neD (K := K) hr.units) (pe_fn C_law_got (hr.mono (by decide)) (by rfl) (pa_cons (pe_callTy (c_tupQ (K := K)) (by rfl) B.n_tuple (by decide +kernel) (pa_cons (e_revL (K := K) (pv 6)) pa_nil)) pa_nil)) (pe_fn C_law_joined (hr.mono (by decide)) (by rfl) (pa_cons (pv 6) pa_nil)) (nomark _))))) (pss_one (ps_ret pe_bl)) pss_nil) (pss_cons (ps_set (i := 8) sc_law_right.nd rfl (Or.inl rfl) (pe_lst (pa_cons pe_non (pa_cons (pe_tup pa_nil) (pa_cons (pv 6) (pa_cons (pe_callTy (c_tupQ (K := K)) (by rfl) B.n_tuple (by decide +kernel) (pa_cons (pe_slice (s_lst (K := K)) (pv 6) (po_some pe_int) po_none) pa_nil)) (pa_cons (pe_op (op_catE (K := K)) (pe_callTy (c_tupQ (K := K)) (by rfl) B.n_tuple (by decide +kernel) (pa_cons (pv 6) pa_nil)) (pe_tup (pa_cons (pe_tup (pa_cons pe_int (pa_cons pe_int (pa_cons (pe_tup (pa_cons pe_int (pa_cons pe_int pa_nil))) pa_nil)))) pa_nil))) (pa_cons (pe_tup (pa_cons (pe_tup (pa_cons pe_int (pa_cons pe_int pa_nil))) pa_nil)) (pa_cons (pe_tup (pa_cons (pe_tup (pa_cons pe_int (pa_cons pe_int (pa_cons (pe_tup (pa_cons pe_int (pa_cons pe_int pa_nil))) pa_nil)))) pa_nil)) (pa_cons pe_str (pa_cons pe_dnewK pa_nil))))))))))) (pss_one (ps_ret (pe_cmpR (o_eqD (K := K) hr.units) (pe_lc (own := [("_law_value", 9)]) (g := gName 9) (tt := _) rfl sc_law_right.nd (w_list (K := K) (pv 8)) (blkOk_by (own := [("_law_value", 9)]) (N := ["_law_dice_here", "_law_plain", "_law_game_here", "_law_turn", "_law_near", "_law_many", "_law_rows", "_law_moves_here", "_law_odd", "_law_value", "_law_to", "_law_gain", "_law_chance"]) (sc := defScope s_law_right) (by decide +kernel)) (fun _ _ _ _ _ => pg_name (i := 9) sc_law_right.nd rfl (Or.inl rfl)) (fun _ _ _ _ _ => (pts_one (pt_cmpR op_notN (pe_fn C_law_got (hr.mono (by decide)) (by rfl) (pa_cons (pv 9) pa_nil)) pe_non (nomark _)))) (fun _ _ _ _ _ => (pv 9))) (pe_lst pa_nil) (nomark _)))))))))))), ?_⟩
    walk_at "yy"
    refine ⟨d, rfl, hD, fun pv hs H1 ok hv hD1 f1 => ?_⟩
    walk_at "yy"
    have hv0 := hv
    obtain ⟨p, kvs, rfl, ep, pr⟩ := hv
    have ok1 := ok.l1
    have ok3 := ok.l3
    have pd : p ≠ d := fun z => by
      obtain ⟨_, _, _, D⟩ := hD1
      rw [z, D] at ep
      cases ep
    refine y_var (v := .ref p) rfl ?_
    walk_at "yy"
    refine ⟨p, kvs, hs.map (·.1), rfl, .inl ep, hou_keys pr, by rw [List.length_map]; omega, fun ys q pm _ nq => ?_⟩
    have s1 : Same H1 (upd H1 q (.lst (ys.map V.str))) := same_new nq
    have eq : (upd H1 q (.lst (ys.map V.str))) q = some (.lst (ys.map V.str)) := upd_same
    generalize upd H1 q (.lst (ys.map V.str)) = H2 at s1 eq ⊢
    have ly : ys.length = hs.length := by rw [pm.length_eq, List.length_map]
    walk_at "yy"
    refine ⟨d, q, ys.map V.str, rfl, hD1.same s1, sql eq, hD1.ne nq, by rw [List.length_map]; omega, by rw [List.length_map]; omega, fun v H3 mv hD3 f3 => ?_⟩
    obtain ⟨s, ms, rfl⟩ := List.mem_map.mp mv
    have f13 : Fr d H1 H3 := (Fr.of_same s1).trans f3
    have hv3 := hv0.fr f13 hD1
    have ep3 := f13 _ _ ep pd
    obtain ⟨gv, g, e1, mg, dv⟩ := hou_get (pr.mono fun a b h => ⟨h.1, h.2.same (tu_fr f13 hD1)⟩) (pm.mem_iff.mp ms)
    refine ⟨p, gv, rfl, ?_, ?_⟩
    · rw [← e1]
      exact DGet.k (k := Sum.inr s) ep3
    obtain ⟨n, n1, n3, okg⟩ := ok.ok
    have gok := okg _ mg
    have smg : smD (gmD g) = true := gm_small n3 gok
    have f03 := f1.trans f13
    clear ep pr hv0 ep3 f13 f3 s1 eq nq mv ms ly pm
    walk_at "yy"
    refine ⟨gv, gmD g, rfl, dv.same tu_sub, gmsm_of smg, fun H4 s4 => ?_⟩
    rw [gm_is n1 n3 gok]
    walk_at "yy"
    refine ⟨true, rfl, .inl ⟨true, rfl, ?_⟩⟩
    walk_at "yy"
    walk_at "yf"
    have hD4 := hD3.same s4
    have f04 := f03.trans (Fr.of_same s4)
    have dv4 := dv.same (tu_same s4)
    have hv4 := hv3.fr (Fr.of_same (d := d) s4) hD3
    clear f03 dv hv3 hD3 s4
    walk_at "yy"
    refine ⟨6, rfl, by decide, by decide, y_forR (b := fun _ _ => False) (c := fun _ _ => False) (fun j σ G => ∃ u3 u4, σ = [some (.ref d), some (.ref p), some gv, u3, u4, none, none, none, none, none, none, none, none] ∧ DiceAt G d ∧ Fr d H4 G) ⟨_, _, rfl, hD4, Fr.of_same (Same.refl H4)⟩ ?_ ?_⟩
    · rintro j σ G hj ⟨u3, u4, rfl, hDG, fG⟩
      walk_at "yy"
      refine ⟨d, gv, n, g, rfl, hDG, n1, n3, gok, dv4.same (tu_fr fG hD4), fun v x G1 dx smx hD1 f1 => ?_⟩
      have dx := dx.same sans_sub
      walk_at "yy"
      refine ⟨v, x, rfl, dx, gmsm_of smx, fun G2 s2 => ?_⟩
      walk_at "yy"
      refine ⟨v, x, rfl, dx.same s2, smx, fun G3 s3 => ?_⟩
      walk_at "yy"
      refine y_f (by simp) ?_
      walk_at "yy"
      exact ⟨_, _, rfl, hD1.same (s2.trans s3), fG.trans (f1.trans (Fr.of_same (s2.trans s3)))⟩
    rintro σ G ⟨u3, u4, rfl, hDG, fG⟩
    have hvG := hv4.fr fG hD4
    have f0G := f04.trans fG
    clear hv4 fG hD4 f04 dv4
    walk_at "yy"
    refine ⟨.ref p, hs, n, rfl, hvG, ok1, ok3, ok.nd, okg, fun G1 s1 => ?_⟩
    walk_at "yy"
    refine ⟨by show 0 ≤ sizeLine; decide, fun r0 nr0 => ?_⟩
    have er0 : (upd G1 r0 (.lst [])) r0 = some (.lst []) := upd_same
    have s2 := same_new (o := .lst []) nr0
    have hD1 := hDG.same s1
    have rd0 : r0 ≠ d := hD1.ne nr0
    have hD2 := hD1.same s2
    have f02 := f0G.trans ((Fr.of_same s1).trans (Fr.of_same s2))
    generalize upd G1 r0 (.lst []) = G2 at er0 hD2 f02 ⊢
    clear hvG hDG f0G s1 s2 hD1 nr0
    walk_at "yy"
    refine ⟨2, rfl, by decide, by decide, y_forR (b := fun _ _ => False) (c := fun _ _ => False) (fun j σ G => ∃ u3 u7 r xs L, σ = [some (.ref d), some (.ref p), some gv, u3, u4, some (.int (n : Nat)), some (.ref r), u7, none, none, none, none, none] ∧ G r = some (.lst xs) ∧ r ≠ d ∧ Paired (fun v m => Da (tu G) v (mvD m)) xs ((L.map (·.map halfM)).flatten) ∧ xs.length ≤ 3 * j ∧ L.length = j ∧ (∀ ms ∈ L, MsOk n ms) ∧ DiceAt G d ∧ Fr d G2 G) ⟨_, _, r0, [], [], rfl, er0, rd0, .nil, Nat.le_refl _, rfl, (fun _ h => nomatch h), hD2, Fr.of_same (Same.refl G2)⟩ ?_ ?_⟩
    · rintro j σ G hj ⟨w3, w7, r, xs, L, rfl, er, rd, pr, l6, hL, hok, hDG, fG⟩
      walk_at "yy"
      refine ⟨d, n, rfl, hDG, n1, n3, fun v ms G3 okm dv hD3 f3 => ?_⟩
      have er3 := f3 _ _ er rd
      have pr3 := pr.mono (F' := fun v m => Da (tu G3) v (mvD m)) fun v m h => h.same (tu_fr f3 hDG)
      have l1 := okm.l1
      have l3 := okm.l3
      unfold msD at dv
      cases dv with
      | @tup a mxs _ ea hx =>
      have hx := hx.pr'
      have ea := tu_sub _ _ ea
      have lx : mxs.length = ms.length := hx.length
      walk_at "yy"
      refine ⟨a, rfl, ⟨mxs, sqt ea⟩, fun D nD => lc_it (walk_tup (K := K) (a := a) (xs := mxs)) (fun i G4 => ∃ acc, G4 D = some (.lst acc) ∧ Paired (fun v m => Da (tu G4) v (mvD m)) acc ((ms.take i).map halfM) ∧ acc.length = i ∧ Same G3 G4) ⟨[], upd_same, .nil, rfl, same_new nD⟩ (fun _ _ _ h => by obtain ⟨_, _, _, _, s⟩ := h; exact sqt (s _ _ ea)) ?_ ?_⟩
      · rintro i y G4 G5 hi ⟨acc, eD, hp, hl, s4⟩ ⟨rfl, hy⟩
        obtain ⟨m, em, hm⟩ := pr_at hx hy
        have okmv := okm.ok m (List.mem_of_getElem? em)
        have hm := hm.same (tu_same s4)
        have q5 := okmv.ch.pos
        have q6 := okmv.ch.le
        have q7 := okmv.ch.sm
        have q8 := okmv.ch.gcd
        cases hm with
        | @tup am _ _ eam rr =>
        cases rr with
        | cons r1 rr =>
        cases rr with
        | cons r2 rr =>
        cases rr with
        | @cons c3 _ _ _ r3 rr =>
        cases rr
        cases r1
        cases r2
        cases r3 with
        | @tup ca _ _ eca rr =>
        cases rr with
        | cons r1 rr =>
        cases rr with
        | cons r2 rr =>
        cases rr
        cases r1
        cases r2
        refine y_gtup rfl (sqt (tu_sub _ _ eam)) rfl ?_
        refine y_gcons (y_name (y_gcons (y_name (y_gcons (y_name (y_gnil ?_))))))
        refine ⟨rfl, y_yes (y_t rfl ?_)⟩
        walk_at "yy"
        refine ⟨by show 2 ≤ sizeLine; decide, fun t nt => ?_⟩
        have et : (upd G5 t (.tup [.int 1, .int 2])) t = some (.tup [.int 1, .int 2]) := upd_same
        have s5 := same_new (o := .tup [.int 1, .int 2]) nt
        generalize upd G5 t (.tup [.int 1, .int 2]) = G6 at et s5 ⊢
        walk_at "yy"
        refine ⟨ca, t, m.2, (1, 2), rfl, sqt (s5 _ _ (tu_sub _ _ eca)), sqt et, sm_fine ⟨by omega, by omega, by omega⟩ q8, sm_fine ⟨by decide, by decide, by decide⟩ rfl, fun h G7 nh eh s6 => ?_⟩
        walk_at "yy"
        refine ⟨by show 3 ≤ sizeLine; decide, fun o no => ?_⟩
        have s7 := same_new (o := .tup [.int m.1.1, .int m.1.2, .ref h]) no
        have eo : (upd G7 o (.tup [.int m.1.1, .int m.1.2, .ref h])) o = some (.tup [.int m.1.1, .int m.1.2, .ref h]) := upd_same
        have s57 := s5.trans (s6.trans s7)
        have eh8 := s7 _ _ eh
        generalize upd G7 o (.tup [.int m.1.1, .int m.1.2, .ref h]) = G8 at eo s57 eh8 ⊢
        have eD8 := s57 _ _ eD
        have st := tu_mut (o := .lst (acc ++ [.ref o])) eD8
        refine ⟨acc, eD8, sz_lt (by omega), acc ++ [.ref o], upd_same, ?_, by rw [List.length_append, hl]; rfl, same_mut (s4.trans s57) nD⟩
        rw [List.take_add_one, em, List.map_append]
        exact Paired.snoc (hp.mono fun v k h => h.same ((tu_same s57).trans st)) (.tup (st _ _ (tu_at eo)) (.cons (.int _) (.cons (.int _) (.cons (.tup (st _ _ (tu_at eh8)) (.cons (.int _) (.cons (.int _) .nil))) .nil))))
      rintro G4 ⟨acc, eD, hp, hl, s4⟩
      rw [lx, List.take_length] at hp
      have er4 := s4 _ _ er3
      refine ⟨r, D, xs, acc, rfl, rfl, er4, eD, sz_le (by omega), fun o no => ?_⟩
      have s5 := same_new (o := .lst (xs ++ acc)) no
      walk_at "yy"
      refine ⟨_, _, o, xs ++ acc, L ++ [ms], rfl, upd_same, (hD3.same s4).ne no, ?_, by rw [List.length_append]; omega, by rw [List.length_append, hL]; rfl, fun x mx => ?_, (hD3.same s4).same s5, fG.trans (f3.trans (Fr.of_same (s4.trans s5)))⟩
      · rw [List.map_append, List.flatten_append]
        have st := tu_same s5
        refine pr_app (pr3.mono fun v m h => h.same ((tu_same s4).trans st)) ?_
        rw [show ([ms].map (·.map halfM)).flatten = ms.map halfM from List.append_nil _]
        exact hp.mono fun v m h => h.same st
      · rcases List.mem_append.mp mx with mx | mx
        · exact hok x mx
        · rw [List.mem_singleton.mp mx]
          exact okm
    rintro σ G ⟨w3, w7, r, xs, L, rfl, er, rd, pr, l6, hL, hok, hDG, fG⟩
    obtain ⟨R, eR, hR⟩ : ∃ R, (L.map (·.map halfM)).flatten = R ∧ RowsOk R := by
      match L, hL, hok with
      | [m1, m2], _, hok =>
        refine ⟨_, rfl, ?_⟩
        have := rows_ok n3 (hok m1 (by simp)) (hok m2 (by simp))
        simpa using this
    rw [eR] at pr
    have f0G := f02.trans fG
    clear hok hL eR fG
    have lr : xs.length = R.length := pr.length
    have l2 := hR.l2
    have l6' := hR.l6
    have sp := rows_smp hR
    refine y_seq (y_ifs (y_or (y_test (y_op (y_fn (y_cons (y_cb (y_cons ⟨_, rfl, y_nil ?_⟩))))))))
    refine ⟨r, xs, rfl, .inl ⟨sql er, fun o no => ?_⟩⟩
    have s1 := same_new (o := .tup xs) no
    have eo : (upd G o (.tup xs)) o = some (.tup xs) := upd_same
    generalize upd G o (.tup xs) = G1 at s1 eo ⊢
    have pr1 := pr.mono (F' := fun v m => Da (tu G1) v (mvD m)) fun v m h => h.same (tu_same s1)
    refine y_nil (got_rows hR (.tup eo (DaL.pr (pr1.mono fun v m h => h.same tu_sub))) fun v1 gs1 G2 pm1 srt1 dv1 s2 => ?_)
    refine y_fn (y_cons ⟨_, rfl, y_nil ?_⟩)
    have s02 := s1.trans s2
    refine ⟨r, xs, R, rfl, s02 _ _ er, pr.mono fun v m h => h.same (tu_same s02), sp, by omega, fun v2 gs2 G3 pm2 srt2 dv2 s3 => ?_⟩
    refine put_ne (put_same pm1 srt1 pm2 srt2) (dv1.same (tu_sub.trans s3)) (dv2.same tu_sub) (y_bl (y_f rfl ?_))
    have s03 := s02.trans s3
    refine y_test (y_op (y_fn (y_cons (y_cb (y_cons (y_revL ⟨_, rfl, ?_⟩))))))
    refine ⟨r, xs, rfl, sql (s03 _ _ er), fun q nq => ?_⟩
    have s4 := same_new (o := .lst xs.reverse) nq
    have eq : (upd G3 q (.lst xs.reverse)) q = some (.lst xs.reverse) := upd_same
    generalize upd G3 q (.lst xs.reverse) = G4 at s4 eq ⊢
    refine y_nil ⟨q, xs.reverse, rfl, .inl ⟨sql eq, fun o2 no2 => ?_⟩⟩
    have s5 := same_new (o := .tup xs.reverse) no2
    have eo2 : (upd G4 o2 (.tup xs.reverse)) o2 = some (.tup xs.reverse) := upd_same
    generalize upd G4 o2 (.tup xs.reverse) = G5 at s5 eo2 ⊢
    have s05 := s03.trans (s4.trans s5)
    have dl5 : DaL G5 xs (R.map mvD) := DaL.pr (pr.mono fun v m h => (h.same (tu_same s05)).same tu_sub)
    refine y_nil (got_rows hR.rev (.tup eo2 (by rw [List.map_reverse]; exact dl5.rev)) fun v3 gs3 G6 pm3 srt3 dv3 s6 => ?_)
    refine y_fn (y_cons ⟨_, rfl, y_nil ?_⟩)
    have s06 := s05.trans s6
    refine ⟨r, xs, R, rfl, s06 _ _ er, pr.mono fun v m h => h.same (tu_same s06), sp, by omega, fun v4 gs4 G7 pm4 srt4 dv4 s7 => ?_⟩
    refine put_ne (put_rev hR pm3 srt3 pm4 srt4) (dv3.same (tu_sub.trans s7)) (dv4.same tu_sub) (y_bl (y_f rfl ?_))
    have s07 := s06.trans s7
    have hD7 := hDG.same s07
    have er7 := s07 _ _ er
    have f07 := f0G.trans (Fr.of_same (d := d) s07)
    have dl7 : DaL (sans G7 d) xs (R.map mvD) := DaL.pr (pr.mono fun v m h => (h.same (tu_same s07)).same (tu_sans hD7))
    clear s1 eo pr1 pm1 srt1 dv1 s2 s02 pm2 srt2 dv2 s3 s03 s4 eq s5 eo2 s05 dl5 pm3 srt3 dv3 s6 s06 pm4 srt4 dv4 s7 pr er hDG f0G
    refine y_next ?_
    refine y_seq (y_asg ?_)
    refine DaE.use (d := d) (x := .list [.none, .tuple [], .list (R.map mvD), .tuple ((R.map mvD).drop 1), .tuple (R.map mvD ++ [mvD ((0, 0), (1, 6))]), .tuple [.tuple [.int 0, .int 0]], .tuple [.tuple [.int 8, .int 0, .tuple [.int 1, .int 1]]], .str "moves", .dict []]) (dae_lst hD7 (by simp) (daa_cons dae_non (daa_cons (dae_tup hD7 (by simp) daa_nil) (daa_cons (dae_var rfl (.lst (sans_at rd er7) dl7)) (daa_cons (dae_tailR hD7 rfl er7 (by omega) dl7) (daa_cons (dae_cat hD7 (dae_tupR hD7 rfl er7 dl7) (by repeat' first | exact dae_int | exact dae_str | exact dae_non | exact dae_bl | exact dae_neg | exact daa_nil | exact dae_var rfl (by assumption) | refine daa_cons ?_ ?_ | refine dae_tup hD7 (by decide) ?_ | refine dae_lst hD7 (by decide) ?_) (by rw [List.length_map]; show R.length + 1 ≤ 1000; omega)) (daa_cons (by repeat' first | exact dae_int | exact dae_str | exact dae_non | exact dae_bl | exact dae_neg | exact daa_nil | exact dae_var rfl (by assumption) | refine daa_cons ?_ ?_ | refine dae_tup hD7 (by decide) ?_ | refine dae_lst hD7 (by decide) ?_) (daa_cons (by repeat' first | exact dae_int | exact dae_str | exact dae_non | exact dae_bl | exact dae_neg | exact daa_nil | exact dae_var rfl (by assumption) | refine daa_cons ?_ ?_ | refine dae_tup hD7 (by decide) ?_ | refine dae_lst hD7 (by decide) ?_) (daa_cons dae_str (daa_cons (dae_dct hD7) daa_nil)))))))))) fun lv G8 s8 hl => y_name ?_
    have odd := odd_no hR
    cases hl with
    | @lst la lxs ds9 el hll =>
    have ll := hll.len
    have hD8 := hD7.same s8
    refine y_ret (y_op ?_)
    refine y_lc (y_iList (y_var (v := .ref la) rfl ⟨la, rfl, ⟨lxs, sql (sans_sub _ _ el)⟩, fun D nD => lc_list (K := K) (a := la) (xs := lxs) (fun j G => G D = some (.lst []) ∧ Same G8 G) ⟨upd_same, same_new nD⟩ (fun j G _ h => sql (h.2 _ _ (sans_sub _ _ el))) ?_ ?_⟩))
    · rintro j x G9 ej ⟨eD, s9⟩
      obtain ⟨q, eq, hq⟩ := hll.at ej
      obtain ⟨o1, o2, o3⟩ := odd q (List.mem_of_getElem? eq)
      refine y_name ⟨rfl, ?_⟩
      refine y_test (y_op (y_fn (y_cons ⟨_, rfl, y_nil ?_⟩)))
      refine got_none o1 (hq.same (sans_sub.trans s9)) o2 o3 fun G10 s10 => ?_
      refine y_con ⟨rfl, y_bl (y_f (by decide) ?_)⟩
      exact ⟨s10 _ _ eD, s9.trans s10⟩
    rintro G9 ⟨eD, s9⟩
    refine y_lst (y_nil ⟨by show 0 ≤ sizeLine; decide, fun e ne => ?_⟩)
    have s10 := same_new (o := .lst []) ne
    refine ⟨.list [], .list [], .lst (sql (s10 _ _ eD)) .nil, .lst (sql upd_same) .nil, rfl, rfl, ?_⟩
    exact k _ (hD8.same (s9.trans s10)) (f07.trans (Fr.of_same (s8.trans (s9.trans s10))))
theorem sc_law : FnScope ["_law_script", "_law_spot", "_law_dice_here", "_law_turn", "_law_many", "_law_told", "_law_at"] ["_law_script"] (defScope s_law) := ⟨rfl, rfl, rfl, by decide +kernel, rfl, by decide +kernel, by decide +kernel⟩
-- 0 _law_script, 1 _law_spot, 2 _law_dice_here, 3 _law_turn, 4 _law_many, 5 _law_told, 6 _law_at
theorem ok_law {f : Addr} {fd : FuncData} (F : FunD K "law" "law" (defArgs s_law) (defBody s_law) (defScope s_law) [] [] f fd) (B : Blt mg) (Z : Con mg) (GL : GcdF mg) {CG : Addr} (IG : IFC K mg "InvalidGame" CG) (C_law_dice : Cal P w K mg base 1 "_law_dice" ["_law_script", "_law_spot"] (spDice K)) (C_law_right : Cal P w K mg base 8 "_law_right" ["_law_dice_here"] spRight3) (C_is_game : Cal P w K mg base 6 "is_game" ["value"] spGame) (C_law_got : Cal P w K mg base 6 "_law_got" ["_law_moves_here"] spGotM) : FnOk P w K mg base CX0 9 f fd ["_law_script"] (spLaw K) := by
  refine F.ok sc_law (fun vs H Q E h => ?_) (fun cdv A outer s H vs Q E hr h => ?_)
  · obtain ⟨a, ns, rfl, _⟩ := h
    rfl
  · obtain ⟨a, ns, rfl, hS, hlen, k⟩ := h
    refine ⟨_, PSs.nox (pss_cons (ps_for PassesOwn.never rfl (pi_range1 (by rfl) B.n_range (pa_cons (pe_callB (c_max2 rfl) (by rfl) B.n_max (by decide +kernel) (pa_cons pe_int (pa_cons (pe_callB (c_min2 rfl) (by rfl) B.n_min (by decide +kernel) (pa_cons pe_int (pa_cons (pe_callB (c_lenQ (K := K)) (by rfl) B.n_len (by decide +kernel) (pa_cons (pv 0) pa_nil)) pa_nil))) pa_nil))) pa_nil)) (pg_name (i := 1) sc_law.nd rfl (Or.inl rfl)) (pss_cons (ps_set (i := 2) sc_law.nd rfl (Or.inl rfl) (pe_fn C_law_dice (hr.mono (by decide)) (by rfl) (pa_cons (pv 0) (pa_cons (pv 1) pa_nil)))) (pss_one (ps_for PassesOwn.never rfl (pi_range1 (by rfl) B.n_range (pa_cons pe_int pa_nil)) (pg_name (i := 3) sc_law.nd rfl (Or.inl rfl)) (pss_one (ps_if (pt_not (pt_val (pe_fn C_law_right (hr.mono (by decide)) (by rfl) (pa_cons (pv 2) pa_nil)))) (pss_one (ps_ret pe_bl)) pss_nil)))))) (pss_cons (ps_set (i := 4) sc_law.nd rfl (Or.inl rfl) (pe_callTy (c_tupQ (K := K)) (by rfl) B.n_tuple (by decide +kernel) (pa_cons (pe_lc (own := [("_law_at", 6)]) (g := gName 6) (tt := tYes) rfl sc_law.nd (pi_range1 (by rfl) B.n_range (pa_cons pe_int pa_nil)) (blkOk_by (own := [("_law_at", 6)]) (N := ["_law_script", "_law_spot", "_law_dice_here", "_law_turn", "_law_many", "_law_told", "_law_at"]) (sc := defScope s_law) (by decide +kernel)) (fun _ _ _ _ _ => pg_name (i := 6) sc_law.nd rfl (Or.inl rfl)) (fun _ _ _ _ _ => pts_nil) (fun _ _ _ _ _ => (pe_tup (pa_cons (pe_op op_mod (pv 6) pe_int) (pa_cons (pv 6) (pa_cons (pe_tup (pa_cons pe_int (pa_cons pe_int pa_nil))) pa_nil)))))) pa_nil))) (pss_cons (ps_set (i := 5) sc_law.nd rfl (Or.inl rfl) (pe_lst (pa_cons (pe_fn C_is_game (hr.mono (by decide)) (by rfl) (pa_cons (pe_tup (pa_cons (pe_slice (s_tup (K := K)) (pv 4) po_none (po_some pe_int)) pa_nil)) pa_nil)) (pa_cons (pe_fn C_law_got (hr.mono (by decide)) (by rfl) (pa_cons (pv 4) pa_nil)) (pa_cons (pe_fn C_is_game (hr.mono (by decide)) (by rfl) (pa_cons (pe_tup (pa_cons (pe_tup pa_nil) pa_nil)) pa_nil)) (pa_cons (pe_fn C_is_game (hr.mono (by decide)) (by rfl) (pa_cons (pe_tup pa_nil) pa_nil)) (pa_cons (pe_fn C_is_game (hr.mono (by decide)) (by rfl) (pa_cons (pe_tup (pa_cons (pe_tup (pa_cons (pe_tup (pa_cons pe_int (pa_cons pe_int (pa_cons (pe_tup (pa_cons pe_int (pa_cons pe_int pa_nil))) pa_nil)))) pa_nil)) pa_nil)) pa_nil)) pa_nil))))))) (pss_one (ps_ret (pe_and (pe_cmpR (o_eqD (K := K) hr.units) (pv 5) (pe_lst (pa_cons pe_bl (pa_cons pe_non (pa_cons pe_bl (pa_cons pe_bl (pa_cons pe_bl pa_nil)))))) (nomark _)) (pe_one (pe_cmpR (o_eqD (K := K) hr.units) (pe_fn C_law_got (hr.mono (by decide)) (by rfl) (pa_cons (pe_op (o_repT (K := K)) (pe_tup (pa_cons (pe_tup (pa_cons pe_int (pa_cons pe_int (pa_cons (pe_tup (pa_cons pe_int (pa_cons pe_int pa_nil))) pa_nil)))) pa_nil)) pe_int) pa_nil)) (pe_tup (pa_cons (pe_tup (pa_cons pe_int (pa_cons pe_int (pa_cons (pe_tup (pa_cons pe_int (pa_cons pe_int pa_nil))) pa_nil)))) pa_nil)) (nomark _))))))))), ?_⟩
    walk_at "yy"
    refine y_lenL hS ?_
    walk_at "yy"
    refine ⟨_, rfl, by omega, by omega, y_forR (b := fun _ _ => False) (c := fun _ _ => False) (fun i σ H1 => ∃ u1 u2 u3, σ = [some (.ref a), u1, u2, u3, none, none, none] ∧ Same H H1) ⟨_, _, _, rfl, Same.refl H⟩ ?_ ?_⟩
    · rintro i σ H1 hi ⟨u1, u2, u3, rfl, sm⟩
      walk_at "yy"
      refine ⟨a, 0 + i, ns, rfl, sm.seq hS, by omega, by omega, fun d H2 nd hD sm2 => ?_⟩
      have nd0 : H d = none := sm.free nd
      walk_at "yy"
      refine ⟨4, rfl, by decide, by decide, y_forR (b := fun _ _ => False) (c := fun _ _ => False) (fun j σ H3 => ∃ u3, σ = [some (.ref a), some (.int (0 + i)), some (.ref d), u3, none, none, none] ∧ Same H H3 ∧ DiceAt H3 d) ⟨_, rfl, sm.trans sm2, hD⟩ ?_ ?_⟩
      · rintro j σ H3 hj ⟨u3, rfl, sm3, hD3⟩
        walk_at "yy"
        refine ⟨d, rfl, hD3, fun H4 hD4 f4 => ?_⟩
        walk_at "yy"
        walk_at "yf"
        walk_at "yy"
        exact ⟨_, rfl, same_fr sm3 f4 nd0, hD4⟩
      · rintro σ H3 ⟨u3, rfl, sm3, hD3⟩
        exact ⟨_, _, _, rfl, sm3⟩
    rintro σ H1 ⟨u1, u2, u3, rfl, sm⟩
    walk_at "yy"
    refine ⟨13, rfl, by decide, by decide, fun D nD => lc_range (fun j G => ∃ acc, G D = some (.lst acc) ∧ Paired (fun v m => Da (tu G) v (mvD m)) acc (many13.take j) ∧ acc.length = j ∧ Same H1 G) ⟨[], upd_same, .nil, rfl, same_new nD⟩ ?_ ?_⟩
    · rintro j G hj ⟨acc, eD, hp, hl, s⟩
      walk_at "yy"
      refine ⟨rfl, y_yes (y_t rfl ?_)⟩
      have j13 : j < 13 := by omega
      have ej : many13[j]? = some ((((j % 8 : Nat) : Int), (j : Int)), ((1 : Int), (13 : Int))) := by
        unfold many13
        rw [List.getElem?_map, List.getElem?_range j13]
        rfl
      have e1 : (j : Int) % 8 = ((j % 8 : Nat) : Int) := by omega
      have e2 : (0 : Int) + (j : Int) = (j : Int) := by omega
      rw [e2] at *
      walk_at "yy"
      walk_at "yi"
      walk_at "yy"
      refine ⟨by show 2 ≤ sizeLine; decide, fun p np => ?_⟩
      have s1 := same_new (o := .tup [.int 1, .int 13]) np
      have ep : (upd G p (.tup [.int 1, .int 13])) p = some (.tup [.int 1, .int 13]) := upd_same
      generalize upd G p (.tup [.int 1, .int 13]) = G1 at s1 ep ⊢
      walk_at "yy"
      refine ⟨by show 3 ≤ sizeLine; decide, fun o no => ?_⟩
      rw [e1]
      have s2 := same_new (o := .tup [.int ((j % 8 : Nat) : Int), .int (j : Int), .ref p]) no
      have eo : (upd G1 o (.tup [.int ((j % 8 : Nat) : Int), .int (j : Int), .ref p])) o = some (.tup [.int ((j % 8 : Nat) : Int), .int (j : Int), .ref p]) := upd_same
      have ep2 := s2 _ _ ep
      have s12 := s1.trans s2
      generalize upd G1 o (.tup [.int ((j % 8 : Nat) : Int), .int (j : Int), .ref p]) = G2 at s12 eo ep2 ⊢
      have eD2 := s12 _ _ eD
      have st := tu_mut (o := .lst (acc ++ [.ref o])) eD2
      refine ⟨acc, eD2, sz_lt (by omega), acc ++ [.ref o], upd_same, ?_, by rw [List.length_append, hl]; rfl, same_mut (s.trans s12) nD⟩
      rw [List.take_add_one, ej]
      exact Paired.snoc (hp.mono fun v k h => h.same ((tu_same s12).trans st)) (.tup (st _ _ (tu_at eo)) (.cons (.int _) (.cons (.int _) (.cons (.tup (st _ _ (tu_at ep2)) (.cons (.int _) (.cons (.int _) .nil))) .nil))))
    rintro G ⟨acc, eD, hp, hl, s⟩
    have e13 : many13.take (13 : Int).toNat = many13 := by decide +kernel
    rw [e13] at hp
    refine y_nil ⟨D, acc, rfl, .inl ⟨sql eD, fun o no => y_name ?_⟩⟩
    have s1 := same_new (o := .tup acc) no
    have dm : Da (upd G o (.tup acc)) (.ref o) (msD many13) := .tup upd_same (DaL.pr (hp.mono fun v m h => (h.same (tu_same s1)).same tu_sub))
    generalize upd G o (.tup acc) = G1 at s1 dm ⊢
    refine y_seq (y_asg (y_lst (y_cons (y_fn (y_cons ?_)))))
    refine DaP.use (x := .tuple [.tuple ((many13.map mvD).take 12)]) (dap_tup (by simp) (daq_cons (dap_sl (ds := many13.map mvD) (lo := none) (hi := some ((12 : Nat) : Int)) rfl dm (fun H R h => y_noP h) (fun H R h => y_prt (y_con ⟨_, rfl, h⟩)) (by decide) (fun H xs h => ?_)) daq_nil)) fun v2 G2 s2 d2 => y_nil ?_
    · rw [cut_to (by rw [h.len]; decide)]
      exact h.take _
    refine ⟨v2, _, rfl, d2, gmsm_of m12_small, fun G3 s3 => ?_⟩
    rw [m12_no]
    refine y_cons (y_fn (y_cons ⟨_, rfl, y_nil ?_⟩))
    refine got_many (dm.same (s2.trans s3)) fun G4 s4 => ?_
    refine y_cons (y_fn (y_cons ?_))
    refine DaP.use (x := .tuple [.tuple []]) (by repeat' first | exact dap_int | exact dap_str | exact dap_non | exact dap_bl | exact daq_nil | exact dap_var rfl (by assumption) | refine daq_cons ?_ ?_ | refine dap_tup (by decide) ?_ | refine dap_lst (by decide) ?_) fun v5 G5 s5 d5 => y_nil ?_
    refine ⟨v5, _, rfl, d5, gmsm_of rfl, fun G6 s6 => ?_⟩
    rw [show gameB (.tuple [.tuple []]) = false from by decide +kernel]
    refine y_cons (y_fn (y_cons ?_))
    refine DaP.use (x := .tuple []) (by repeat' first | exact dap_int | exact dap_str | exact dap_non | exact dap_bl | exact daq_nil | exact dap_var rfl (by assumption) | refine daq_cons ?_ ?_ | refine dap_tup (by decide) ?_ | refine dap_lst (by decide) ?_) fun v7 G7 s7 d7 => y_nil ?_
    refine ⟨v7, _, rfl, d7, gmsm_of rfl, fun G8 s8 => ?_⟩
    rw [show gameB (.tuple []) = false from by decide +kernel]
    refine y_cons (y_fn (y_cons ?_))
    refine DaP.use (x := .tuple [.tuple [.tuple [.int 0, .int 99, .tuple [.int 1, .int 1]]]]) (by repeat' first | exact dap_int | exact dap_str | exact dap_non | exact dap_bl | exact daq_nil | exact dap_var rfl (by assumption) | refine daq_cons ?_ ?_ | refine dap_tup (by decide) ?_ | refine dap_lst (by decide) ?_) fun v9 G9 s9 d9 => y_nil ?_
    refine ⟨v9, _, rfl, d9, gmsm_of rfl, fun Ga sa => ?_⟩
    rw [show gameB (.tuple [.tuple [.tuple [.int 0, .int 99, .tuple [.int 1, .int 1]]]]) = true from by decide +kernel]
    refine y_nil ⟨by show 5 ≤ sizeLine; decide, fun ol nol => y_name ?_⟩
    have eol : (upd Ga ol (.lst [.bl false, .non, .bl false, .bl false, .bl true])) ol = some (.lst [.bl false, .non, .bl false, .bl false, .bl true]) := upd_same
    generalize upd Ga ol (.lst [.bl false, .non, .bl false, .bl false, .bl true]) = Gb at eol ⊢
    refine y_ret (y_andV (y_op ⟨_, rfl, ?_⟩))
    refine DaP.use (x := .list [.bool false, .none, .bool false, .bool false, .bool true]) (by repeat' first | exact dap_int | exact dap_str | exact dap_non | exact dap_bl | exact daq_nil | exact dap_var rfl (by assumption) | refine daq_cons ?_ ?_ | refine dap_tup (by decide) ?_ | refine dap_lst (by decide) ?_) fun vc Gc sc dc => ?_
    refine ⟨.list [.bool false, .none, .bool false, .bool false, .bool true], .list [.bool false, .none, .bool false, .bool false, .bool true], .lst (sql (sc _ _ eol)) (.cons (.bl _) (.cons .non (.cons (.bl _) (.cons (.bl _) (.cons (.bl _) .nil))))), dc.dp rfl, by decide +kernel, by decide +kernel, ?_⟩
    rw [show PyData.eqv (.list [.bool false, .none, .bool false, .bool false, .bool true]) (.list [.bool false, .none, .bool false, .bool false, .bool true]) = true from by decide +kernel]
    refine ⟨true, rfl, iteT ?_⟩
    refine y_op (y_fn (y_cons ?_))
    refine DaP.use (x := msD two12) (dap_rep (k := 2) (ds := [mvD ((0, 1), (1, 2))]) (by repeat' first | exact dap_int | exact dap_str | exact dap_non | exact dap_bl | exact daq_nil | exact dap_var rfl (by assumption) | refine daq_cons ?_ ?_ | refine dap_tup (by decide) ?_ | refine dap_lst (by decide) ?_) (by simp) (by decide) (by decide) (by decide) rfl) fun vd Gd sd dd => y_nil ?_
    refine got_two dd fun ve Ge de se => ?_
    refine DaP.use (x := msD [((0, 1), (1, 1))]) (by repeat' first | exact dap_int | exact dap_str | exact dap_non | exact dap_bl | exact daq_nil | exact dap_var rfl (by assumption) | refine daq_cons ?_ ?_ | refine dap_tup (by decide) ?_ | refine dap_lst (by decide) ?_) fun vf Gf sf df => ?_
    refine ⟨msD [((0, 1), (1, 1))], msD [((0, 1), (1, 1))], dp_ms ((de.same tu_sub).same sf), dp_ms df, by decide +kernel, by decide +kernel, ?_⟩
    rw [show PyData.eqv (msD [((0, 1), (1, 1))]) (msD [((0, 1), (1, 1))]) = true from by decide +kernel]
    exact k _
end
def d_is_integer : He5.DefA := ⟨fun K => He.ga K "is_integer", "is_integer", "is_integer", defArgs s_is_integer, defBody s_is_integer, defScope s_is_integer, [], []⟩
def d_is_fraction : He5.DefA := ⟨fun K => He.ga K "is_fraction", "is_fraction", "is_fraction", defArgs s_is_fraction, defBody s_is_fraction, defScope s_is_fraction, [], []⟩
def d_lowest : He5.DefA := ⟨fun K => He.ga K "lowest", "lowest", "lowest", defArgs s_lowest, defBody s_lowest, defScope s_lowest, [], []⟩
def d_sum_of : He5.DefA := ⟨fun K => He.ga K "sum_of", "sum_of", "sum_of", defArgs s_sum_of, defBody s_sum_of, defScope s_sum_of, [], []⟩
def d_is_standing : He5.DefA := ⟨fun K => He.ga K "_is_standing", "_is_standing", "_is_standing", defArgs s_is_standing, defBody s_is_standing, defScope s_is_standing, [], []⟩
def d_is_move : He5.DefA := ⟨fun K => He.ga K "_is_move", "_is_move", "_is_move", defArgs s_is_move, defBody s_is_move, defScope s_is_move, [], []⟩
def d_are_moves : He5.DefA := ⟨fun K => He.ga K "_are_moves", "_are_moves", "_are_moves", defArgs s_are_moves, defBody s_are_moves, defScope s_are_moves, [], []⟩
def d_do_ascend : He5.DefA := ⟨fun K => He.ga K "_do_ascend", "_do_ascend", "_do_ascend", defArgs s_do_ascend, defBody s_do_ascend, defScope s_do_ascend, [], []⟩
def d_are_moves_of_game : He5.DefA := ⟨fun K => He.ga K "are_moves_of_game", "are_moves_of_game", "are_moves_of_game", defArgs s_are_moves_of_game, defBody s_are_moves_of_game, defScope s_are_moves_of_game, [], []⟩
def d_is_game : He5.DefA := ⟨fun K => He.ga K "is_game", "is_game", "is_game", defArgs s_is_game, defBody s_is_game, defScope s_is_game, [], []⟩
def d_chances_of : He5.DefA := ⟨fun K => He.ga K "_chances_of", "_chances_of", "_chances_of", defArgs s_chances_of, defBody s_chances_of, defScope s_chances_of, [], []⟩
def d_short : He5.DefA := ⟨fun K => He.ga K "short", "short", "short", defArgs s_short, defBody s_short, defScope s_short, [], []⟩
def d_moves_with : He5.DefA := ⟨fun K => He.ga K "_moves_with", "_moves_with", "_moves_with", defArgs s_moves_with, defBody s_moves_with, defScope s_moves_with, [], []⟩
def d_merged_moves : He5.DefA := ⟨fun K => He.ga K "merged_moves", "merged_moves", "merged_moves", defArgs s_merged_moves, defBody s_merged_moves, defScope s_merged_moves, [], []⟩
def d_law_dice : He5.DefA := ⟨fun K => He.ga K "_law_dice", "_law_dice", "_law_dice", defArgs s_law_dice, defBody s_law_dice, defScope s_law_dice, [], []⟩
def d_law_roll : He5.DefA := ⟨fun K => He.ga K "_law_roll", "_law_roll", "_law_roll", defArgs s_law_roll, defBody s_law_roll, defScope s_law_roll, [], []⟩
def d_law_pick : He5.DefA := ⟨fun K => He.ga K "_law_pick", "_law_pick", "_law_pick", defArgs s_law_pick, defBody s_law_pick, defScope s_law_pick, [], []⟩
def d_law_some : He5.DefA := ⟨fun K => He.ga K "_law_some", "_law_some", "_law_some", defArgs s_law_some, defBody s_law_some, defScope s_law_some, [], []⟩
def d_law_chances : He5.DefA := ⟨fun K => He.ga K "_law_chances", "_law_chances", "_law_chances", defArgs s_law_chances, defBody s_law_chances, defScope s_law_chances, [], []⟩
def d_law_moves : He5.DefA := ⟨fun K => He.ga K "_law_moves", "_law_moves", "_law_moves", defArgs s_law_moves, defBody s_law_moves, defScope s_law_moves, [], []⟩
def d_law_game : He5.DefA := ⟨fun K => He.ga K "_law_game", "_law_game", "_law_game", defArgs s_law_game, defBody s_law_game, defScope s_law_game, [], []⟩
def d_law_house : He5.DefA := ⟨fun K => He.ga K "_law_house", "_law_house", "_law_house", defArgs s_law_house, defBody s_law_house, defScope s_law_house, [], []⟩
def d_law_known_house : He5.DefA := ⟨fun K => He.ga K "_law_known_house", "_law_known_house", "_law_known_house", defArgs s_law_known_house, defBody s_law_known_house, defScope s_law_known_house, [], []⟩
def d_law_ratio : He5.DefA := ⟨fun K => He.ga K "_law_ratio", "_law_ratio", "_law_ratio", defArgs s_law_ratio, defBody s_law_ratio, defScope s_law_ratio, [], []⟩
def d_law_plus : He5.DefA := ⟨fun K => He.ga K "_law_plus", "_law_plus", "_law_plus", defArgs s_law_plus, defBody s_law_plus, defScope s_law_plus, [], []⟩
def d_law_times : He5.DefA := ⟨fun K => He.ga K "_law_times", "_law_times", "_law_times", defArgs s_law_times, defBody s_law_times, defScope s_law_times, [], []⟩
def d_law_sum : He5.DefA := ⟨fun K => He.ga K "_law_sum", "_law_sum", "_law_sum", defArgs s_law_sum, defBody s_law_sum, defScope s_law_sum, [], []⟩
def d_law_size : He5.DefA := ⟨fun K => He.ga K "_law_size", "_law_size", "_law_size", defArgs s_law_size, defBody s_law_size, defScope s_law_size, [], []⟩
def d_law_is_number : He5.DefA := ⟨fun K => He.ga K "_law_is_number", "_law_is_number", "_law_is_number", defArgs s_law_is_number, defBody s_law_is_number, defScope s_law_is_number, [], []⟩
def d_law_is_fraction : He5.DefA := ⟨fun K => He.ga K "_law_is_fraction", "_law_is_fraction", "_law_is_fraction", defArgs s_law_is_fraction, defBody s_law_is_fraction, defScope s_law_is_fraction, [], []⟩
def d_law_is_move : He5.DefA := ⟨fun K => He.ga K "_law_is_move", "_law_is_move", "_law_is_move", defArgs s_law_is_move, defBody s_law_is_move, defScope s_law_is_move, [], []⟩
def d_law_joined : He5.DefA := ⟨fun K => He.ga K "_law_joined", "_law_joined", "_law_joined", defArgs s_law_joined, defBody s_law_joined, defScope s_law_joined, [], []⟩
def d_law_got : He5.DefA := ⟨fun K => He.ga K "_law_got", "_law_got", "_law_got", defArgs s_law_got, defBody s_law_got, defScope s_law_got, [], []⟩
def d_law_is_game : He5.DefA := ⟨fun K => He.ga K "_law_is_game", "_law_is_game", "_law_is_game", defArgs s_law_is_game, defBody s_law_is_game, defScope s_law_is_game, [], []⟩
def d_law_bent : He5.DefA := ⟨fun K => He.ga K "_law_bent", "_law_bent", "_law_bent", defArgs s_law_bent, defBody s_law_bent, defScope s_law_bent, [], []⟩
def d_law_right : He5.DefA := ⟨fun K => He.ga K "_law_right", "_law_right", "_law_right", defArgs s_law_right, defBody s_law_right, defScope s_law_right, [], []⟩
def d_law : He5.DefA := ⟨fun K => He.ga K "law", "law", "law", defArgs s_law, defBody s_law, defScope s_law, [], []⟩
def fn : List He5.DefA := [d_is_integer, d_is_fraction, d_lowest, d_sum_of, d_is_standing, d_is_move, d_are_moves, d_do_ascend, d_are_moves_of_game, d_is_game, d_chances_of, d_short, d_moves_with, d_merged_moves, d_law_dice, d_law_roll, d_law_pick, d_law_some, d_law_chances, d_law_moves, d_law_game, d_law_house, d_law_known_house, d_law_ratio, d_law_plus, d_law_times, d_law_sum, d_law_size, d_law_is_number, d_law_is_fraction, d_law_is_move, d_law_joined, d_law_got, d_law_is_game, d_law_bent, d_law_right, d_law]
def fa : List He.Fa := [.glo "is_integer", .glo "is_fraction", .glo "lowest", .glo "sum_of", .glo "_is_standing", .glo "_is_move", .glo "_are_moves", .glo "_do_ascend", .glo "are_moves_of_game", .glo "is_game", .glo "_chances_of", .glo "short", .glo "_moves_with", .glo "merged_moves", .glo "_law_dice", .glo "_law_roll", .glo "_law_pick", .glo "_law_some", .glo "_law_chances", .glo "_law_moves", .glo "_law_game", .glo "_law_house", .glo "_law_known_house", .glo "_law_ratio", .glo "_law_plus", .glo "_law_times", .glo "_law_sum", .glo "_law_size", .glo "_law_is_number", .glo "_law_is_fraction", .glo "_law_is_move", .glo "_law_joined", .glo "_law_got", .glo "_law_is_game", .glo "_law_bent", .glo "_law_right", .glo "law", .free "abs", .free "all", .free "bool", .free "dict", .free "int", .free "isinstance", .free "len", .free "list", .free "max", .free "min", .free "range", .free "repr", .free "set", .free "sorted", .free "tuple", .free "zip", .int "LEAST_LONG" (10 ^ 300), .int "MAX_STANDINGS" 8, .int "MAX_MOVES" 12, .int "MAX_GAIN" 99, .int "MAX_MERGED" 100, .glo "InvalidGame", .exm "InvalidGame" "InvalidGame" true, .exc "InvalidGame"]
def ex (K : PySem.W.Frag) : List Bool := [decide (PySem.W.nsIn K mainGlobals "gcd" = some (some (.builtin "math.gcd"))),
  decide (PySem.W.nsIn K mainGlobals "lcm" = some (some (.builtin "math.lcm")))]
abbrev R : PySem.W.OpenRow := PySem.W.OpenLaw.row PySem.Challenge.rw_wonbyturns_k03_games_judged
def hk : PySem.W.Hook where
  α := He.AlD × List Bool
  obs := fun s => (He5.obsAG 5 fa fn s.heap.get?, ex (He.frG s.heap.get? (He5.asA s.heap.get? 5)))
  val := fun _ => (He5.valA fn, List.replicate 2 true)
  says := fun _ h => ∃ K : PySem.W.Frag, K.In h ∧ He5.SaysA fa fn K ∧ ex K = List.replicate 2 true
  of := fun _ _ e => ⟨_, He.frG_in, congrArg Prod.fst e, congrArg Prod.snd e⟩
  keeps := fun _ _ _ ⟨K, hK, c⟩ k => ⟨K, PySem.W.Frag.In.keeps hK k, c⟩
def ob (s : PySem.W.SharedT) : He.AlD × List Bool := (He5.obsAG 5 fa fn (HandSHeadRun.getT s), ex (He.frG (HandSHeadRun.getT s) (He5.asA (HandSHeadRun.getT s) 5)))
theorem ob_eq (s : PySem.W.SharedT) : ob s = hk.obs s.abs := by
  have e : HandSHeadRun.getT s = s.abs.heap.get? := funext fun a => HandSHeadRun.getT_eq s a
  unfold ob
  rw [e]
  rfl
def loose : List Str := [("__name__" : Str), ("GameError" : Str), ("InvalidGame" : Str), ("TooMany" : Str), ("MAX_DIGITS" : Str), ("LEAST_LONG" : Str), ("is_integer" : Str), ("is_fraction" : Str), ("lowest" : Str), ("sum_of" : Str), ("short" : Str), ("MAX_STANDINGS" : Str), ("MAX_MOVES" : Str), ("MAX_GAIN" : Str), ("MAX_MERGED" : Str), ("is_game" : Str), ("are_moves_of_game" : Str), ("merged_moves" : Str), ("_is_standing" : Str), ("_is_move" : Str), ("_are_moves" : Str), ("_do_ascend" : Str), ("_chances_of" : Str), ("_moves_with" : Str), ("_law_dice" : Str), ("_law_roll" : Str), ("_law_pick" : Str), ("_law_some" : Str), ("_law_ratio" : Str), ("_law_plus" : Str), ("_law_times" : Str), ("_law_sum" : Str), ("_law_chances" : Str), ("_law_moves" : Str), ("_law_game" : Str), ("_law_house" : Str), ("_law_known_house" : Str), ("_law_size" : Str), ("_law_joined" : Str), ("_law_is_number" : Str), ("_law_is_fraction" : Str), ("_law_is_move" : Str), ("_law_is_game" : Str), ("_law_bent" : Str), ("_law_got" : Str), ("_law_right" : Str)]
theorem run (w : World) : HandSHeadRun.RunEqI R (PySem.W.view R.prog [0, 51]) hk ob 40000 loose w := by
  unfold HandSHeadRun.RunEqI
  kernel_rfl
theorem facts {P : Program} {w : World} {K : PySem.W.Frag} {h : Heap} {mg : Str → Option Value} {f : Addr} (X : K.In h) (G : h.Ns mainGlobals mg) (hfa : mg ("law" : Str) = some (.ref f)) (c : He5.SaysA fa fn K) (cx : ex K = List.replicate 2 true) :
    ∃ fd : FuncData, (∀ (s : Shared) (v : Value), BindsTo s fd ⟨[v], []⟩ [("_law_script", v)]) ∧ ∀ base : Heap, K.In base → base.Ns mainGlobals mg → FnOk P w K mg base CX0 9 f fd ["_law_script"] (spLaw K) := by
  obtain ⟨fd_0, F_0⟩ := c.def_ 0 (d := d_is_integer) rfl
  obtain ⟨fd_1, F_1⟩ := c.def_ 1 (d := d_is_fraction) rfl
  obtain ⟨fd_2, F_2⟩ := c.def_ 2 (d := d_lowest) rfl
  obtain ⟨fd_3, F_3⟩ := c.def_ 3 (d := d_sum_of) rfl
  obtain ⟨fd_4, F_4⟩ := c.def_ 4 (d := d_is_standing) rfl
  obtain ⟨fd_5, F_5⟩ := c.def_ 5 (d := d_is_move) rfl
  obtain ⟨fd_6, F_6⟩ := c.def_ 6 (d := d_are_moves) rfl
  obtain ⟨fd_7, F_7⟩ := c.def_ 7 (d := d_do_ascend) rfl
  obtain ⟨fd_8, F_8⟩ := c.def_ 8 (d := d_are_moves_of_game) rfl
  obtain ⟨fd_9, F_9⟩ := c.def_ 9 (d := d_is_game) rfl
  obtain ⟨fd_10, F_10⟩ := c.def_ 10 (d := d_chances_of) rfl
  obtain ⟨fd_11, F_11⟩ := c.def_ 11 (d := d_short) rfl
  obtain ⟨fd_12, F_12⟩ := c.def_ 12 (d := d_moves_with) rfl
  obtain ⟨fd_13, F_13⟩ := c.def_ 13 (d := d_merged_moves) rfl
  obtain ⟨fd_14, F_14⟩ := c.def_ 14 (d := d_law_dice) rfl
  obtain ⟨fd_15, F_15⟩ := c.def_ 15 (d := d_law_roll) rfl
  obtain ⟨fd_16, F_16⟩ := c.def_ 16 (d := d_law_pick) rfl
  obtain ⟨fd_17, F_17⟩ := c.def_ 17 (d := d_law_some) rfl
  obtain ⟨fd_18, F_18⟩ := c.def_ 18 (d := d_law_chances) rfl
  obtain ⟨fd_19, F_19⟩ := c.def_ 19 (d := d_law_moves) rfl
  obtain ⟨fd_20, F_20⟩ := c.def_ 20 (d := d_law_game) rfl
  obtain ⟨fd_21, F_21⟩ := c.def_ 21 (d := d_law_house) rfl
  obtain ⟨fd_22, F_22⟩ := c.def_ 22 (d := d_law_known_house) rfl
  obtain ⟨fd_23, F_23⟩ := c.def_ 23 (d := d_law_ratio) rfl
  obtain ⟨fd_24, F_24⟩ := c.def_ 24 (d := d_law_plus) rfl
  obtain ⟨fd_25, F_25⟩ := c.def_ 25 (d := d_law_times) rfl
  obtain ⟨fd_26, F_26⟩ := c.def_ 26 (d := d_law_sum) rfl
  obtain ⟨fd_27, F_27⟩ := c.def_ 27 (d := d_law_size) rfl
  obtain ⟨fd_28, F_28⟩ := c.def_ 28 (d := d_law_is_number) rfl
  obtain ⟨fd_29, F_29⟩ := c.def_ 29 (d := d_law_is_fraction) rfl
  obtain ⟨fd_30, F_30⟩ := c.def_ 30 (d := d_law_is_move) rfl
  obtain ⟨fd_31, F_31⟩ := c.def_ 31 (d := d_law_joined) rfl
  obtain ⟨fd_32, F_32⟩ := c.def_ 32 (d := d_law_got) rfl
  obtain ⟨fd_33, F_33⟩ := c.def_ 33 (d := d_law_is_game) rfl
  obtain ⟨fd_34, F_34⟩ := c.def_ 34 (d := d_law_bent) rfl
  obtain ⟨fd_35, F_35⟩ := c.def_ 35 (d := d_law_right) rfl
  obtain ⟨fd_36, F_36⟩ := c.def_ 36 (d := d_law) rfl
  have x_m_gcd : decide (PySem.W.nsIn K mainGlobals "gcd" = some (some (.builtin "math.gcd"))) = true := ex_at cx 0 rfl
  have x_m_lcm : decide (PySem.W.nsIn K mainGlobals "lcm" = some (some (.builtin "math.lcm"))) = true := ex_at cx 1 rfl
  have B : Blt mg := ⟨He.free_ok X G (c.fact 37 (f := .free "abs") rfl), He.free_ok X G (c.fact 38 (f := .free "all") rfl), He.free_ok X G (c.fact 39 (f := .free "bool") rfl), He.free_ok X G (c.fact 40 (f := .free "dict") rfl), He.free_ok X G (c.fact 41 (f := .free "int") rfl), He.free_ok X G (c.fact 42 (f := .free "isinstance") rfl), He.free_ok X G (c.fact 43 (f := .free "len") rfl), He.free_ok X G (c.fact 44 (f := .free "list") rfl), He.free_ok X G (c.fact 45 (f := .free "max") rfl), He.free_ok X G (c.fact 46 (f := .free "min") rfl), He.free_ok X G (c.fact 47 (f := .free "range") rfl), He.free_ok X G (c.fact 48 (f := .free "repr") rfl), He.free_ok X G (c.fact 49 (f := .free "set") rfl), He.free_ok X G (c.fact 50 (f := .free "sorted") rfl), He.free_ok X G (c.fact 51 (f := .free "tuple") rfl), He.free_ok X G (c.fact 52 (f := .free "zip") rfl)⟩
  have Z : Con mg := ⟨He.int_ok X G (c.fact 53 (f := .int "LEAST_LONG" (10 ^ 300)) rfl), He.int_ok X G (c.fact 54 (f := .int "MAX_STANDINGS" 8) rfl), He.int_ok X G (c.fact 55 (f := .int "MAX_MOVES" 12) rfl), He.int_ok X G (c.fact 56 (f := .int "MAX_GAIN" 99) rfl), He.int_ok X G (c.fact 57 (f := .int "MAX_MERGED" 100) rfl)⟩
  have GL : GcdF mg := ⟨PySem.W.mg_of X G (of_decide_eq_true x_m_gcd), PySem.W.mg_of X G (of_decide_eq_true x_m_lcm)⟩
  obtain ⟨eq_InvalidGame, ek_InvalidGame, eb_InvalidGame, et_InvalidGame⟩ := He.exc_ok (c.fact 60 (f := .exc "InvalidGame") rfl)
  have IG : IFC K mg "InvalidGame" (He.ga K "InvalidGame") := ⟨eq_InvalidGame, He.glo_ok X G (c.fact 58 (f := .glo "InvalidGame") rfl), ek_InvalidGame, eb_InvalidGame, et_InvalidGame, He.exm_ok (c.fact 59 (f := .exm "InvalidGame" "InvalidGame" true) rfl)⟩
  have e := hfa.symm.trans (He.glo_ok X G (c.fact 36 (f := .glo "law") rfl))
  cases e
  have b := FunD.bindsA (ps := ["_law_script"]) F_36 fun _ _ _ _ _ _ us hl => match us, hl with | [_], _ => rfl
  refine ⟨fd_36, fun s v => b s [v] rfl, fun base _ _ => ?_⟩
  have C_is_integer : Cal P w K mg base 1 "is_integer" ["value"] spIntD := ⟨_, _, (ok_is_integer F_0 B Z GL IG), He.glo_ok X G (c.fact 0 (f := .glo "is_integer") rfl), F_0.kp, (F_0.bindsN (ps := ["value"]) fun _ _ _ _ _ _ us hl => match us, hl with | [_], _ => rfl)⟩
  have C_lowest : Cal P w K mg base 1 "lowest" ["top", "bottom"] spLowest := ⟨_, _, (ok_lowest F_2 B Z GL IG), He.glo_ok X G (c.fact 2 (f := .glo "lowest") rfl), F_2.kp, (F_2.bindsN (ps := ["top", "bottom"]) fun _ _ _ _ _ _ us hl => match us, hl with | [_, _], _ => rfl)⟩
  have C_do_ascend : Cal P w K mg base 1 "_do_ascend" ["moves"] spAsc := ⟨_, _, (ok_do_ascend F_7 B Z GL IG), He.glo_ok X G (c.fact 7 (f := .glo "_do_ascend") rfl), F_7.kp, (F_7.bindsN (ps := ["moves"]) fun _ _ _ _ _ _ us hl => match us, hl with | [_], _ => rfl)⟩
  have C_chances_of : Cal P w K mg base 1 "_chances_of" ["moves"] spChancesOf := ⟨_, _, (ok_chances_of F_10 B Z GL IG), He.glo_ok X G (c.fact 10 (f := .glo "_chances_of") rfl), F_10.kp, (F_10.bindsN (ps := ["moves"]) fun _ _ _ _ _ _ us hl => match us, hl with | [_], _ => rfl)⟩
  have C_law_dice : Cal P w K mg base 1 "_law_dice" ["_law_script", "_law_spot"] (spDice K) := ⟨_, _, (ok_law_dice F_14 B Z GL IG), He.glo_ok X G (c.fact 14 (f := .glo "_law_dice") rfl), F_14.kp, (F_14.bindsN (ps := ["_law_script", "_law_spot"]) fun _ _ _ _ _ _ us hl => match us, hl with | [_, _], _ => rfl)⟩
  have C_law_roll : Cal P w K mg base 1 "_law_roll" ["_law_dice_here", "_law_total"] spRoll := ⟨_, _, (ok_law_roll F_15 B Z GL IG), He.glo_ok X G (c.fact 15 (f := .glo "_law_roll") rfl), F_15.kp, (F_15.bindsN (ps := ["_law_dice_here", "_law_total"]) fun _ _ _ _ _ _ us hl => match us, hl with | [_, _], _ => rfl)⟩
  have C_law_ratio : Cal P w K mg base 1 "_law_ratio" ["_law_top", "_law_bottom"] spLRatio := ⟨_, _, (ok_law_ratio F_23 B Z GL IG), He.glo_ok X G (c.fact 23 (f := .glo "_law_ratio") rfl), F_23.kp, (F_23.bindsN (ps := ["_law_top", "_law_bottom"]) fun _ _ _ _ _ _ us hl => match us, hl with | [_, _], _ => rfl)⟩
  have C_law_size : Cal P w K mg base 1 "_law_size" ["_law_plain"] spSize := ⟨_, _, (ok_law_size F_27 B Z GL IG), He.glo_ok X G (c.fact 27 (f := .glo "_law_size") rfl), F_27.kp, (F_27.bindsN (ps := ["_law_plain"]) fun _ _ _ _ _ _ us hl => match us, hl with | [_], _ => rfl)⟩
  have C_law_is_number : Cal P w K mg base 1 "_law_is_number" ["_law_value"] spLNum := ⟨_, _, (ok_law_is_number F_28 B Z GL IG), He.glo_ok X G (c.fact 28 (f := .glo "_law_is_number") rfl), F_28.kp, (F_28.bindsN (ps := ["_law_value"]) fun _ _ _ _ _ _ us hl => match us, hl with | [_], _ => rfl)⟩
  have C_is_fraction : Cal P w K mg base 2 "is_fraction" ["value"] spFracD := ⟨_, _, (ok_is_fraction F_1 B Z GL IG C_is_integer), He.glo_ok X G (c.fact 1 (f := .glo "is_fraction") rfl), F_1.kp, (F_1.bindsN (ps := ["value"]) fun _ _ _ _ _ _ us hl => match us, hl with | [_], _ => rfl)⟩
  have C_sum_of : Cal P w K mg base 2 "sum_of" ["pairs"] (spSumOf K) := ⟨_, _, (ok_sum_of F_3 B Z GL IG C_lowest), He.glo_ok X G (c.fact 3 (f := .glo "sum_of") rfl), F_3.kp, (F_3.bindsN (ps := ["pairs"]) fun _ _ _ _ _ _ us hl => match us, hl with | [_], _ => rfl)⟩
  have C_is_standing : Cal P w K mg base 2 "_is_standing" ["value", "size"] spStd := ⟨_, _, (ok_is_standing F_4 B Z GL IG C_is_integer), He.glo_ok X G (c.fact 4 (f := .glo "_is_standing") rfl), F_4.kp, (F_4.bindsN (ps := ["value", "size"]) fun _ _ _ _ _ _ us hl => match us, hl with | [_, _], _ => rfl)⟩
  have C_short : Cal P w K mg base 2 "short" ["pair"] spShort := ⟨_, _, (ok_short F_11 B Z GL IG C_is_integer), He.glo_ok X G (c.fact 11 (f := .glo "short") rfl), F_11.kp, (F_11.bindsN (ps := ["pair"]) fun _ _ _ _ _ _ us hl => match us, hl with | [_], _ => rfl)⟩
  have C_law_pick : Cal P w K mg base 2 "_law_pick" ["_law_dice_here", "_law_items"] (spPick K) := ⟨_, _, (ok_law_pick F_16 B Z GL IG C_law_roll), He.glo_ok X G (c.fact 16 (f := .glo "_law_pick") rfl), F_16.kp, (F_16.bindsN (ps := ["_law_dice_here", "_law_items"]) fun _ _ _ _ _ _ us hl => match us, hl with | [_, _], _ => rfl)⟩
  have C_law_some : Cal P w K mg base 2 "_law_some" ["_law_dice_here", "_law_items", "_law_size_here"] (spSomeP K) := ⟨_, _, (ok_law_some F_17 B Z GL IG C_law_roll), He.glo_ok X G (c.fact 17 (f := .glo "_law_some") rfl), F_17.kp, (F_17.bindsN (ps := ["_law_dice_here", "_law_items", "_law_size_here"]) fun _ _ _ _ _ _ us hl => match us, hl with | [_, _, _], _ => rfl)⟩
  have C_law_plus : Cal P w K mg base 2 "_law_plus" ["_law_one", "_law_other"] (spLPlus K) := ⟨_, _, (ok_law_plus F_24 B Z GL IG C_law_ratio), He.glo_ok X G (c.fact 24 (f := .glo "_law_plus") rfl), F_24.kp, (F_24.bindsN (ps := ["_law_one", "_law_other"]) fun _ _ _ _ _ _ us hl => match us, hl with | [_, _], _ => rfl)⟩
  have C_law_times : Cal P w K mg base 2 "_law_times" ["_law_one", "_law_other"] (spLTimes K) := ⟨_, _, (ok_law_times F_25 B Z GL IG C_law_ratio), He.glo_ok X G (c.fact 25 (f := .glo "_law_times") rfl), F_25.kp, (F_25.bindsN (ps := ["_law_one", "_law_other"]) fun _ _ _ _ _ _ us hl => match us, hl with | [_, _], _ => rfl)⟩
  have C_law_is_fraction : Cal P w K mg base 2 "_law_is_fraction" ["_law_value"] spLFracD := ⟨_, _, (ok_law_is_fraction F_29 B Z GL IG C_law_is_number C_law_ratio), He.glo_ok X G (c.fact 29 (f := .glo "_law_is_fraction") rfl), F_29.kp, (F_29.bindsN (ps := ["_law_value"]) fun _ _ _ _ _ _ us hl => match us, hl with | [_], _ => rfl)⟩
  have C_is_move : Cal P w K mg base 3 "_is_move" ["value", "size"] spMove := ⟨_, _, (ok_is_move F_5 B Z GL IG C_is_standing C_is_integer C_is_fraction), He.glo_ok X G (c.fact 5 (f := .glo "_is_move") rfl), F_5.kp, (F_5.bindsN (ps := ["value", "size"]) fun _ _ _ _ _ _ us hl => match us, hl with | [_, _], _ => rfl)⟩
  have C_moves_with : Cal P w K mg base 3 "_moves_with" ["chances"] spMovesWith := ⟨_, _, (ok_moves_with F_12 B Z GL IG C_sum_of C_short), He.glo_ok X G (c.fact 12 (f := .glo "_moves_with") rfl), F_12.kp, (F_12.bindsN (ps := ["chances"]) fun _ _ _ _ _ _ us hl => match us, hl with | [_], _ => rfl)⟩
  have C_law_chances : Cal P w K mg base 3 "_law_chances" ["_law_dice_here", "_law_many"] spChances := ⟨_, _, (ok_law_chances F_18 B Z GL IG C_law_pick), He.glo_ok X G (c.fact 18 (f := .glo "_law_chances") rfl), F_18.kp, (F_18.bindsN (ps := ["_law_dice_here", "_law_many"]) fun _ _ _ _ _ _ us hl => match us, hl with | [_, _], _ => rfl)⟩
  have C_law_known_house : Cal P w K mg base 3 "_law_known_house" ["_law_dice_here"] spHouse := ⟨_, _, (ok_law_known_house F_22 B Z GL IG C_law_pick), He.glo_ok X G (c.fact 22 (f := .glo "_law_known_house") rfl), F_22.kp, (F_22.bindsN (ps := ["_law_dice_here"]) fun _ _ _ _ _ _ us hl => match us, hl with | [_], _ => rfl)⟩
  have C_law_sum : Cal P w K mg base 3 "_law_sum" ["_law_pairs"] (spLSum K) := ⟨_, _, (ok_law_sum F_26 B Z GL IG C_law_plus), He.glo_ok X G (c.fact 26 (f := .glo "_law_sum") rfl), F_26.kp, (F_26.bindsN (ps := ["_law_pairs"]) fun _ _ _ _ _ _ us hl => match us, hl with | [_], _ => rfl)⟩
  have C_law_is_move : Cal P w K mg base 3 "_law_is_move" ["_law_value", "_law_size_here"] spLMove := ⟨_, _, (ok_law_is_move F_30 B Z GL IG C_law_is_number C_law_is_fraction), He.glo_ok X G (c.fact 30 (f := .glo "_law_is_move") rfl), F_30.kp, (F_30.bindsN (ps := ["_law_value", "_law_size_here"]) fun _ _ _ _ _ _ us hl => match us, hl with | [_, _], _ => rfl)⟩
  have C_law_joined : Cal P w K mg base 3 "_law_joined" ["_law_moves_here"] spLJoined := ⟨_, _, (ok_law_joined F_31 B Z GL IG C_law_plus), He.glo_ok X G (c.fact 31 (f := .glo "_law_joined") rfl), F_31.kp, (F_31.bindsN (ps := ["_law_moves_here"]) fun _ _ _ _ _ _ us hl => match us, hl with | [_], _ => rfl)⟩
  have C_are_moves : Cal P w K mg base 4 "_are_moves" ["value", "most", "size"] spMoves := ⟨_, _, (ok_are_moves F_6 B Z GL IG C_is_move C_sum_of), He.glo_ok X G (c.fact 6 (f := .glo "_are_moves") rfl), F_6.kp, (F_6.bindsN (ps := ["value", "most", "size"]) fun _ _ _ _ _ _ us hl => match us, hl with | [_, _, _], _ => rfl)⟩
  have C_law_moves : Cal P w K mg base 4 "_law_moves" ["_law_dice_here", "_law_size_here"] spLMoves := ⟨_, _, (ok_law_moves F_19 B Z GL IG C_law_roll C_law_some C_law_pick C_law_chances), He.glo_ok X G (c.fact 19 (f := .glo "_law_moves") rfl), F_19.kp, (F_19.bindsN (ps := ["_law_dice_here", "_law_size_here"]) fun _ _ _ _ _ _ us hl => match us, hl with | [_, _], _ => rfl)⟩
  have C_law_is_game : Cal P w K mg base 4 "_law_is_game" ["_law_value"] spLGameD := ⟨_, _, (ok_law_is_game F_33 B Z GL IG C_law_is_move C_law_sum), He.glo_ok X G (c.fact 33 (f := .glo "_law_is_game") rfl), F_33.kp, (F_33.bindsN (ps := ["_law_value"]) fun _ _ _ _ _ _ us hl => match us, hl with | [_], _ => rfl)⟩
  have C_law_bent : Cal P w K mg base 4 "_law_bent" ["_law_dice_here", "_law_game_here"] spBent := ⟨_, _, (ok_law_bent F_34 B Z GL IG C_law_roll C_law_pick), He.glo_ok X G (c.fact 34 (f := .glo "_law_bent") rfl), F_34.kp, (F_34.bindsN (ps := ["_law_dice_here", "_law_game_here"]) fun _ _ _ _ _ _ us hl => match us, hl with | [_, _], _ => rfl)⟩
  have C_are_moves_of_game : Cal P w K mg base 5 "are_moves_of_game" ["value", "size"] spMovesG := ⟨_, _, (ok_are_moves_of_game F_8 B Z GL IG C_are_moves C_do_ascend), He.glo_ok X G (c.fact 8 (f := .glo "are_moves_of_game") rfl), F_8.kp, (F_8.bindsN (ps := ["value", "size"]) fun _ _ _ _ _ _ us hl => match us, hl with | [_, _], _ => rfl)⟩
  have C_merged_moves : CalX P w K mg base 5 "merged_moves" ["moves"] (spMerged (He.ga K "InvalidGame")) := ⟨⟨_, _, (ok_merged_moves F_13 B Z GL IG C_are_moves C_chances_of C_moves_with), He.glo_ok X G (c.fact 13 (f := .glo "merged_moves") rfl), F_13.kp, (F_13.bindsN (ps := ["moves"]) fun _ _ _ _ _ _ us hl => match us, hl with | [_], _ => rfl)⟩⟩
  have C_law_game : Cal P w K mg base 5 "_law_game" ["_law_dice_here", "_law_size_here"] spLGame := ⟨_, _, (ok_law_game F_20 B Z GL IG C_law_moves), He.glo_ok X G (c.fact 20 (f := .glo "_law_game") rfl), F_20.kp, (F_20.bindsN (ps := ["_law_dice_here", "_law_size_here"]) fun _ _ _ _ _ _ us hl => match us, hl with | [_, _], _ => rfl)⟩
  have C_is_game : Cal P w K mg base 6 "is_game" ["value"] spGame := ⟨_, _, (ok_is_game F_9 B Z GL IG C_are_moves_of_game), He.glo_ok X G (c.fact 9 (f := .glo "is_game") rfl), F_9.kp, (F_9.bindsN (ps := ["value"]) fun _ _ _ _ _ _ us hl => match us, hl with | [_], _ => rfl)⟩
  have C_law_house : Cal P w K mg base 6 "_law_house" ["_law_dice_here"] spHouse := ⟨_, _, (ok_law_house F_21 B Z GL IG C_law_roll C_law_known_house C_law_pick C_law_some C_law_game), He.glo_ok X G (c.fact 21 (f := .glo "_law_house") rfl), F_21.kp, (F_21.bindsN (ps := ["_law_dice_here"]) fun _ _ _ _ _ _ us hl => match us, hl with | [_], _ => rfl)⟩
  have C_law_got : Cal P w K mg base 6 "_law_got" ["_law_moves_here"] spGotM := ⟨_, _, (ok_law_got F_32 B Z GL IG C_merged_moves), He.glo_ok X G (c.fact 32 (f := .glo "_law_got") rfl), F_32.kp, (F_32.bindsN (ps := ["_law_moves_here"]) fun _ _ _ _ _ _ us hl => match us, hl with | [_], _ => rfl)⟩
  have C_law_right : Cal P w K mg base 8 "_law_right" ["_law_dice_here"] spRight3 := ⟨_, _, (ok_law_right F_35 B Z GL IG C_law_house C_law_pick C_is_game C_law_bent C_law_is_game C_law_size C_law_moves C_law_times C_law_got C_law_joined), He.glo_ok X G (c.fact 35 (f := .glo "_law_right") rfl), F_35.kp, (F_35.bindsN (ps := ["_law_dice_here"]) fun _ _ _ _ _ _ us hl => match us, hl with | [_], _ => rfl)⟩
  exact (ok_law F_36 B Z GL IG C_law_dice C_law_right C_is_game C_law_got)
end K03
open PySem PySem.W PySem.Calls PyProof.Rows
set_option maxHeartbeats 0 in
theorem PySem.Challenge.cw_wonbyturns_k03_games_judged_holds : PySem.Challenge.rw_wonbyturns_k03_games_judged.Holds := by
  w_on; o_law
  refine HandSHeadRun.head_imp (r := OpenLaw.row PySem.Challenge.rw_wonbyturns_k03_games_judged) (q := view (OpenLaw.row PySem.Challenge.rw_wonbyturns_k03_games_judged).prog [0, 51]) (H := K03.hk) (ob := K03.ob) (M := 40000) (loose := K03.loose) (d := HandSHeadRun.topDef (OpenLaw.row PySem.Challenge.rw_wonbyturns_k03_games_judged).prog 51) (kwd := []) K03.ob_eq K03.run
    (by kernel_rfl) (by kernel_rfl) (by kernel_rfl) (by rfl) (by first | assumption | decide +kernel) (by decide +kernel) ⟨rfl, rfl, rfl, rfl, rfl, by decide +kernel⟩ ?hw ?hc
  case hw => w_witness2
  case hc =>
    refine L2.walk_ofE (l := PySem.Challenge.rw_wonbyturns_k03_games_judged) (n := 63) (k := 9) (x := "_law_script") (CX := L2.CX0) rfl (by decide) (by kernel_rfl) ⟨rfl, by decide, by decide⟩ ?F (fun _ _ _ _ z => z)
    intro w mg fa h Y G hmg0
    obtain ⟨K, KX, c, cx⟩ := Y
    have hmg : mg ("law" : PySem.Str) = some (.ref fa) := by
      have e : (HandSHeadRun.topDef (OpenLaw.row PySem.Challenge.rw_wonbyturns_k03_games_judged).prog 51).name = ("law" : PySem.Str) := by kernel_rfl
      rw [← e]
      exact hmg0
    obtain ⟨fd, hb, hF⟩ := K03.facts (P := (PySem.Challenge.rw_wonbyturns_k03_games_judged).prog) (w := w) KX G hmg c cx
    exact ⟨K, fd, _, KX, hb, fun H a ns hl _ hS => ⟨a, ns, rfl, hS, hl, fun _ => rfl⟩, hF⟩
