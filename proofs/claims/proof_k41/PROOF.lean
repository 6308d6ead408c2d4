import PyProof.Rows.All
import Wide.All
import OpenK.AllK
import Wide.FinOn
import HandS.ForMost
import HandS.IsInst
import HandS.Steps
import HandS.StrMore
import HandS.Codes
import HandS.More
import HandS.Strs
import HandS.Text
import HandS.TryOnly
import PyProof.AutoSeq1
import HandS.Deep
import HandS.CallLocal
import HandS.Conv
import HandS.DictComp
import HandS.SortRule
import HandS.SetKeys
import HandS.Walk
import HandS.Iter
import PyProof.DictMoreH
import KE.KExcIs
import KE.KDictSum
import HandS.Ends
import PyProof.ReprRoads
import PyProof.FitsInt
import PyProof.NeData
import KE.DataFind
import HandS.ForExc
import HandS.ExcInit
import HandS.ExcField
import HandS.TryOnly
import HandS.Wide
import HandS.TupLe
import PySem.Challenge.RW_placedanyhow_k41_plans_that_fit
set_option Elab.async false
set_option linter.all false
set_option maxRecDepth 100000
set_option maxHeartbeats 16000000
namespace Y
open PySem L2

/-! ### rules joined -/
section
variable {X : Cx}
def rAddA (K : PySem.W.Frag) : R2 := fun x y H Q => rI0 (fun i j => .int (i + j)) x y H Q ∨ (∃ i j, x = V.str i ∧ y = V.str j ∧ i.length + j.length ≤ sizeLine ∧ Q (.str (i ++ j)) H) ∨ rCat x y H Q ∨ rCatT K x y H Q
theorem op_addA : OpR X (binaryOp .Add) (rAddA X.K) := op_add.or (op_add_str.or (op_cat.or op_catT))
def rEqA (K : PySem.W.Frag) : R2 := fun x y H Q => rEq x y H Q ∨ rEqD K x y H Q
def rNeA (K : PySem.W.Frag) : R2 := fun x y H Q => rNe x y H Q ∨ rNeD K x y H Q
theorem op_eqA (hu : X.A.units + 64 < cLine) : OpR X (compareOp .Eq) (rEqA X.K) := op_eq.or (op_eqD hu)
theorem op_neA (hu : X.A.units + 64 < cLine) : OpR X (compareOp .NotEq) (rNeA X.K) := op_ne.or (op_neD hu)
def rLenA (K : PySem.W.Frag) : List V → Hp → VK → Prop := fun xs H Q => (∃ p ys, xs = [V.ref p] ∧ (SqL K H p ys ∨ SqT K H p ys) ∧ Q (.int ys.length) H) ∨ ∃ z, xs = [V.str z] ∧ z.length ≤ sizeLine ∧ Q (.int z.length) H
theorem call_lenA : CallR X (.builtin "len") (rLenA X.K) := call_len_seq.or call_len_str
def rSlA (K : PySem.W.Frag) : V → Option Int → Option Int → Hp → VK → Prop := fun x lo hi H Q => rSlL K x lo hi H Q ∨ rSlT K x lo hi H Q
theorem sl_any : SlR X (rSlA X.K) := sl_list.or sl_tup
theorem hu64 {A : Around} {k : Nat} (hr : Room k A) : A.units + 64 < cLine := by have := hr.un; omega
theorem pe_globC {x : Str} {n : Int} {pos : Pos} (hg : Gl X x) (hm : ∃ t, X.mg x = some (.int n t)) (hd : (x == ("__debug__" : Str)) = false := by decide) : PE X (.Name x pos) (tC (.int n)) := by
  obtain ⟨t, h⟩ := hm
  exact pe_glob hg h ⟨t, rfl⟩ hd
theorem pe_ty {x : Str} {n : String} {pos : Pos} (hg : Gl X x) (hm : X.mg x = none) (hv : bootBuiltins x = some (.type n)) (hn : x ≠ "__name__" := by decide) (hd : (x == ("__debug__" : Str)) = false := by decide) : PE X (.Name x pos) (tC (.ty n)) := pe_bltn hg hm hv rfl hn hd
end

section
variable {X : Cx} {K : PySem.W.Frag}
theorem op_eqK (hK : X.K = K) (hu : X.A.units + 64 < cLine) : OpR X (compareOp .Eq) (rEqA K) := hK ▸ op_eqA hu
theorem op_neK (hK : X.K = K) (hu : X.A.units + 64 < cLine) : OpR X (compareOp .NotEq) (rNeA K) := hK ▸ op_neA hu
theorem op_addK (hK : X.K = K) : OpR X (binaryOp .Add) (rAddA K) := hK ▸ op_addA
theorem ix_seqK (hK : X.K = K) : IxR X (rIx K) := hK ▸ ix_seq
theorem call_lenK (hK : X.K = K) : CallR X (.builtin "len") (rLenA K) := hK ▸ call_lenA
theorem op_inK (hK : X.K = K) : OpR X (compareOp .In) (rIn K false) := hK ▸ op_in_seq
theorem op_notInK (hK : X.K = K) : OpR X (compareOp .NotIn) (rIn K true) := hK ▸ op_notIn_seq
theorem sl_anyK (hK : X.K = K) : SlR X (rSlA K) := hK ▸ sl_any
theorem pi_listK {tg l : Expr} {tl : TE} (hK : X.K = K) (hl : PE X l tl) : PI X tg l (iList K tl) := hK ▸ pi_list hl
end
section
variable {X : Cx}
def rIsN : R2 := fun x y H Q => y = .non ∧ Q (.bl (decide (x = .non))) H
def rNotN : R2 := fun x y H Q => y = .non ∧ Q (.bl (!decide (x = .non))) H
theorem op_isN1 : OpR X (compareOp .Is) rIsN := op_isN
theorem op_notN1 : OpR X (compareOp .IsNot) rNotN := op_notN
end
section
variable {X : Cx}
def rInt : List V → Hp → VK → Prop := fun xs H Q => (∃ i, xs = [V.int i] ∧ Q (.int i) H) ∨ ∃ k, xs = [.bl k] ∧ Q (.int (if k then 1 else 0)) H
def rAbs : List V → Hp → VK → Prop := fun xs H Q => ∃ i, xs = [V.int i] ∧ Q (.int (if i < 0 then -i else i)) H
def rListOf (K : PySem.W.Frag) : List V → Hp → VK → Prop := fun xs H Q => ∃ p ys, xs = [V.ref p] ∧ (SqL K H p ys ∨ SqT K H p ys) ∧ ∀ l, H l = none → Q (.ref l) (upd H l (.lst ys))
theorem call_intA : CallR X (.type "int") rInt := call_int1
theorem call_absA : CallR X (.builtin "abs") rAbs := call_abs
theorem call_listA : CallR X (.type "list") (rListOf X.K) := call_list_of
end
/-! ### defs -/
section
variable (P : Program) (w : World) (K : PySem.W.Frag) (mg : Str → Option Value) (base : Heap)
/-- a def of the text as it stands behind the top -/
def Dn (x : Str) (st : Stmt) (ps : List Str) : Prop := ∃ f fd, Fun K x x st f fd ∧ mg x = some (.ref f) ∧ Binds K fd ps []
/-- a def that keeps its promise -/
def Cal (x : Str) (k : Nat) (ps : List Str) (sp : Sp) : Prop := ∃ f fd, FnOk P w K mg base CX0 k f fd ps sp ∧ mg x = some (.ref f) ∧ PySem.W.keepIn K (.ref f) = true ∧ Binds K fd ps []
end
section
variable {P : Program} {w : World} {K : PySem.W.Frag} {mg : Str → Option Value} {base : Heap}
theorem Dn.ok {x : Str} {st : Stmt} {N ps : List Str} {k : Nat} {sp : Sp} (D : Dn K mg x st ps) (S : FnScope N ps (defScope st)) (len : ∀ vs H Q E, sp vs H Q E → vs.length = ps.length)
    (hbody : ∀ (f : Addr) (cdv : Value) (A : Around) (outer : List Env) (s : Shared) (H : Hp) (vs : List V) (Q : VK) (E : XK), Room k (A.deeper (PyProof.Rows.envOfC x (defScope st) s.heap.objs.size f cdv)) → sp vs H Q E →
      ∃ t, PSs (cxOf CX0 P w K mg base N x (defScope st) f cdv A outer s H E).nox (defBody st) t ∧ t { nx := fun _ H' => Q .non H', rt := Q } (start N vs) H) : Cal P w K mg base x (k + 1) ps sp := by
  obtain ⟨f, fd, F, m, b⟩ := D
  exact ⟨f, fd, F.ok S len (hbody f), m, F.kp, b⟩
theorem pe_cal {X : Cx} {x : Str} {k : Nat} {ps : List Str} {sp : Sp} {e : Expr} {es : List Expr} {t : TA} {p pos : Pos} (G : Cal X.prog X.w X.K X.mg X.base x k ps sp) (hr : Room k X.A) (hg : Gl X x) (ha : PA X (e :: es) t)
    (hdb : (x == ("__debug__" : Str)) = false := by decide) (he : starEach (e :: es) X.env = (false, eval e X.env) :: starEach es X.env := by rfl) (hpl : (backTo pos (starEach es X.env)).any (·.1) = false := by rfl) : PE X (.Call (.Name x p) (e :: es) [] pos) (tCall sp [] E0 t) := by
  obtain ⟨f, fd, F, m, kp, b⟩ := G
  exact pe_call F hr hg m kp b .nil pass0 ha hdb he hpl
theorem pe_cal0 {X : Cx} {x : Str} {k : Nat} {ps : List Str} {sp : Sp} {p pos : Pos} (G : Cal X.prog X.w X.K X.mg X.base x k ps sp) (hr : Room k X.A) (hg : Gl X x)
    (hdb : (x == ("__debug__" : Str)) = false := by decide) : PE X (.Call (.Name x p) [] [] pos) (tCall sp [] E0 tNil) := by
  obtain ⟨f, fd, F, m, kp, b⟩ := G
  exact pe_call0 F hr hg m kp b .nil pass0 hdb
end

/-! ### heaps -/
/-- all that was tracked stays -/
def Ex (H H' : Hp) : Prop := ∀ a o, H a = some o → H' a = some o
/-- all tuples stay, and all that is not at M -/
structure Kp (M : List Addr) (H H' : Hp) : Prop where
  tup : ∀ a xs, H a = some (.tup xs) → H' a = some (.tup xs)
  out : ∀ a o, a ∉ M → H a = some o → H' a = some o
theorem Ex.refl (H : Hp) : Ex H H := fun _ _ h => h
theorem Ex.trans {H H1 H2 : Hp} (a : Ex H H1) (b : Ex H1 H2) : Ex H H2 := fun x o h => b x o (a x o h)
theorem Ex.same {H H' : Hp} (e : Ex H H') : L2.Same H H' := e
theorem Ex.kp {M : List Addr} {H H' : Hp} (e : Ex H H') : Kp M H H' := ⟨fun a xs h => e a _ h, fun a o _ h => e a o h⟩
theorem Kp.refl {M : List Addr} (H : Hp) : Kp M H H := (Ex.refl H).kp
theorem Kp.trans {M : List Addr} {H H1 H2 : Hp} (a : Kp M H H1) (b : Kp M H1 H2) : Kp M H H2 := ⟨fun x o h => b.tup x o (a.tup x o h), fun x o n h => b.out x o n (a.out x o n h)⟩
theorem Kp.sub {M N : List Addr} {H H' : Hp} (a : Kp M H H') (s : ∀ x, x ∈ M → x ∈ N) : Kp N H H' := ⟨a.tup, fun x o n h => a.out x o (fun z => n (s x z)) h⟩
theorem Ex.mk {H H2 : Hp} {p : Addr} {o : HO} (h : H p = none) (e : upd H p o = H2) : Ex H H2 := fun a u ha => by
  rw [← e, upd_ne (ne_of_none ha h)]
  exact ha
theorem at_new {H H2 : Hp} {p : Addr} {o : HO} (e : upd H p o = H2) : H2 p = some o := by rw [← e]; exact upd_same
theorem Kp.set {M : List Addr} {H H2 : Hp} {p : Addr} {o : HO} (hm : p ∈ M) (ht : ∀ xs, H p ≠ some (.tup xs)) (e : upd H p o = H2) : Kp M H H2 := ⟨fun a xs h => by
  rw [← e, upd_ne (fun z => ht xs (by rw [← z]; exact h))]
  exact h, fun a u n h => by
  rw [← e, upd_ne (fun z => n (by rw [z]; exact hm))]
  exact h⟩
theorem free_back {H H' : Hp} {p : Addr} (e : Ex H H') (h : H' p = none) : H p = none := by
  cases h1 : H p with
  | none => rfl
  | some o => rw [e p o h1] at h; cases h
theorem free_backK {M : List Addr} {H H' : Hp} {p : Addr} (e : Kp M H H') (hm : p ∉ M) (h : H' p = none) : H p = none := by
  cases h1 : H p with
  | none => rfl
  | some o => rw [e.out p o hm h1] at h; cases h
theorem at_ex {H H' : Hp} {p : Addr} {o : HO} (e : Ex H H') (h : H p = some o) : H' p = some o := e p o h
theorem at_kp {M : List Addr} {H H' : Hp} {p : Addr} {o : HO} (e : Kp M H H') (hm : p ∉ M) (h : H p = some o) : H' p = some o := e.out p o hm h
theorem tup_kp {M : List Addr} {H H' : Hp} {p : Addr} {xs : List V} (e : Kp M H H') (h : H p = some (.tup xs)) : H' p = some (.tup xs) := e.tup p xs h
theorem sqt {K : PySem.W.Frag} {H : Hp} {p : Addr} {xs : List V} (h : H p = some (.tup xs)) : SqT K H p xs := Or.inl (Or.inl h)
theorem sql {K : PySem.W.Frag} {H : Hp} {p : Addr} {xs : List V} (h : H p = some (.lst xs)) : SqL K H p xs := Or.inl (Or.inl h)
theorem sl1000 {n : Nat} (h : n ≤ 100000) : n ≤ sizeLine := Nat.le_trans h (by decide)
theorem sl1000' {n : Nat} (h : n < 100000) : n < sizeLine := Nat.lt_of_lt_of_le h (by decide)

theorem at0 {α : Type} {x : α} {xs : List α} : atI (x :: xs) 0 = some x := atI_nat (j := 0) rfl
theorem at_i {α : Type} {xs : List α} {n : Int} (h0 : 0 ≤ n) (h1 : n < xs.length) : ∃ v, xs[n.toNat]? = some v ∧ atI xs n = some v := by
  have hk : n.toNat < xs.length := by omega
  have e : n = ((n.toNat : Nat) : Int) := by omega
  refine ⟨xs[n.toNat], List.getElem?_eq_getElem hk, ?_⟩
  have q : atI xs ((n.toNat : Nat) : Int) = some xs[n.toNat] := atI_nat (List.getElem?_eq_getElem hk)
  rw [← e] at q
  exact q
/-! ### readings, step by step -/
def newT (Q : VK) (xs : List V) (H : Hp) : Prop := xs.length ≤ sizeLine ∧ ∀ p, H p = none → Q (.ref p) (upd H p (.tup xs))
def newL (Q : VK) (xs : List V) (H : Hp) : Prop := xs.length ≤ sizeLine ∧ ∀ p, H p = none → Q (.ref p) (upd H p (.lst xs))
theorem cut1 (xs : List V) : cutV xs (some 1) none = xs.drop 1 := by
  unfold cutV
  rw [show HT.sIx xs.length 0 (some 1) = min 1 xs.length from HT.sIx_nat xs.length 0 1, HT.sIx_none]
  cases xs with
  | nil => rfl
  | cons x r =>
    rw [show min 1 (x :: r).length = 1 by
      rw [List.length_cons]
      omega]
    show (List.take ((x :: r).length - 1) r) = r
    rw [List.length_cons, Nat.add_sub_cancel]
    exact List.take_length
section
variable {K : PySem.W.Frag} {σ : L2.St} {H : Hp} {Q : VK} {QT : Bool → Hp → Prop} {QA : List V → Hp → Prop} {QS : L2.St → Hp → Prop} {v x y : V} {i : Nat} {ta tb te : TE} {t u c : TT} {tr : TA} {r : R2} {ts us : TS} {nx bk ct : L2.St → Hp → Prop} {rt : VK} {g : TG} {gs : TGs}
theorem r_var (h : σ[i]? = some (some v)) (q : Q v H) : tVar i σ H Q := ⟨v, h, q⟩
theorem r_c (q : Q v H) : tC v σ H Q := q
theorem r_op (q : ta σ H fun x H1 => tb σ H1 fun y H2 => r x y H2 Q) : tOp r ta tb σ H Q := q
theorem r_un {r : V → Hp → VK → Prop} (q : ta σ H fun x H1 => r x H1 Q) : tUn r ta σ H Q := q
theorem r_tup (q : tr σ H fun xs H1 => newT Q xs H1) : tTup tr σ H Q := q
theorem r_lst (q : tr σ H fun xs H1 => newL Q xs H1) : tLst tr σ H Q := q
theorem q_newT {xs : List V} (hl : xs.length ≤ 100000) (q : ∀ p Hn, H p = none → Ex H Hn → Hn p = some (.tup xs) → Q (.ref p) Hn) : newT Q xs H := ⟨sl1000 hl, fun p hp => q p _ hp (Ex.mk hp rfl) upd_same⟩
theorem q_newL {xs : List V} (hl : xs.length ≤ 100000) (q : ∀ p Hn, H p = none → Ex H Hn → Hn p = some (.lst xs) → Q (.ref p) Hn) : newL Q xs H := ⟨sl1000 hl, fun p hp => q p _ hp (Ex.mk hp rfl) upd_same⟩
theorem r_cons (q : ta σ H fun x H1 => tr σ H1 fun xs H2 => QA (x :: xs) H2) : tCons ta tr σ H QA := q
theorem r_nil (q : QA [] H) : tNil σ H QA := q
theorem r_cb {r : List V → Hp → VK → Prop} (q : tr σ H fun vs H1 => r vs H1 Q) : tCB r tr σ H Q := q
theorem r_call {sp : Sp} {E : XK} (q : tr σ H fun vs H1 => sp vs H1 Q E) : tCall sp [] E tr σ H Q := by
  have e : (fun (vs : List V) (H1 : Hp) => sp (vs ++ []) H1 Q E) = fun vs H1 => sp vs H1 Q E := by
    funext vs H1
    rw [List.append_nil]
  show tr σ H (fun vs H1 => sp (vs ++ []) H1 Q E)
  rw [e]
  exact q
theorem r_ifE (q : t σ H fun c H1 => if c = true then ta σ H1 Q else tb σ H1 Q) : tIf t ta tb σ H Q := q
theorem r_sl {r : V → Option Int → Option Int → Hp → VK → Prop} {tl th : TO} (q : te σ H fun x H1 => tl σ H1 fun l H2 => th σ H2 fun u H3 => r x l u H3 Q) : tSl r te tl th σ H Q := q
theorem r_nopart {Q : Option Int → Hp → Prop} (q : Q none H) : tNoPart σ H Q := q
theorem r_part {Q : Option Int → Hp → Prop} (q : te σ H fun x H1 => ∃ i, x = .int i ∧ Q (some i) H1) : tPart te σ H Q := q
theorem q_part {i : Int} {B : Int → Prop} (q : B i) : ∃ j, V.int i = .int j ∧ B j := ⟨i, rfl, q⟩
theorem r_dget {td ty : TE} (q : td σ H fun x H1 => ty σ H1 fun y H2 => ∃ a v, x = .ref a ∧ DGet H2 a y (some v) ∧ Q v H2) : tDGet td ty σ H Q := q
theorem q_dget {p : Addr} {kvs : List (Key × V)} {z : Str} {B : V → Prop} (h : H p = some (.dK kvs)) (hl : valV kvs (Sum.inr z) = some v) (q : B v) : ∃ a v', V.ref p = .ref a ∧ DGet H a (.str z) (some v') ∧ B v' :=
  ⟨p, v, rfl, by rw [← hl]; exact DGet.k (k := Sum.inr z) h, q⟩
theorem r_andV (q : ta σ H fun x H1 => ∃ c, x = .bl c ∧ if c = true then tb σ H1 Q else Q (.bl false) H1) : tAndV ta tb σ H Q := q
theorem r_orV (q : ta σ H fun x H1 => ∃ c, x = .bl c ∧ if c = true then Q (.bl true) H1 else tb σ H1 Q) : tOrV ta tb σ H Q := q
theorem r_notV (q : ta σ H fun x H1 => ∃ c, x = .bl c ∧ Q (.bl (!c)) H1) : tNotV ta σ H Q := q
theorem r_test (q : te σ H fun x H' => ∃ k, x = .bl k ∧ QT k H') : tTest te σ H QT := q
theorem r_tB (q : te σ H fun x H1 => ∃ c, x = .bl c ∧ QT c H1) : tB te σ H QT := q
theorem q_exb {b : Bool} {B : Bool → Prop} (q : B b) : ∃ k, V.bl b = .bl k ∧ B k := ⟨b, rfl, q⟩
theorem r_and (q : t σ H fun c H1 => if c = true then u σ H1 QT else QT false H1) : tAnd t u σ H QT := q
theorem r_or (q : t σ H fun c H1 => if c = true then QT true H1 else u σ H1 QT) : tOr t u σ H QT := q
theorem r_not (q : t σ H fun c H1 => QT (!c) H1) : tNot t σ H QT := q
theorem r_seq (q : ts ⟨us ⟨nx, rt, bk, ct⟩, rt, bk, ct⟩ σ H) : tSeq ts us ⟨nx, rt, bk, ct⟩ σ H := q
theorem r_next (q : nx σ H) : tNext ⟨nx, rt, bk, ct⟩ σ H := q
theorem r_ifS (q : c σ H fun b H1 => if b = true then ts ⟨nx, rt, bk, ct⟩ σ H1 else us ⟨nx, rt, bk, ct⟩ σ H1) : tIfS c ts us ⟨nx, rt, bk, ct⟩ σ H := q
theorem r_asg (q : te σ H fun x H1 => g x σ H1 nx) : tAsg te g ⟨nx, rt, bk, ct⟩ σ H := q
theorem r_aug {ti : TIp} (h : σ[i]? = some (some v)) (q : te σ H fun y H1 => ti v y H1 fun z H2 => nx (σ.set i (some z)) H2) : tAug i te ti ⟨nx, rt, bk, ct⟩ σ H := ⟨v, h, q⟩
theorem q_ip {f : Int → Int → Int} {i j : Int} (q : Q (.int (f i j)) H) : ipI f (.int i) (.int j) H Q := ⟨i, j, rfl, rfl, q⟩
theorem r_drop (q : te σ H fun _ H1 => nx σ H1) : tDrop te ⟨nx, rt, bk, ct⟩ σ H := q
theorem r_ret (q : te σ H rt) : tRet te ⟨nx, rt, bk, ct⟩ σ H := q
theorem r_retN (q : rt .non H) : tRetN ⟨nx, rt, bk, ct⟩ σ H := q
theorem r_gname (q : QS (σ.set i (some v)) H) : gName i v σ H QS := q
theorem r_gnil (q : QS σ H) : gNil [] σ H QS := ⟨rfl, q⟩
theorem r_gcons {vs : List V} (q : g v σ H fun σ' H' => gs vs σ' H' QS) : gCons g gs (v :: vs) σ H QS := ⟨v, vs, rfl, q⟩
theorem r_gtup {p : Addr} {xs : List V} {n : Nat} (h : SqT K H p xs) (hl : xs.length = n) (q : gs xs σ H QS) : gTup K n gs (.ref p) σ H QS := ⟨p, xs, rfl, h, hl, q⟩
theorem r_gsub {to ti : TE} {s : TSet} (q : to σ H fun o H1 => ti σ H1 fun i H2 => s o i v H2 fun H3 => QS σ H3) : gSub to ti s v σ H QS := q
theorem r_bm {T : String} {r : V → List V → Hp → VK → Prop} (q : te σ H fun x H1 => tyV K T x H1 ∧ tr σ H1 fun xs H2 => r x xs H2 Q) : tBM K T r te tr σ H Q := q
theorem r_bm0 {T : String} {r : V → List V → Hp → VK → Prop} (q : te σ H fun x H1 => tyV K T x H1 ∧ r x [] H1 Q) : tBM0 K T r te σ H Q := q
theorem q_tyL {p : Addr} {xs : List V} {A : Prop} (h : H p = some (.lst xs)) (q : A) : tyV K "list" (.ref p) H ∧ A := ⟨Or.inl ⟨rfl, xs, sql h⟩, q⟩

theorem cast_q {x y : V} (e : x = y) (h : Q x H) : Q y H := e ▸ h
/-! ### operations on values -/
theorem q_addI {i j : Int} (q : Q (.int (i + j)) H) : rAddA K (.int i) (.int j) H Q := .inl ⟨i, j, rfl, rfl, q⟩
theorem q_I0 {f : Int → Int → V} {i j : Int} (q : Q (f i j) H) : rI0 f (.int i) (.int j) H Q := ⟨i, j, rfl, rfl, q⟩
theorem q_I {C : Int → Int → Prop} {f : Int → Int → V} {i j : Int} (h : C i j) (q : Q (f i j) H) : rI C f (.int i) (.int j) H Q := ⟨i, j, rfl, rfl, h, q⟩
theorem q_U {f : Int → V} {i : Int} (q : Q (f i) H) : rU f (.int i) H Q := ⟨i, rfl, q⟩
theorem q_ixT {p : Addr} {xs : List V} {i : Int} (h : SqT K H p xs) (ha : atI xs i = some v) (q : Q v H) : rIx K (.ref p) (.int i) H Q := .inr (.inl ⟨p, xs, i, v, rfl, rfl, h, ha, q⟩)
theorem q_ixL {p : Addr} {xs : List V} {i : Int} (h : SqL K H p xs) (ha : atI xs i = some v) (q : Q v H) : rIx K (.ref p) (.int i) H Q := .inl ⟨p, xs, i, v, rfl, rfl, h, ha, q⟩
theorem q_eqY (hs : scal x y = true) (he : x = y) (q : Q (.bl true) H) : rEqA K x y H Q := .inl ⟨hs, by rw [decide_eq_true he]; exact q⟩
theorem q_eqN (hs : scal x y = true) (he : ¬ x = y) (q : Q (.bl false) H) : rEqA K x y H Q := .inl ⟨hs, by rw [decide_eq_false he]; exact q⟩
theorem q_eqI {i j : Int} (h1 : i = j → Q (.bl true) H) (h2 : ¬ i = j → Q (.bl false) H) : rEqA K (.int i) (.int j) H Q := by
  by_cases e : i = j
  · exact q_eqY rfl (by rw [e]) (h1 e)
  · exact q_eqN rfl (fun z => e (V.int.inj z)) (h2 e)
theorem q_eqS {i j : Str} (h1 : i = j → Q (.bl true) H) (h2 : ¬ i = j → Q (.bl false) H) : rEqA K (.str i) (.str j) H Q := by
  by_cases e : i = j
  · exact q_eqY rfl (by rw [e]) (h1 e)
  · exact q_eqN rfl (fun z => e (V.str.inj z)) (h2 e)
theorem q_neY (hs : scal x y = true) (he : ¬ x = y) (q : Q (.bl true) H) : rNeA K x y H Q := .inl ⟨hs, by rw [decide_eq_false he]; exact q⟩
theorem q_neN (hs : scal x y = true) (he : x = y) (q : Q (.bl false) H) : rNeA K x y H Q := .inl ⟨hs, by rw [decide_eq_true he]; exact q⟩
theorem q_neI {i j : Int} (h1 : ¬ i = j → Q (.bl true) H) (h2 : i = j → Q (.bl false) H) : rNeA K (.int i) (.int j) H Q := by
  by_cases e : i = j
  · exact q_neN rfl (by rw [e]) (h2 e)
  · exact q_neY rfl (fun z => e (V.int.inj z)) (h1 e)
theorem q_neS {i j : Str} (h1 : ¬ i = j → Q (.bl true) H) (h2 : i = j → Q (.bl false) H) : rNeA K (.str i) (.str j) H Q := by
  by_cases e : i = j
  · exact q_neN rfl (by rw [e]) (h2 e)
  · exact q_neY rfl (fun z => e (V.str.inj z)) (h1 e)
theorem q_cmp {f : Int → Int → Prop} [∀ i j, Decidable (f i j)] {i j : Int} (h1 : f i j → Q (.bl true) H) (h2 : ¬ f i j → Q (.bl false) H) : rI0 (fun i j => .bl (decide (f i j))) (.int i) (.int j) H Q := by
  refine ⟨i, j, rfl, rfl, ?_⟩
  show Q (V.bl (decide (f i j))) H
  by_cases e : f i j
  · rw [decide_eq_true e]; exact h1 e
  · rw [decide_eq_false e]; exact h2 e
theorem cmulL {i j : Int} (h : -(2 ^ 64) < i ∧ i < 2 ^ 64) : CMul i j := .inl h
theorem cmulR {i j : Int} (h : -(2 ^ 64) < j ∧ j < 2 ^ 64) : CMul i j := .inr h
theorem cdiv {i j : Int} (h : 0 < j ∧ j < 1073741824) : CDiv i j := h
theorem q_neD (hn : ¬ x = y) (hs : scal x y = true) (q : Q (.bl true) H) : rNeA K x y H Q := q_neY hs hn q
theorem q_cmpY {f : Int → Int → Prop} [∀ i j, Decidable (f i j)] {i j : Int} (h : f i j) (q : Q (.bl true) H) : rI0 (fun i j => .bl (decide (f i j))) (.int i) (.int j) H Q :=
  ⟨i, j, rfl, rfl, by show Q (V.bl (decide (f i j))) H; rw [decide_eq_true h]; exact q⟩
theorem q_cmpN {f : Int → Int → Prop} [∀ i j, Decidable (f i j)] {i j : Int} (h : ¬ f i j) (q : Q (.bl false) H) : rI0 (fun i j => .bl (decide (f i j))) (.int i) (.int j) H Q :=
  ⟨i, j, rfl, rfl, by show Q (V.bl (decide (f i j))) H; rw [decide_eq_false h]; exact q⟩
theorem q_isNY (he : x = .non) (q : Q (.bl true) H) : rIsN x .non H Q := ⟨rfl, by rw [decide_eq_true he]; exact q⟩
theorem q_isNN (he : ¬ x = .non) (q : Q (.bl false) H) : rIsN x .non H Q := ⟨rfl, by rw [decide_eq_false he]; exact q⟩
theorem q_notNY (he : x = .non) (q : Q (.bl false) H) : rNotN x .non H Q := ⟨rfl, by rw [decide_eq_true he]; exact q⟩
theorem q_notNN (he : ¬ x = .non) (q : Q (.bl true) H) : rNotN x .non H Q := ⟨rfl, by rw [decide_eq_false he]; exact q⟩
theorem q_lenL {p : Addr} {xs : List V} (h : SqL K H p xs) (q : Q (.int xs.length) H) : rLenA K [.ref p] H Q := .inl ⟨p, xs, rfl, .inl h, q⟩
theorem q_lenT {p : Addr} {xs : List V} (h : SqT K H p xs) (q : Q (.int xs.length) H) : rLenA K [.ref p] H Q := .inl ⟨p, xs, rfl, .inr h, q⟩
theorem q_sl1T {p : Addr} {xs : List V} (h : SqT K H p (x :: xs)) (q : ∀ p Hn, H p = none → Ex H Hn → Hn p = some (.tup xs) → Q (.ref p) Hn) : rSlA K (.ref p) (some 1) none H Q :=
  .inr ⟨p, x :: xs, rfl, h, fun z => by
    have e : HT.sIx (x :: xs).length 0 (some 1) = min 1 (x :: xs).length := HT.sIx_nat _ 0 1
    have z1 := z.1
    rw [e, List.length_cons] at z1
    omega, fun p hp => q p _ hp (Ex.mk hp rfl) (by rw [upd_same, cut1]; rfl)⟩
theorem q_sl1L {p : Addr} {xs : List V} (h : SqL K H p (x :: xs)) (q : ∀ p Hn, H p = none → Ex H Hn → Hn p = some (.lst xs) → Q (.ref p) Hn) : rSlA K (.ref p) (some 1) none H Q :=
  .inl ⟨p, x :: xs, rfl, h, fun p hp => q p _ hp (Ex.mk hp rfl) (by rw [upd_same, cut1]; rfl)⟩
theorem q_inT {p : Addr} {xs : List V} (h : SqT K H p xs) (hx : flatV x = true) (ha : xs.all flatV = true) (q : Q (.bl (inV x xs)) H) : rIn K false x (.ref p) H Q := ⟨p, xs, rfl, .inr h, hx, ha, q⟩
theorem q_inTY {p : Addr} {xs : List V} (h : SqT K H p xs) (hx : (flatV x && xs.all flatV && inV x xs) = true) (q : Q (.bl true) H) : rIn K false x (.ref p) H Q := by
  simp only [Bool.and_eq_true] at hx
  exact ⟨p, xs, rfl, .inr h, hx.1.1, hx.1.2, by rw [if_neg Bool.false_ne_true, hx.2]; exact q⟩
theorem q_inTN {p : Addr} {xs : List V} (h : SqT K H p xs) (hx : (flatV x && xs.all flatV && !inV x xs) = true) (q : Q (.bl false) H) : rIn K false x (.ref p) H Q := by
  simp only [Bool.and_eq_true, Bool.not_eq_true'] at hx
  exact ⟨p, xs, rfl, .inr h, hx.1.1, hx.1.2, by rw [if_neg Bool.false_ne_true, hx.2]; exact q⟩
theorem q_inLY {p : Addr} {xs : List V} (h : SqL K H p xs) (hx : (flatV x && xs.all flatV && inV x xs) = true) (q : Q (.bl true) H) : rIn K false x (.ref p) H Q := by
  simp only [Bool.and_eq_true] at hx
  exact ⟨p, xs, rfl, .inl h, hx.1.1, hx.1.2, by rw [if_neg Bool.false_ne_true, hx.2]; exact q⟩
theorem q_inLN {p : Addr} {xs : List V} (h : SqL K H p xs) (hx : (flatV x && xs.all flatV && !inV x xs) = true) (q : Q (.bl false) H) : rIn K false x (.ref p) H Q := by
  simp only [Bool.and_eq_true, Bool.not_eq_true'] at hx
  exact ⟨p, xs, rfl, .inl h, hx.1.1, hx.1.2, by rw [if_neg Bool.false_ne_true, hx.2]; exact q⟩
theorem q_isi {t : Value} {T : String} {b : Bool} (ty : TyOf K H x t) (e : PySem.W.kitOne K t (.type T) = some b) (q : Q (.bl b) H) : rIsi K [x, .ty T] H Q := ⟨x, .ty T, t, .type T, b, rfl, .ty T, .base ty, e, q⟩
theorem q_isiBI {i : Int} (q : Q (.bl false) H) : rIsi K [.int i, .ty "bool"] H Q := q_isi (.int i) (kit_ty (by decide +kernel)) q
theorem q_isiBN (q : Q (.bl false) H) : rIsi K [.non, .ty "bool"] H Q := q_isi .non (kit_ty (by decide +kernel)) q
def dispK (Q : VK) (p : Addr) (ps : List (V × V)) (H : Hp) : Prop := H p = some (.dK []) ∧ ∃ kvs : List (Key × V), ps = kvs.map (fun kv => (kV kv.1, kv.2)) ∧ kvs.length ≤ 15 ∧ Q (.ref p) (upd H p (.dK (mergeK [] kvs)))
theorem r_disp {trs : List (TE × TE)} (q : ∀ p Hn, H p = none → Ex H Hn → Hn p = some (.dK []) → tPairs trs σ Hn fun ps H2 => dispK Q p ps H2) : tDisp trs σ H Q := fun p hp => q p _ hp (Ex.mk hp rfl) upd_same
theorem r_pnil {QP : List (V × V) → Hp → Prop} (q : QP [] H) : tPairs [] σ H QP := q
theorem r_pcons {QP : List (V × V) → Hp → Prop} {tk tv : TE} {r : List (TE × TE)} (q : tk σ H fun x H1 => tv σ H1 fun y H2 => tPairs r σ H2 fun ps H3 => QP ((x, y) :: ps) H3) : tPairs ((tk, tv) :: r) σ H QP := q
theorem merge_nd {kvs : List (Key × V)} (h : (kvs.map (·.1)).Nodup) : mergeK [] kvs = kvs := by
  have key : ∀ (more acc : List (Key × V)), ((acc ++ more).map (·.1)).Nodup → mergeK acc more = acc ++ more := by
    intro more
    induction more with
    | nil => intro acc _; rw [List.append_nil]; rfl
    | cons p r ih =>
      intro acc h
      have hp : valV acc p.1 = none := by
        cases hv : valV acc p.1 with
        | none => rfl
        | some x =>
          exfalso
          have hm := valV_in hv
          rw [List.map_append, List.nodup_append] at h
          exact h.2.2 _ hm _ (by simp) rfl
      show mergeK (putK acc p.1 p.2) r = acc ++ p :: r
      rw [putK_new _ hp, ih _ (by rw [List.append_assoc]; exact h), List.append_assoc]
      rfl
  exact key kvs [] h
theorem q_disp {p : Addr} {ps : List (V × V)} (kvs : List (Key × V)) (h : H p = some (.dK [])) (e : ps = kvs.map (fun kv => (kV kv.1, kv.2))) (nd : (kvs.map (·.1)).Nodup) (hl : kvs.length ≤ 15)
    (q : ∀ Hn, Kp [p] H Hn → Hn p = some (.dK kvs) → Q (.ref p) Hn) : dispK Q p ps H := ⟨h, kvs, e, hl, by
  rw [merge_nd nd]
  exact q _ (Kp.set (List.mem_singleton.mpr rfl) (fun xs z => by rw [h] at z; cases z) rfl) upd_same⟩
theorem q_inL {p : Addr} {xs : List V} (h : SqL K H p xs) (hx : flatV x = true) (ha : xs.all flatV = true) (q : Q (.bl (inV x xs)) H) : rIn K false x (.ref p) H Q := ⟨p, xs, rfl, .inl h, hx, ha, q⟩
theorem r_iL {tl : TE} {R : It → Hp → Prop} (q : tl σ H fun x H1 => ∃ a, x = .ref a ∧ (∃ xs, SqL K H1 a xs) ∧ R (Itl K a) H1) : iList K tl σ H R := q
theorem q_iL {a : Addr} {xs : List V} {B : Addr → Prop} (h : SqL K H a xs) (q : B a) : ∃ b, V.ref a = .ref b ∧ (∃ xs, SqL K H b xs) ∧ B b := ⟨a, rfl, ⟨xs, h⟩, q⟩
theorem r_iT {tl : TE} {R : It → Hp → Prop} (q : tl σ H fun x H1 => ∃ a, x = .ref a ∧ (∃ xs, SqT K H1 a xs) ∧ R (Itt K a) H1) : iTup K tl σ H R := q
theorem q_iT {a : Addr} {xs : List V} {B : Addr → Prop} (h : SqT K H a xs) (q : B a) : ∃ b, V.ref a = .ref b ∧ (∃ xs, SqT K H b xs) ∧ B b := ⟨a, rfl, ⟨xs, h⟩, q⟩
theorem r_rng1 {R : It → Hp → Prop} (q : tr σ H fun vs H1 => ∃ j : Int, vs = [.int j] ∧ -(2 ^ 62) ≤ j ∧ j < 2 ^ 62 ∧ R (Itr 0 j.toNat) H1) : iRng1 tr σ H R := q
theorem q_rng1 {j : Int} {B : Int → Prop} (h : 0 ≤ j ∧ j ≤ 1000000) (q : B j) : ∃ i : Int, [V.int j] = [.int i] ∧ -(2 ^ 62) ≤ i ∧ i < 2 ^ 62 ∧ B i := ⟨j, rfl, by omega, by omega, q⟩
theorem r_rng2 {R : It → Hp → Prop} (q : tr σ H fun vs H1 => ∃ i j : Int, vs = [.int i, .int j] ∧ (-(2 ^ 62) ≤ i ∧ i < 2 ^ 62 ∧ -(2 ^ 62) ≤ j ∧ j < 2 ^ 62) ∧ R (Itr i (j - i).toNat) H1) : iRng2 tr σ H R := q
theorem q_rng2 {i j : Int} {B : Int → Int → Prop} (h : 0 ≤ i ∧ i ≤ 1000000 ∧ 0 ≤ j ∧ j ≤ 1000000) (q : B i j) : ∃ a b : Int, [V.int i, V.int j] = [.int a, .int b] ∧ (-(2 ^ 62) ≤ a ∧ a < 2 ^ 62 ∧ -(2 ^ 62) ≤ b ∧ b < 2 ^ 62) ∧ B a b :=
  ⟨i, j, rfl, ⟨by omega, by omega, by omega, by omega⟩, q⟩
theorem r_lc {wi : TI} {vs : List Nat} (q : wi σ H fun J H1 => ∀ D, H1 D = none → ∃ W : Nat → Nat → Hp → Prop, (∃ m, W 0 m (upd H1 D (.lst []))) ∧ ∀ i m H, W i m H →
  (J.stop i H ∧ Q (.ref D) H) ∨ (J.go i H ∧ ∃ Nx : Hp → Prop, (∀ H', Nx H' → ∃ m', m' < m ∧ W (i + 1) m' H') ∧ ∀ x H', J.yld i H x H' → g x (wipe σ vs) H' fun σ2 H2 => wipe σ2 vs = wipe σ vs ∧ t σ2 H2 fun b H3 =>
    if b = true then te σ2 H3 fun y H4 => ∃ acc, H4 D = some (.lst acc) ∧ acc.length < sizeLine ∧ Nx (upd H4 D (.lst (acc ++ [y]))) else Nx H3)) : tLc wi g t te vs σ H Q := q
theorem r_yes (q : QT true H) : tYes σ H QT := q
theorem r_for {wi : TI} (q : wi σ H fun J H1 => ∃ W : Nat → Nat → L2.St → Hp → Prop, (∃ m, W 0 m σ H1) ∧ ∀ i m σ H, W i m σ H →
  (J.stop i H ∧ nx σ H) ∨ (J.go i H ∧ ∃ N : L2.St → Hp → Prop, (∀ σ' H', N σ' H' → ∃ m', m' < m ∧ W (i + 1) m' σ' H') ∧ ∀ x H', J.yld i H x H' → g x σ H' fun σ2 H2 => ts ⟨N, rt, nx, N⟩ σ2 H2)) : tFor wi g ts ⟨nx, rt, bk, ct⟩ σ H := q
/-- the loops' words -/
theorem w_list {a : Addr} {xs : List V} (Pv : Nat → L2.St → Hp → Prop) (h0 : Pv 0 σ H) (hl : ∀ i σ H, i ≤ xs.length → Pv i σ H → SqL K H a xs)
    (hs : ∀ i x σ H, xs[i]? = some x → Pv i σ H → g x σ H fun σ2 H2 => ts ⟨Pv (i + 1), rt, nx, Pv (i + 1)⟩ σ2 H2) (hd : ∀ σ H, Pv xs.length σ H → nx σ H) :
    ∃ W : Nat → Nat → L2.St → Hp → Prop, (∃ m, W 0 m σ H) ∧ ∀ i m σ H, W i m σ H →
      ((Itl K a).stop i H ∧ nx σ H) ∨ ((Itl K a).go i H ∧ ∃ N : L2.St → Hp → Prop, (∀ σ' H', N σ' H' → ∃ m', m' < m ∧ W (i + 1) m' σ' H') ∧ ∀ x H', (Itl K a).yld i H x H' → g x σ H' fun σ2 H2 => ts ⟨N, rt, nx, N⟩ σ2 H2) :=
  for_list (D := ⟨nx, rt, nx, nx⟩) Pv h0 hl hs hd
theorem w_tup {a : Addr} {xs : List V} (Pv : Nat → L2.St → Hp → Prop) (h0 : Pv 0 σ H) (hl : ∀ i σ H, i ≤ xs.length → Pv i σ H → SqT K H a xs)
    (hs : ∀ i x σ H, xs[i]? = some x → Pv i σ H → g x σ H fun σ2 H2 => ts ⟨Pv (i + 1), rt, nx, Pv (i + 1)⟩ σ2 H2) (hd : ∀ σ H, Pv xs.length σ H → nx σ H) :
    ∃ W : Nat → Nat → L2.St → Hp → Prop, (∃ m, W 0 m σ H) ∧ ∀ i m σ H, W i m σ H →
      ((Itt K a).stop i H ∧ nx σ H) ∨ ((Itt K a).go i H ∧ ∃ N : L2.St → Hp → Prop, (∀ σ' H', N σ' H' → ∃ m', m' < m ∧ W (i + 1) m' σ' H') ∧ ∀ x H', (Itt K a).yld i H x H' → g x σ H' fun σ2 H2 => ts ⟨N, rt, nx, N⟩ σ2 H2) :=
  for_tup (D := ⟨nx, rt, nx, nx⟩) Pv h0 hl hs hd
theorem w_rng {lo : Int} {n : Nat} (Pv : Nat → L2.St → Hp → Prop) (h0 : Pv 0 σ H)
    (hs : ∀ i σ H, i < n → Pv i σ H → g (.int (lo + i)) σ H fun σ2 H2 => ts ⟨Pv (i + 1), rt, nx, Pv (i + 1)⟩ σ2 H2) (hd : ∀ σ H, Pv n σ H → nx σ H) :
    ∃ W : Nat → Nat → L2.St → Hp → Prop, (∃ m, W 0 m σ H) ∧ ∀ i m σ H, W i m σ H →
      ((Itr lo n).stop i H ∧ nx σ H) ∨ ((Itr lo n).go i H ∧ ∃ N : L2.St → Hp → Prop, (∀ σ' H', N σ' H' → ∃ m', m' < m ∧ W (i + 1) m' σ' H') ∧ ∀ x H', (Itr lo n).yld i H x H' → g x σ H' fun σ2 H2 => ts ⟨N, rt, nx, N⟩ σ2 H2) :=
  for_range (D := ⟨nx, rt, nx, nx⟩) Pv h0 hs hd
theorem r_iS {tl : TE} {R : It → Hp → Prop} (q : tl σ H fun v H1 => ∃ x, v = .str x ∧ R (Its x) H1) : iStr tl σ H R := q
theorem q_iS {z : Str} {B : Str → Prop} (q : B z) : ∃ x, V.str z = .str x ∧ B x := ⟨z, rfl, q⟩
theorem w_str {x : Str} (Pv : Nat → L2.St → Hp → Prop) (h0 : Pv 0 σ H)
    (hs : ∀ i c σ H, x.cps.toList[i]? = some c → Pv i σ H → g (.str ⟨#[c]⟩) σ H fun σ2 H2 => ts ⟨Pv (i + 1), rt, nx, Pv (i + 1)⟩ σ2 H2) (hd : ∀ σ H, Pv x.cps.toList.length σ H → nx σ H) :
    ∃ W : Nat → Nat → L2.St → Hp → Prop, (∃ m, W 0 m σ H) ∧ ∀ i m σ H, W i m σ H →
      ((Its x).stop i H ∧ nx σ H) ∨ ((Its x).go i H ∧ ∃ N : L2.St → Hp → Prop, (∀ σ' H', N σ' H' → ∃ m', m' < m ∧ W (i + 1) m' σ' H') ∧ ∀ v H', (Its x).yld i H v H' → g v σ H' fun σ2 H2 => ts ⟨N, rt, nx, N⟩ σ2 H2) := by
  have hz : x.cps.toList.length = x.cps.size := Array.length_toList
  refine ⟨fun i m σ H => m = x.cps.size - i ∧ i ≤ x.cps.size ∧ Pv i σ H, ⟨x.cps.size, by simp, Nat.zero_le _, h0⟩, ?_⟩
  rintro i m σ H ⟨rfl, hi, p⟩
  by_cases hlt : i < x.cps.size
  · refine .inr ⟨hlt, Pv (i + 1), fun σ' H' p' => ⟨x.cps.size - (i + 1), by omega, rfl, hlt, p'⟩, fun v H' y => ?_⟩
    obtain ⟨e, c, hc, ev⟩ := y
    subst e
    subst ev
    exact hs i c _ _ (by rw [Array.getElem?_toList]; exact hc) p
  · have e : i = x.cps.toList.length := by omega
    subst e
    exact .inl ⟨by show x.cps.size ≤ _; omega, hd _ _ p⟩
theorem w_while (W : Nat → L2.St → Hp → Prop) (m0 : Nat) (h0 : W m0 σ H)
    (hs : ∀ m σ' H', W m σ' H' → c σ' H' fun b H1 => if b = true then ts ⟨fun σ2 H2 => ∃ m', m' < m ∧ W m' σ2 H2, rt, nx, fun σ2 H2 => ∃ m', m' < m ∧ W m' σ2 H2⟩ σ' H1 else nx σ' H1)
    (mono : ∀ σ H Q Q', (∀ b H1, Q b H1 → Q' b H1) → c σ H Q → c σ H Q') : tWhile c ts ⟨nx, rt, bk, ct⟩ σ H := by
  refine ⟨W, ⟨m0, h0⟩, fun m σ' H' hw => mono σ' H' _ _ (fun b H1 q => ?_) (hs m σ' H' hw)⟩
  cases b with
  | true => exact ⟨_, fun _ _ n => n, q⟩
  | false => exact q
theorem q_setL {p : Addr} {xs : List V} {k : Int} {j : Nat} {QH : Hp → Prop} (h : H p = some (.lst xs)) (hj : ixN xs.length k = some j) (q : QH (upd H p (.lst (xs.set j v)))) : rSetL (.ref p) (.int k) v H QH := ⟨p, xs, k, j, rfl, rfl, h, hj, q⟩
theorem q_append {l : Addr} {xs : List V} (h : H l = some (.lst xs)) (hz : xs.length < 100000) (q : Q .non (upd H l (.lst (xs ++ [y])))) : rAppend (.ref l) [y] H Q := ⟨l, xs, y, rfl, rfl, h, sl1000' hz, q⟩
theorem q_pop0 {l : Addr} {xs : List V} (h : H l = some (.lst (x :: xs))) (q : Q x (upd H l (.lst xs))) : rPopAt (.ref l) [.int 0] H Q := ⟨l, x :: xs, 0, 0, x, rfl, rfl, h, by decide, by decide, by simp [seqIndex?], rfl, q⟩
theorem q_abs {i : Int} (q : Q (.int (if i < 0 then -i else i)) H) : rAbs [.int i] H Q := ⟨i, rfl, q⟩
theorem q_int {i : Int} (q : Q (.int i) H) : rInt [.int i] H Q := .inl ⟨i, rfl, q⟩
theorem q_intT (q : Q (.int 1) H) : rInt [.bl true] H Q := .inr ⟨true, rfl, q⟩
theorem q_intF (q : Q (.int 0) H) : rInt [.bl false] H Q := .inr ⟨false, rfl, q⟩
theorem q_intNT (q : Q (.int 1) H) : rInt [.bl (!false)] H Q := .inr ⟨true, rfl, q⟩
theorem q_intNF (q : Q (.int 0) H) : rInt [.bl (!true)] H Q := .inr ⟨false, rfl, q⟩
theorem iteNT {A B : Prop} (h : A) : if (!false) = true then A else B := by simpa using h
theorem iteNF {A B : Prop} (h : B) : if (!true) = true then A else B := by simpa using h
theorem q_listL {p : Addr} {ys : List V} (h : SqL K H p ys) (q : ∀ p Hn, H p = none → Ex H Hn → Hn p = some (.lst ys) → Q (.ref p) Hn) : rListOf K [.ref p] H Q := ⟨p, ys, rfl, .inl h, fun p hp => q p _ hp (Ex.mk hp rfl) upd_same⟩
theorem q_listT {p : Addr} {ys : List V} (h : SqT K H p ys) (q : ∀ p Hn, H p = none → Ex H Hn → Hn p = some (.lst ys) → Q (.ref p) Hn) : rListOf K [.ref p] H Q := ⟨p, ys, rfl, .inr h, fun p hp => q p _ hp (Ex.mk hp rfl) upd_same⟩
end

/-! ### tests that hand on more where more is wished (for while) -/
section
variable {K : PySem.W.Frag}
def MoE (t : TE) : Prop := ∀ σ H (Q Q' : VK), (∀ v H1, Q v H1 → Q' v H1) → t σ H Q → t σ H Q'
def MoT (t : TT) : Prop := ∀ σ H (Q Q' : Bool → Hp → Prop), (∀ v H1, Q v H1 → Q' v H1) → t σ H Q → t σ H Q'
def MoA (t : TA) : Prop := ∀ σ H (Q Q' : List V → Hp → Prop), (∀ v H1, Q v H1 → Q' v H1) → t σ H Q → t σ H Q'
def MoR (r : R2) : Prop := ∀ x y H (Q Q' : VK), (∀ v H1, Q v H1 → Q' v H1) → r x y H Q → r x y H Q'
def MoC (r : List V → Hp → VK → Prop) : Prop := ∀ x H (Q Q' : VK), (∀ v H1, Q v H1 → Q' v H1) → r x H Q → r x H Q'
theorem mo_var {i : Nat} : MoE (tVar i) := fun _ _ _ _ k ⟨v, h, q⟩ => ⟨v, h, k _ _ q⟩
theorem mo_c {v : V} : MoE (tC v) := fun _ _ _ _ k q => k _ _ q
theorem mo_op {r : R2} {a b : TE} (hr : MoR r) (ha : MoE a) (hb : MoE b) : MoE (tOp r a b) := fun σ H Q Q' k h => ha _ _ _ _ (fun x H1 q => hb _ _ _ _ (fun y H2 q => hr _ _ _ _ _ k q) q) h
theorem mo_test {a : TE} (ha : MoE a) : MoT (tTest a) := fun σ H Q Q' k h => ha _ _ _ _ (fun x H1 ⟨c, e, q⟩ => ⟨c, e, k _ _ q⟩) h
theorem mo_and {a b : TT} (ha : MoT a) (hb : MoT b) : MoT (tAnd a b) := fun σ H Q Q' k h => ha _ _ _ _ (fun c H1 q => by
  cases c
  · exact k _ _ q
  · exact hb _ _ _ _ k q) h
theorem mo_or {a b : TT} (ha : MoT a) (hb : MoT b) : MoT (tOr a b) := fun σ H Q Q' k h => ha _ _ _ _ (fun c H1 q => by
  cases c
  · exact hb _ _ _ _ k q
  · exact k _ _ q) h
theorem mo_not {a : TT} (ha : MoT a) : MoT (tNot a) := fun σ H Q Q' k h => ha _ _ _ _ (fun c H1 q => k _ _ q) h
theorem mo_nil : MoA tNil := fun _ _ _ _ k q => k _ _ q
theorem mo_cons {a : TE} {r : TA} (ha : MoE a) (hr : MoA r) : MoA (tCons a r) := fun σ H Q Q' k h => ha _ _ _ _ (fun x H1 q => hr _ _ _ _ (fun xs H2 q => k _ _ q) q) h
theorem mo_cb {r : List V → Hp → VK → Prop} {a : TA} (hr : MoC r) (ha : MoA a) : MoE (tCB r a) := fun σ H Q Q' k h => ha _ _ _ _ (fun x H1 q => hr _ _ _ _ k q) h
theorem mo_I0 {f : Int → Int → V} : MoR (rI0 f) := fun _ _ _ _ _ k ⟨i, j, a, b, q⟩ => ⟨i, j, a, b, k _ _ q⟩
theorem mo_I {C : Int → Int → Prop} {f : Int → Int → V} : MoR (rI C f) := fun _ _ _ _ _ k ⟨i, j, a, b, c, q⟩ => ⟨i, j, a, b, c, k _ _ q⟩
theorem mo_eqA : MoR (rEqA K) := fun _ _ _ _ _ k h => h.elim (fun ⟨a, q⟩ => .inl ⟨a, k _ _ q⟩) fun ⟨d, e, a, b, c, f, q⟩ => .inr ⟨d, e, a, b, c, f, k _ _ q⟩
theorem mo_neA : MoR (rNeA K) := fun _ _ _ _ _ k h => h.elim (fun ⟨a, q⟩ => .inl ⟨a, k _ _ q⟩) fun ⟨d, e, a, b, c, f, q⟩ => .inr ⟨d, e, a, b, c, f, k _ _ q⟩
theorem mo_ix : MoR (rIx K) := fun _ _ _ _ _ k h => by
  rcases h with ⟨p, xs, i, v, a, b, c, d, q⟩ | ⟨p, xs, i, v, a, b, c, d, q⟩ | ⟨z, i, c, a, b, d, e, q⟩
  · exact .inl ⟨p, xs, i, v, a, b, c, d, k _ _ q⟩
  · exact .inr (.inl ⟨p, xs, i, v, a, b, c, d, k _ _ q⟩)
  · exact .inr (.inr ⟨z, i, c, a, b, d, e, k _ _ q⟩)
theorem mo_lenA : MoC (rLenA K) := fun _ _ _ _ k h => by
  rcases h with ⟨p, ys, a, b, q⟩ | ⟨z, a, b, q⟩
  · exact .inl ⟨p, ys, a, b, k _ _ q⟩
  · exact .inr ⟨z, a, b, k _ _ q⟩
theorem ix0 {n : Nat} : ixN (n + 1) 0 = some 0 := by
  unfold ixN
  rw [if_pos (by decide), if_pos (by omega)]
  rfl
end
/-! ### one step by its goal: the rules without a side condition, found by their heads -/
class Stp (g : Prop) (s : outParam Prop) : Prop where
  go : s → g
section
variable {K : PySem.W.Frag} {σ : L2.St} {H : Hp} {Q : VK} {QT : Bool → Hp → Prop} {QA : List V → Hp → Prop} {QS : L2.St → Hp → Prop} {v x y : V} {i : Nat} {ta tb te : TE} {t u c : TT} {tr : TA} {r : R2} {ts us : TS} {nx bk ct : L2.St → Hp → Prop} {rt : VK} {g : TG} {gs : TGs}
instance  : Stp (tSeq ts us ⟨nx, rt, bk, ct⟩ σ H) (ts ⟨us ⟨nx, rt, bk, ct⟩, rt, bk, ct⟩ σ H) := ⟨r_seq⟩
instance  : Stp (tIfS c ts us ⟨nx, rt, bk, ct⟩ σ H) (c σ H fun b H1 => if b = true then ts ⟨nx, rt, bk, ct⟩ σ H1 else us ⟨nx, rt, bk, ct⟩ σ H1) := ⟨r_ifS⟩
instance  : Stp (tAsg te g ⟨nx, rt, bk, ct⟩ σ H) (te σ H fun x H1 => g x σ H1 nx) := ⟨r_asg⟩
instance  : Stp (tRet te ⟨nx, rt, bk, ct⟩ σ H) (te σ H rt) := ⟨r_ret⟩
instance  : Stp (tRetN ⟨nx, rt, bk, ct⟩ σ H) (rt .non H) := ⟨r_retN⟩
instance  : Stp (tNext ⟨nx, rt, bk, ct⟩ σ H) (nx σ H) := ⟨r_next⟩
instance  : Stp (tDrop te ⟨nx, rt, bk, ct⟩ σ H) (te σ H fun _ H1 => nx σ H1) := ⟨r_drop⟩
instance {f : Int → Int → Int} {i j : Int} : Stp (ipI f (.int i) (.int j) H Q) (Q (.int (f i j)) H) := ⟨q_ip⟩
instance  : Stp (tC v σ H Q) (Q v H) := ⟨r_c⟩
instance  : Stp (tOp r ta tb σ H Q) (ta σ H fun x H1 => tb σ H1 fun y H2 => r x y H2 Q) := ⟨r_op⟩
instance {r : V → Hp → VK → Prop} : Stp (tUn r ta σ H Q) (ta σ H fun x H1 => r x H1 Q) := ⟨r_un⟩
instance  : Stp (tTest te σ H QT) (te σ H fun x H' => ∃ k, x = .bl k ∧ QT k H') := ⟨r_test⟩
instance  : Stp (tB te σ H QT) (te σ H fun x H1 => ∃ c, x = .bl c ∧ QT c H1) := ⟨r_tB⟩
instance {b : Bool} {B : Bool → Prop} : Stp (∃ k, V.bl b = .bl k ∧ B k) (B b) := ⟨q_exb⟩
instance  : Stp (tAnd t u σ H QT) (t σ H fun c H1 => if c = true then u σ H1 QT else QT false H1) := ⟨r_and⟩
instance  : Stp (tOr t u σ H QT) (t σ H fun c H1 => if c = true then QT true H1 else u σ H1 QT) := ⟨r_or⟩
instance  : Stp (tNot t σ H QT) (t σ H fun c H1 => QT (!c) H1) := ⟨r_not⟩
instance  : Stp (tAndV ta tb σ H Q) (ta σ H fun x H1 => ∃ c, x = .bl c ∧ if c = true then tb σ H1 Q else Q (.bl false) H1) := ⟨r_andV⟩
instance  : Stp (tOrV ta tb σ H Q) (ta σ H fun x H1 => ∃ c, x = .bl c ∧ if c = true then Q (.bl true) H1 else tb σ H1 Q) := ⟨r_orV⟩
instance  : Stp (tNotV ta σ H Q) (ta σ H fun x H1 => ∃ c, x = .bl c ∧ Q (.bl (!c)) H1) := ⟨r_notV⟩
instance  : Stp (tIf t ta tb σ H Q) (t σ H fun c H1 => if c = true then ta σ H1 Q else tb σ H1 Q) := ⟨r_ifE⟩
instance  : Stp (rInt [.bl (!false)] H Q) (Q (.int 1) H) := ⟨q_intNT⟩
instance  : Stp (rInt [.bl (!true)] H Q) (Q (.int 0) H) := ⟨q_intNF⟩
instance  : Stp (tCons ta tr σ H QA) (ta σ H fun x H1 => tr σ H1 fun xs H2 => QA (x :: xs) H2) := ⟨r_cons⟩
instance  : Stp (tNil σ H QA) (QA [] H) := ⟨r_nil⟩
instance {r : List V → Hp → VK → Prop} : Stp (tCB r tr σ H Q) (tr σ H fun vs H1 => r vs H1 Q) := ⟨r_cb⟩
instance {sp : Sp} {E : XK} : Stp (tCall sp [] E tr σ H Q) (tr σ H fun vs H1 => sp vs H1 Q E) := ⟨r_call⟩
instance  : Stp (tTup tr σ H Q) (tr σ H fun xs H1 => newT Q xs H1) := ⟨r_tup⟩
instance  : Stp (tLst tr σ H Q) (tr σ H fun xs H1 => newL Q xs H1) := ⟨r_lst⟩
instance  : Stp (gName i v σ H QS) (QS (σ.set i (some v)) H) := ⟨r_gname⟩
instance  : Stp (gNil [] σ H QS) (QS σ H) := ⟨r_gnil⟩
instance {vs : List V} : Stp (gCons g gs (v :: vs) σ H QS) (g v σ H fun σ' H' => gs vs σ' H' QS) := ⟨r_gcons⟩
instance {to ti : TE} {s : TSet} : Stp (gSub to ti s v σ H QS) (to σ H fun o H1 => ti σ H1 fun i H2 => s o i v H2 fun H3 => QS σ H3) := ⟨r_gsub⟩
instance {r : V → Option Int → Option Int → Hp → VK → Prop} {tl th : TO} : Stp (tSl r te tl th σ H Q) (te σ H fun x H1 => tl σ H1 fun l H2 => th σ H2 fun u H3 => r x l u H3 Q) := ⟨r_sl⟩
instance {Q : Option Int → Hp → Prop} : Stp (tPart te σ H Q) (te σ H fun x H1 => ∃ i, x = .int i ∧ Q (some i) H1) := ⟨r_part⟩
instance {Q : Option Int → Hp → Prop} : Stp (tNoPart σ H Q) (Q none H) := ⟨r_nopart⟩
instance {i : Int} {B : Int → Prop} : Stp (∃ j, V.int i = .int j ∧ B j) (B i) := ⟨q_part⟩
instance {td ty : TE} : Stp (tDGet td ty σ H Q) (td σ H fun x H1 => ty σ H1 fun y H2 => ∃ a v, x = .ref a ∧ DGet H2 a y (some v) ∧ Q v H2) := ⟨r_dget⟩
instance {T : String} {r : V → List V → Hp → VK → Prop} : Stp (tBM K T r te tr σ H Q) (te σ H fun x H1 => tyV K T x H1 ∧ tr σ H1 fun xs H2 => r x xs H2 Q) := ⟨r_bm⟩
instance {T : String} {r : V → List V → Hp → VK → Prop} : Stp (tBM0 K T r te σ H Q) (te σ H fun x H1 => tyV K T x H1 ∧ r x [] H1 Q) := ⟨r_bm0⟩
instance {i j : Int} : Stp (rAddA K (.int i) (.int j) H Q) (Q (.int (i + j)) H) := ⟨q_addI⟩
instance {f : Int → V} {i : Int} : Stp (rU f (.int i) H Q) (Q (f i) H) := ⟨q_U⟩
instance {i : Int} : Stp (rIsi K [.int i, .ty "bool"] H Q) (Q (.bl false) H) := ⟨q_isiBI⟩
instance  : Stp (rIsi K [.non, .ty "bool"] H Q) (Q (.bl false) H) := ⟨q_isiBN⟩
instance {i : Int} : Stp (rInt [.int i] H Q) (Q (.int i) H) := ⟨q_int⟩
instance  : Stp (rInt [.bl true] H Q) (Q (.int 1) H) := ⟨q_intT⟩
instance  : Stp (rInt [.bl false] H Q) (Q (.int 0) H) := ⟨q_intF⟩
instance {i : Int} : Stp (rAbs [.int i] H Q) (Q (.int (if i < 0 then -i else i)) H) := ⟨q_abs⟩
instance  : Stp (tYes σ H QT) (QT true H) := ⟨r_yes⟩
instance {wi : TI} {vs : List Nat} : Stp (tLc wi g t te vs σ H Q) (wi σ H fun J H1 => ∀ D, H1 D = none → ∃ W : Nat → Nat → Hp → Prop, (∃ m, W 0 m (upd H1 D (.lst []))) ∧ ∀ i m H, W i m H →
  (J.stop i H ∧ Q (.ref D) H) ∨ (J.go i H ∧ ∃ Nx : Hp → Prop, (∀ H', Nx H' → ∃ m', m' < m ∧ W (i + 1) m' H') ∧ ∀ x H', J.yld i H x H' → g x (wipe σ vs) H' fun σ2 H2 => wipe σ2 vs = wipe σ vs ∧ t σ2 H2 fun b H3 =>
    if b = true then te σ2 H3 fun y H4 => ∃ acc, H4 D = some (.lst acc) ∧ acc.length < sizeLine ∧ Nx (upd H4 D (.lst (acc ++ [y]))) else Nx H3)) := ⟨r_lc⟩
instance {QP : List (V × V) → Hp → Prop} {tk tv : TE} {r : List (TE × TE)} : Stp (tPairs ((tk, tv) :: r) σ H QP) (tk σ H fun x H1 => tv σ H1 fun y H2 => tPairs r σ H2 fun ps H3 => QP ((x, y) :: ps) H3) := ⟨r_pcons⟩
instance {QP : List (V × V) → Hp → Prop} : Stp (tPairs [] σ H QP) (QP [] H) := ⟨r_pnil⟩
instance {wi : TI} : Stp (tFor wi g ts ⟨nx, rt, bk, ct⟩ σ H) (wi σ H fun J H1 => ∃ W : Nat → Nat → L2.St → Hp → Prop, (∃ m, W 0 m σ H1) ∧ ∀ i m σ H, W i m σ H →
  (J.stop i H ∧ nx σ H) ∨ (J.go i H ∧ ∃ N : L2.St → Hp → Prop, (∀ σ' H', N σ' H' → ∃ m', m' < m ∧ W (i + 1) m' σ' H') ∧ ∀ x H', J.yld i H x H' → g x σ H' fun σ2 H2 => ts ⟨N, rt, nx, N⟩ σ2 H2)) := ⟨r_for⟩
instance {tl : TE} {R : It → Hp → Prop} : Stp (iList K tl σ H R) (tl σ H fun x H1 => ∃ a, x = .ref a ∧ (∃ xs, SqL K H1 a xs) ∧ R (Itl K a) H1) := ⟨r_iL⟩
instance {tl : TE} {R : It → Hp → Prop} : Stp (iTup K tl σ H R) (tl σ H fun x H1 => ∃ a, x = .ref a ∧ (∃ xs, SqT K H1 a xs) ∧ R (Itt K a) H1) := ⟨r_iT⟩
instance {tl : TE} {R : It → Hp → Prop} : Stp (iStr tl σ H R) (tl σ H fun v H1 => ∃ x, v = .str x ∧ R (Its x) H1) := ⟨r_iS⟩
instance {z : Str} {B : Str → Prop} : Stp (∃ x, V.str z = .str x ∧ B x) (B z) := ⟨q_iS⟩
instance {R : It → Hp → Prop} : Stp (iRng1 tr σ H R) (tr σ H fun vs H1 => ∃ j : Int, vs = [.int j] ∧ -(2 ^ 62) ≤ j ∧ j < 2 ^ 62 ∧ R (Itr 0 j.toNat) H1) := ⟨r_rng1⟩
instance {R : It → Hp → Prop} : Stp (iRng2 tr σ H R) (tr σ H fun vs H1 => ∃ i j : Int, vs = [.int i, .int j] ∧ (-(2 ^ 62) ≤ i ∧ i < 2 ^ 62 ∧ -(2 ^ 62) ≤ j ∧ j < 2 ^ 62) ∧ R (Itr i (j - i).toNat) H1) := ⟨r_rng2⟩
instance {A B : Prop} : Stp (if true = true then A else B) A := ⟨iteT⟩
instance {A B : Prop} : Stp (if false = true then A else B) B := ⟨iteF⟩
instance {A B : Prop} : Stp (if (!false) = true then A else B) A := ⟨iteNT⟩
instance {A B : Prop} : Stp (if (!true) = true then A else B) B := ⟨iteNF⟩
end
/-! ### slots, found by instances: no unfolding of long rows of stores -/
class Nq (i j : Nat) : Prop where
  ne : i ≠ j
instance {n : Nat} : Nq 0 (n + 1) := ⟨by omega⟩
instance {n : Nat} : Nq (n + 1) 0 := ⟨by omega⟩
instance {m n : Nat} [h : Nq m n] : Nq (m + 1) (n + 1) := ⟨by have := h.ne; omega⟩
class Ln (σ : L2.St) (k : Nat) : Prop where
  lt : k < σ.length
instance {x : Option V} {t : L2.St} : Ln (x :: t) 0 := ⟨by simp⟩
instance {x : Option V} {t : L2.St} {k : Nat} [h : Ln t k] : Ln (x :: t) (k + 1) := ⟨by have := h.lt; simp only [List.length_cons]; omega⟩
instance {l : L2.St} {i k : Nat} {x : Option V} [h : Ln l k] : Ln (l.set i x) k := ⟨by have := h.lt; rw [List.length_set]; exact this⟩
instance {n : Str} {N : List Str} {v : V} {vs : List V} : Ln (L2.start (n :: N) (v :: vs)) 0 := ⟨by simp [L2.start]⟩
instance {n : Str} {N : List Str} : Ln (L2.start (n :: N) []) 0 := ⟨by simp [L2.start]⟩
instance {n : Str} {N : List Str} {v : V} {vs : List V} {k : Nat} [h : Ln (L2.start N vs) k] : Ln (L2.start (n :: N) (v :: vs)) (k + 1) := ⟨by have := h.lt; simp [L2.start] at this ⊢; omega⟩
instance {n : Str} {N : List Str} {k : Nat} [h : Ln (L2.start N []) k] : Ln (L2.start (n :: N) []) (k + 1) := ⟨by have := h.lt; simp [L2.start] at this ⊢; omega⟩
class Lkv (σ : L2.St) (i : Nat) (v : outParam V) : Prop where
  at_ : σ[i]? = some (some v)
instance {v : V} {t : L2.St} : Lkv (some v :: t) 0 v := ⟨rfl⟩
instance {x : Option V} {v : V} {t : L2.St} {n : Nat} [h : Lkv t n v] : Lkv (x :: t) (n + 1) v := ⟨by have := h.at_; simpa using this⟩
instance {l : L2.St} {i : Nat} {v : V} [h : Ln l i] : Lkv (l.set i (some v)) i v := ⟨by rw [List.getElem?_set_self h.lt]⟩
instance (priority := 900) {l : L2.St} {i j : Nat} {x : Option V} {v : V} [h : Nq i j] [g : Lkv l j v] : Lkv (l.set i x) j v := ⟨by rw [List.getElem?_set_ne h.ne]; exact g.at_⟩
instance {n : Str} {N : List Str} {v : V} {vs : List V} : Lkv (L2.start (n :: N) (v :: vs)) 0 v := ⟨rfl⟩
instance {n : Str} {N : List Str} {x v : V} {vs : List V} {k : Nat} [h : Lkv (L2.start N vs) k v] : Lkv (L2.start (n :: N) (x :: vs)) (k + 1) v := ⟨by have := h.at_; simp only [L2.start, List.map_cons, List.cons_append, List.length_cons] at this ⊢; rw [List.getElem?_cons_succ, Nat.add_sub_add_right]; exact this⟩
instance {i : Nat} {σ : L2.St} {H : Hp} {Q : VK} {v : V} [h : Lkv σ i v] : Stp (tVar i σ H Q) (Q v H) := ⟨r_var h.at_⟩
end Y
namespace Y
open PySem L2
def topS (i : Nat) : Stmt := PySem.Challenge.pw_placedanyhow_k41_plans_that_fit.main.body.getD i (.Pass ⟨0, 0, 0, 0⟩)
local macro_rules | `(tactic| exists "lift") => `(tactic| (refine at_kp (by assumption) (by (first | exists "nin" | fail)) ?_; exists "lift"))
local macro_rules | `(tactic| exists "lift") => `(tactic| (refine tup_kp (by assumption) ?_; exists "lift"))
local macro_rules | `(tactic| exists "lift") => `(tactic| (refine at_ex (by assumption) ?_; exists "lift"))
local macro_rules | `(tactic| exists "lift") => `(tactic| assumption)
local macro_rules | `(tactic| exists "sq") => `(tactic| (refine sql ?_; exists "lift"))
local macro_rules | `(tactic| exists "sq") => `(tactic| (refine sqt ?_; exists "lift"))
local macro_rules | `(tactic| exists "sq") => `(tactic| assumption)
local macro_rules | `(tactic| subst "ar") => `(tactic| decide)
local macro_rules | `(tactic| subst "ar") => `(tactic| (refine cmulR ⟨?_, ?_⟩ <;> omega))
local macro_rules | `(tactic| subst "ar") => `(tactic| (refine cmulL ⟨?_, ?_⟩ <;> omega))
local macro_rules | `(tactic| subst "ar") => `(tactic| (refine cdiv ⟨?_, ?_⟩ <;> omega))
local macro_rules | `(tactic| subst "ar") => `(tactic| (refine And.intro ?_ ?_ <;> omega))
local macro_rules | `(tactic| subst "ar") => `(tactic| omega)
local macro_rules | `(tactic| subst "ar") => `(tactic| assumption)
set_option hygiene false in
local macro_rules | `(tactic| subst "i_disp") => `(tactic| intro dp Hn hdp ke hdn)
set_option hygiene false in
local macro_rules | `(tactic| subst "i_new") => `(tactic| intro p Hn hp ke hn)
local macro_rules | `(tactic| subst "len") => `(tactic| (simp only [List.length_cons, List.length_nil, List.length_append, List.length_map]; omega))
local macro_rules | `(tactic| subst "len") => `(tactic| decide)
local macro_rules | `(tactic| subst "new") => `(tactic| ((with_reducible refine q_listT (ys := ?ys) ?h ?_); (case h => exists "sq"); subst "i_new"))
local macro_rules | `(tactic| subst "new") => `(tactic| ((with_reducible refine q_listL (ys := ?ys) ?h ?_); (case h => exists "sq"); subst "i_new"))
local macro_rules | `(tactic| subst "new") => `(tactic| ((with_reducible refine q_sl1L (x := ?x) (xs := ?xs) ?h ?_); (case h => exists "sq"); subst "i_new"))
local macro_rules | `(tactic| subst "new") => `(tactic| ((with_reducible refine q_sl1T (x := ?x) (xs := ?xs) ?h ?_); (case h => exists "sq"); subst "i_new"))
local macro_rules | `(tactic| subst "new") => `(tactic| ((with_reducible refine q_newL ?h ?_); (case h => subst "len"); subst "i_new"))
local macro_rules | `(tactic| subst "new") => `(tactic| ((with_reducible refine q_newT ?h ?_); (case h => subst "len"); subst "i_new"))
local macro_rules | `(tactic| subst "arx") => `(tactic| (simp only [List.length_cons, List.length_nil, List.length_map]; omega))
local macro_rules | `(tactic| subst "arx") => `(tactic| decide)
local macro_rules | `(tactic| subst "arx") => `(tactic| omega)
set_option hygiene false in
local macro_rules | `(tactic| subst "q") => `(tactic| exact q)
local macro_rules | `(tactic| specialize "st") => `(tactic| injection "own")
local macro_rules | `(tactic| specialize "st") => `(tactic| subst "new")
local macro_rules | `(tactic| specialize "st") => `(tactic| ((with_reducible refine q_ixL (xs := ?xs) (v := ?v) ?h ?a ?_); (case h => exists "sq"); (case a => first | exact rfl | exact at0 | assumption | subst "ax")))
local macro_rules | `(tactic| specialize "st") => `(tactic| ((with_reducible refine q_notNN ?h ?_); (case h => intro z; cases z)))
local macro_rules | `(tactic| specialize "st") => `(tactic| with_reducible refine q_notNY rfl ?_)
local macro_rules | `(tactic| specialize "st") => `(tactic| ((with_reducible refine q_isNN ?h ?_); (case h => intro z; cases z)))
local macro_rules | `(tactic| specialize "st") => `(tactic| with_reducible refine q_isNY rfl ?_)
local macro_rules | `(tactic| specialize "st") => `(tactic| subst "q")
local macro_rules | `(tactic| specialize "st") => `(tactic| ((with_reducible refine q_rng2 ?h ?_); (case h => refine And.intro ?_ (And.intro ?_ (And.intro ?_ ?_)) <;> omega)))
local macro_rules | `(tactic| specialize "st") => `(tactic| ((with_reducible refine q_rng1 ?h ?_); (case h => subst "ar")))
local macro_rules | `(tactic| specialize "st") => `(tactic| ((with_reducible refine q_iT (xs := ?xs) ?h ?_); (case h => exists "sq")))
local macro_rules | `(tactic| specialize "st") => `(tactic| ((with_reducible refine q_iL (xs := ?xs) ?h ?_); (case h => exists "sq")))
local macro_rules | `(tactic| specialize "st") => `(tactic| (with_reducible refine r_disp ?_; subst "i_disp"))
local macro_rules | `(tactic| specialize "st") => `(tactic| ((with_reducible refine q_inLN (xs := ?xs) ?h ?e ?_); (case h => exists "sq"); (case e => first | decide +kernel | rfl)))
local macro_rules | `(tactic| specialize "st") => `(tactic| ((with_reducible refine q_inLY (xs := ?xs) ?h ?e ?_); (case h => exists "sq"); (case e => first | decide +kernel | rfl)))
local macro_rules | `(tactic| specialize "st") => `(tactic| ((with_reducible refine q_inTN (xs := ?xs) ?h ?e ?_); (case h => exists "sq"); (case e => first | decide +kernel | rfl)))
local macro_rules | `(tactic| specialize "st") => `(tactic| ((with_reducible refine q_inTY (xs := ?xs) ?h ?e ?_); (case h => exists "sq"); (case e => first | decide +kernel | rfl)))
local macro_rules | `(tactic| specialize "st") => `(tactic| ((with_reducible refine q_lenT (xs := ?xs) ?h ?_); (case h => exists "sq")))
local macro_rules | `(tactic| specialize "st") => `(tactic| ((with_reducible refine q_lenL (xs := ?xs) ?h ?_); (case h => exists "sq")))
local macro_rules | `(tactic| specialize "st") => `(tactic| ((with_reducible refine q_ixT (xs := ?xs) (v := ?v) ?h ?a ?_); (case h => exists "sq"); (case a => exact rfl)))
local macro_rules | `(tactic| specialize "st") => `(tactic| with_reducible refine q_I0 ?_)
local macro_rules | `(tactic| specialize "st") => `(tactic| ((with_reducible refine q_I ?c ?_); (case c => subst "ar")))
local macro_rules | `(tactic| specialize "st") => `(tactic| (with_reducible refine q_cmp (fun c => ?_) (fun c => ?_)))
local macro_rules | `(tactic| specialize "st") => `(tactic| ((with_reducible refine q_cmpN ?h ?_); (case h => subst "arx")))
local macro_rules | `(tactic| specialize "st") => `(tactic| ((with_reducible refine q_cmpY ?h ?_); (case h => subst "arx")))
local macro_rules | `(tactic| specialize "st") => `(tactic| (with_reducible refine q_neS (fun c => ?_) (fun c => ?_)))
local macro_rules | `(tactic| specialize "st") => `(tactic| (with_reducible refine q_neI (fun c => ?_) (fun c => ?_)))
local macro_rules | `(tactic| specialize "st") => `(tactic| ((with_reducible refine q_neN ?s ?e ?_); (case e => first | exact rfl | decide +kernel); (case s => rfl)))
local macro_rules | `(tactic| specialize "st") => `(tactic| ((with_reducible refine q_neY ?s ?e ?_); (case e => decide +kernel); (case s => rfl)))
local macro_rules | `(tactic| specialize "st") => `(tactic| (with_reducible refine q_eqS (fun c => ?_) (fun c => ?_)))
local macro_rules | `(tactic| specialize "st") => `(tactic| (with_reducible refine q_eqI (fun c => ?_) (fun c => ?_)))
local macro_rules | `(tactic| specialize "st") => `(tactic| ((with_reducible refine q_eqN ?s ?e ?_); (case e => subst "ne"); (case s => rfl)))
local macro_rules | `(tactic| specialize "st") => `(tactic| ((with_reducible refine q_eqN ?s ?e ?_); (case e => decide +kernel); (case s => rfl)))
local macro_rules | `(tactic| specialize "st") => `(tactic| ((with_reducible refine q_eqY ?s ?e ?_); (case e => first | exact rfl | decide +kernel); (case s => rfl)))
local macro_rules | `(tactic| specialize "st") => `(tactic| ((with_reducible refine q_dget (kvs := ?kvs) (v := ?v) ?h ?l ?_); (case h => exists "lift"); (case l => first | assumption | rfl)))
local macro_rules | `(tactic| specialize "st") => `(tactic| ((with_reducible refine r_gtup (xs := ?xs) ?h ?l ?_); (case h => exists "sq"); (case l => rfl)))
local macro_rules | `(tactic| specialize "st") => `(tactic| ((with_reducible refine r_var (v := ?v) ?h ?_); (case h => exact rfl)))
local macro_rules | `(tactic| specialize "st") => `(tactic| ((with_reducible refine r_aug (v := ?v) ?h ?_); (case h => exact rfl)))
local macro_rules | `(tactic| specialize "st") => `(tactic| with_reducible refine Stp.go ?_)
local macro_rules | `(tactic| subst "ex") => `(tactic| (refine Ex.trans ?_ (by assumption); subst "ex"))
local macro_rules | `(tactic| subst "ex") => `(tactic| exact Ex.refl _)
local macro_rules | `(tactic| subst "ex") => `(tactic| assumption)
structure Glo (K : PySem.W.Frag) (w : World) (mg : Str → Option Value) : Prop where
  n_len : mg "len" = none
  n_int : mg "int" = none
  n_abs : mg "abs" = none
  n_range : mg "range" = none
  n_list : mg "list" = none
  n_tuple : mg "tuple" = none
  n_dict : mg "dict" = none
  n_sorted : mg "sorted" = none
  n_min : mg "min" = none
  n_all : mg "all" = none
  n_repr : mg "repr" = none
  n_isinstance : mg "isinstance" = none
  n_enumerate : mg "enumerate" = none
  n_zip : mg "zip" = none
  n_max : mg "max" = none
  c_MOST_PROCESSORS : ∃ t, mg "MOST_PROCESSORS" = some (.int 6 t)
local macro_rules | `(tactic| subst "lev") => `(tactic| omega)
local macro_rules | `(tactic| subst "lev") => `(tactic| decide)
variable {P : Program} {w : World} {K : PySem.W.Frag} {mg : Str → Option Value} {base : Heap}
/-! ### terms -/
inductive Op | add | sub | mul | div | mod | and | or | eq | ne | lt | le
  deriving DecidableEq
def Op.str : Op → Str
  | .add => "+" | .sub => "-" | .mul => "*" | .div => "/" | .mod => "mod" | .and => "and" | .or => "or" | .eq => "==" | .ne => "!=" | .lt => "<" | .le => "<="
def opStrs : List Str := ["+", "-", "*", "/", "mod", "and", "or", "==", "!=", "<", "<="]
theorem op_ne {o : Op} {z : Str} (h : (opStrs.all fun y => !decide (y = z)) = true) : ¬ V.str o.str = V.str z := by
  intro e
  have e' : o.str = z := V.str.inj e
  have m : o.str ∈ opStrs := by cases o <;> decide +kernel
  have := List.all_eq_true.mp h _ m
  rw [e'] at this
  simp at this
inductive Tm | num (n : Int) | cell (k : Int) | at (f s : Int) (e : Tm) | neg (e : Tm) | not (e : Tm) | bin (o : Op) (a b : Tm)
def Tm.In (H : Hp) : Tm → V → Prop
  | .num n, v => ∃ p, v = .ref p ∧ H p = some (.tup [.str "num", .int n])
  | .cell k, v => ∃ p, v = .ref p ∧ H p = some (.tup [.str "cell", .int k])
  | .at f s e, v => ∃ p x, v = .ref p ∧ H p = some (.tup [.str "at", .int f, .int s, x]) ∧ Tm.In H e x
  | .neg e, v => ∃ p x, v = .ref p ∧ H p = some (.tup [.str "neg", x]) ∧ Tm.In H e x
  | .not e, v => ∃ p x, v = .ref p ∧ H p = some (.tup [.str "not", x]) ∧ Tm.In H e x
  | .bin o a b, v => ∃ p x y, v = .ref p ∧ H p = some (.tup [.str o.str, x, y]) ∧ Tm.In H a x ∧ Tm.In H b y
theorem Tm.In.up {H H' : Hp} (k : ∀ p xs, H p = some (.tup xs) → H' p = some (.tup xs)) : ∀ {e : Tm} {v : V}, e.In H v → e.In H' v
  | .num _, _, ⟨p, h, a⟩ => ⟨p, h, k _ _ a⟩
  | .cell _, _, ⟨p, h, a⟩ => ⟨p, h, k _ _ a⟩
  | .at _ _ _, _, ⟨p, x, h, a, b⟩ => ⟨p, x, h, k _ _ a, Tm.In.up k b⟩
  | .neg _, _, ⟨p, x, h, a, b⟩ => ⟨p, x, h, k _ _ a, Tm.In.up k b⟩
  | .not _, _, ⟨p, x, h, a, b⟩ => ⟨p, x, h, k _ _ a, Tm.In.up k b⟩
  | .bin _ _ _, _, ⟨p, x, y, h, a, b, c⟩ => ⟨p, x, y, h, k _ _ a, Tm.In.up k b, Tm.In.up k c⟩
theorem tm_ex {H H' : Hp} {e : Tm} {v : V} (x : Ex H H') (h : e.In H v) : e.In H' v := h.up fun p xs q => x p _ q
theorem tm_kp {M : List Addr} {H H' : Hp} {e : Tm} {v : V} (x : Kp M H H') (h : e.In H v) : e.In H' v := h.up x.tup
def Tm.deep : Tm → Nat
  | .num _ => 1 | .cell _ => 1 | .at _ _ e => e.deep + 1 | .neg e => e.deep + 1 | .not e => e.deep + 1 | .bin _ a b => max a.deep b.deep + 1
theorem Tm.deep_pos : ∀ e : Tm, 0 < e.deep
  | .num _ => Nat.one_pos | .cell _ => Nat.one_pos | .at _ _ _ => Nat.succ_pos _ | .neg _ => Nat.succ_pos _ | .not _ => Nat.succ_pos _ | .bin _ _ _ => Nat.succ_pos _
/-- over n cells, with words as numbers -/
def Tm.ok (n : Int) : Tm → Prop
  | .num k => 0 ≤ k ∧ k < 65536
  | .cell k => 0 ≤ k ∧ k < n
  | .at f s e => 0 ≤ f ∧ 0 < s ∧ f + s ≤ n ∧ e.ok n
  | .neg e => e.ok n
  | .not e => e.ok n
  | .bin _ a b => a.ok n ∧ b.ok n
theorem Tm.ok.mono {n m : Int} (h : n ≤ m) : ∀ {e : Tm}, e.ok n → e.ok m
  | .num _, a => a
  | .cell _, a => ⟨a.1, by have := a.2; omega⟩
  | .at _ _ _, a => ⟨a.1, a.2.1, by have := a.2.2.1; omega, Tm.ok.mono h a.2.2.2⟩
  | .neg e, a => Tm.ok.mono (e := e) h a
  | .not e, a => Tm.ok.mono (e := e) h a
  | .bin _ _ _, a => ⟨Tm.ok.mono h a.1, Tm.ok.mono h a.2⟩
def hold : Op → Int → Int → Bool
  | .and, a, b => decide (a ≠ 0) && decide (b ≠ 0)
  | .or, a, b => decide (a ≠ 0) || decide (b ≠ 0)
  | .eq, a, b => decide (a = b)
  | .ne, a, b => decide (a ≠ b)
  | .lt, a, b => decide (a < b)
  | _, a, b => decide (a ≤ b)
def b2 (b : Bool) : Int := if b = true then 1 else 0
def calc2 : Op → Int → Int → Option Int
  | .add, a, b => some ((a + b) % 65536)
  | .sub, a, b => some ((a - b) % 65536)
  | .mul, a, b => some (a * b % 65536)
  | .div, a, b => if b = 0 then none else some (a / b)
  | .mod, a, b => if b = 0 then none else some (a % b)
  | o, a, b => some (b2 (hold o a b))
def ev (cs : List Int) : Tm → Option Int
  | .num n => some n
  | .cell k => some (cs.getD k.toNat 0)
  | .at f s e => match ev cs e with
    | none => none
    | some i => if s ≤ i then none else some (cs.getD (f + i).toNat 0)
  | .neg e => match ev cs e with
    | none => none
    | some i => some (-i % 65536)
  | .not e => match ev cs e with
    | none => none
    | some i => some (b2 (decide (i = 0)))
  | .bin o a b => match ev cs a, ev cs b with
    | some i, some j => calc2 o i j
    | _, _ => none
/-- the cell of a target -/
def wh (cs : List Int) : Tm → Option Int
  | .cell k => some k
  | .at f s e => match ev cs e with
    | none => none
    | some i => if s ≤ i then none else some (f + i)
  | _ => none
def optV : Option Int → V
  | none => .non
  | some i => .int i
def Words (cs : List Int) : Prop := ∀ c ∈ cs, 0 ≤ c ∧ c < 65536
theorem Words.get {cs : List Int} (h : Words cs) (k : Nat) : 0 ≤ cs.getD k 0 ∧ cs.getD k 0 < 65536 := by
  by_cases hk : k < cs.length
  · rw [List.getD_eq_getElem?_getD, List.getElem?_eq_getElem hk]
    exact h _ (List.getElem_mem hk)
  · rw [List.getD_eq_getElem?_getD, List.getElem?_eq_none (by omega)]
    exact ⟨by decide, by decide⟩
theorem b2_w (b : Bool) : 0 ≤ b2 b ∧ b2 b < 65536 := by cases b <;> exact ⟨by decide, by decide⟩
theorem calc2_w {o : Op} {a b x : Int} (ha : 0 ≤ a ∧ a < 65536) (hb : 0 ≤ b ∧ b < 65536) (h : calc2 o a b = some x) : 0 ≤ x ∧ x < 65536 := by
  have hd : b ≠ 0 → 0 ≤ a / b ∧ a / b < 65536 := fun n => by
    have h1 : 0 ≤ a / b := Int.ediv_nonneg ha.1 hb.1
    have h2 : a / b ≤ a := Int.ediv_le_self b ha.1
    omega
  have hm : b ≠ 0 → 0 ≤ a % b ∧ a % b < 65536 := fun n => by
    have h1 : 0 ≤ a % b := Int.emod_nonneg a n
    have h2 : a % b < b := Int.emod_lt_of_pos a (by omega)
    omega
  cases o <;> simp only [calc2] at h
  case div => split at h; · cases h
              · cases h; exact hd (by assumption)
  case mod => split at h; · cases h
              · cases h; exact hm (by assumption)
  case add => cases h; omega
  case sub => cases h; omega
  case mul => cases h; exact ⟨Int.emod_nonneg _ (by decide), Int.emod_lt_of_pos _ (by decide)⟩
  all_goals (cases h; exact b2_w _)
theorem ev_w {cs : List Int} (hw : Words cs) {n : Int} : ∀ {e : Tm} {x : Int}, e.ok n → ev cs e = some x → 0 ≤ x ∧ x < 65536
  | .num _, x, a, h => by cases h; exact a
  | .cell _, x, a, h => by cases h; exact hw.get _
  | .at f s e, x, a, h => by
    simp only [ev] at h
    split at h
    · cases h
    · split at h
      · cases h
      · cases h; exact hw.get _
  | .neg e, x, a, h => by
    simp only [ev] at h
    split at h
    · cases h
    · cases h; omega
  | .not e, x, a, h => by
    simp only [ev] at h
    split at h
    · cases h
    · cases h; exact b2_w _
  | .bin o e g, x, a, h => by
    simp only [ev] at h
    split at h
    · rename_i h1 h2
      exact calc2_w (ev_w hw a.1 h1) (ev_w hw a.2 h2) h
    · cases h
theorem atc {cs : List Int} {k : Int} (h0 : 0 ≤ k) (h1 : k < cs.length) : atI (cs.map V.int) k = some (.int (cs.getD k.toNat 0)) := by
  have hk : k.toNat < cs.length := by omega
  have e : k = ((k.toNat : Nat) : Int) := by omega
  have q : atI (cs.map V.int) ((k.toNat : Nat) : Int) = some (.int (cs.getD k.toNat 0)) := atI_nat (by rw [List.getElem?_map, List.getD_eq_getElem?_getD, List.getElem?_eq_getElem hk]; rfl)
  rw [← e] at q
  exact q
/-- targets -/
def Tm.tgt : Tm → Prop
  | .cell _ => True
  | .at _ _ _ => True
  | _ => False
theorem wh_ok {cs : List Int} (hw : Words cs) : ∀ {e : Tm} {k : Int}, e.ok cs.length → wh cs e = some k → 0 ≤ k ∧ k < cs.length
  | .num _, k, a, h => by cases h
  | .cell _, k, a, h => by cases h; exact a
  | .at f s e, k, a, h => by
    simp only [wh] at h
    split at h
    · cases h
    · rename_i i hi
      split at h
      · cases h
      · cases h
        have := ev_w hw a.2.2.2 hi
        have := a.1
        have := a.2.2.1
        omega
  | .neg _, k, a, h => by cases h
  | .not _, k, a, h => by cases h
  | .bin _ _ _, k, a, h => by cases h
theorem ev_wh {cs : List Int} : ∀ {e : Tm}, e.tgt → ev cs e = (wh cs e).map fun k => cs.getD k.toNat 0
  | .cell _, _ => rfl
  | .at f s e, _ => by
    simp only [ev, wh]
    split
    · rfl
    · split <;> rfl
/-! ### own classes -/
section
variable (P : Program) (w : World) (K : PySem.W.Frag) (mg : Str → Option Value) (base : Heap)
/-- a method as it stands behind the top -/
def DnM (C : Addr) (m q : Str) (st : Stmt) (ps : List Str) : Prop := ∃ f fd, Cls K C ∧ Meth K C m f ∧ Fun K m q st f fd ∧ Binds K fd ps []
/-- a class with its __init__ -/
def DnI (x q : Str) (C : Addr) (st : Stmt) (ps : List Str) : Prop := ∃ f fd, Mk K C f ∧ Fun K "__init__" q st f fd ∧ mg x = some (.ref C) ∧ Binds K fd ps []
def MetC (C : Addr) (m : Str) (k : Nat) (ps : List Str) (sp : Sp) : Prop := ∃ f fd, Cls K C ∧ Meth K C m f ∧ FnOk P w K mg base CX0 k f fd ps sp ∧ Binds K fd ps []
def MakC (x : Str) (C : Addr) (k : Nat) (ps : List Str) (sp : Sp) : Prop := ∃ f fd, Mk K C f ∧ FnOk P w K mg base CX0 k f fd ps sp ∧ mg x = some (.ref C) ∧ Binds K fd ps []
end
section
variable {P : Program} {w : World} {K : PySem.W.Frag} {mg : Str → Option Value} {base : Heap}
theorem DnM.ok {C : Addr} {m q : Str} {st : Stmt} {N ps : List Str} {k : Nat} {sp : Sp} (D : DnM K C m q st ps) (S : FnScope N ps (defScope st)) (len : ∀ vs H Q E, sp vs H Q E → vs.length = ps.length)
    (hbody : ∀ (f : Addr) (cdv : Value) (A : Around) (outer : List Env) (s : Shared) (H : Hp) (vs : List V) (Q : VK) (E : XK), Room k (A.deeper (PyProof.Rows.envOfC q (defScope st) s.heap.objs.size f cdv)) → sp vs H Q E →
      ∃ t, PSs (cxOf CX0 P w K mg base N q (defScope st) f cdv A outer s H E).nox (defBody st) t ∧ t { nx := fun _ H' => Q .non H', rt := Q } (start N vs) H) : MetC P w K mg base C m (k + 1) ps sp := by
  obtain ⟨f, fd, c, me, F, b⟩ := D
  exact ⟨f, fd, c, me, F.ok S len (hbody f), b⟩
theorem DnI.ok {x q : Str} {C : Addr} {st : Stmt} {N ps : List Str} {k : Nat} {sp : Sp} (D : DnI K mg x q C st ps) (S : FnScope N ps (defScope st)) (len : ∀ vs H Q E, sp vs H Q E → vs.length = ps.length)
    (hbody : ∀ (f : Addr) (cdv : Value) (A : Around) (outer : List Env) (s : Shared) (H : Hp) (vs : List V) (Q : VK) (E : XK), Room k (A.deeper (PyProof.Rows.envOfC q (defScope st) s.heap.objs.size f cdv)) → sp vs H Q E →
      ∃ t, PSs (cxOf CX0 P w K mg base N q (defScope st) f cdv A outer s H E).nox (defBody st) t ∧ t { nx := fun _ H' => Q .non H', rt := Q } (start N vs) H) : MakC P w K mg base x C (k + 1) ps sp := by
  obtain ⟨f, fd, mk, F, m, b⟩ := D
  exact ⟨f, fd, mk, F.ok S len (hbody f), m, b⟩
theorem pe_mtC {X : Cx} {C : Addr} {m : Str} {k : Nat} {ps : List Str} {sp : Sp} {o e : Expr} {es : List Expr} {ta : TE} {t : TA} {pos apos : Pos} {pl : Sem Bool} (G : MetC X.prog X.w X.K X.mg X.base C m k ps sp) (hr : Room k X.A) (he : PE X o ta) (ha : PA X (e :: es) t)
    (hst : starEach (e :: es) X.env = (false, eval e X.env) :: starEach es X.env := by rfl) (hpl : (backTo pos (starEach es X.env)).any (·.1) = false := by rfl)
    (ht : eval (.Call (.Attribute o m apos) (e :: es) [] pos) X.env = (do
      let ov ← eval o X.env
      standAt apos.atName
      let (f, first) ← holding [ov] (getMethod ov m pl)
      callWith pos f first (backTo pos (starEach (e :: es) X.env)) (backToKw pos (keywordEach [] X.env))) := by rfl) :
    PE X (.Call (.Attribute o m apos) (e :: es) [] pos) (tMeth C m sp [] E0 ta t) := by
  obtain ⟨f, fd, c, me, F, b⟩ := G
  exact pe_meth (pl := pl) he c me F hr b .nil pass0 ha hst hpl ht
theorem pe_mtC0 {X : Cx} {C : Addr} {m : Str} {k : Nat} {ps : List Str} {sp : Sp} {o : Expr} {ta : TE} {pos apos : Pos} {pl : Sem Bool} (G : MetC X.prog X.w X.K X.mg X.base C m k ps sp) (hr : Room k X.A) (he : PE X o ta)
    (ht : eval (.Call (.Attribute o m apos) [] [] pos) X.env = (do
      let ov ← eval o X.env
      standAt apos.atName
      let (f, first) ← holding [ov] (getMethod ov m pl)
      callWith pos f first (backTo pos (starEach [] X.env)) (backToKw pos (keywordEach [] X.env))) := by rfl) :
    PE X (.Call (.Attribute o m apos) [] [] pos) (tMeth C m sp [] E0 ta tNil) := by
  obtain ⟨f, fd, c, me, F, b⟩ := G
  exact pe_meth0 (pl := pl) he c me F hr b .nil pass0 ht
theorem pe_mkC {X : Cx} {x : Str} {C : Addr} {k : Nat} {ps : List Str} {sp : Sp} {e : Expr} {es : List Expr} {t : TA} {p pos : Pos} (G : MakC X.prog X.w X.K X.mg X.base x C k ps sp) (hr : Room (k + 1) X.A) (hg : Gl X x) (ha : PA X (e :: es) t)
    (hdb : (x == ("__debug__" : Str)) = false := by decide) (he : starEach (e :: es) X.env = (false, eval e X.env) :: starEach es X.env := by rfl) (hpl : (backTo pos (starEach es X.env)).any (·.1) = false := by rfl) : PE X (.Call (.Name x p) (e :: es) [] pos) (tMake C sp [] E0 t) := by
  obtain ⟨f, fd, mk, F, m, b⟩ := G
  exact pe_make mk F hr hg m b .nil pass0 ha hdb he hpl
end
section
variable {K : PySem.W.Frag} {σ : L2.St} {H : Hp} {Q : VK} {v x y : V} {te tb : TE} {tr : TA} {C : Addr} {f : Str} {nx bk ct : L2.St → Hp → Prop} {rt : VK}
def fldK (K : PySem.W.Frag) (f : Str) (Q : VK) (x : V) (H : Hp) : Prop := ∃ a C dx fs v, x = .ref a ∧ H a = some (.ins C dx fs) ∧ Cls K C ∧ NoAttr K C f ∧ fs.lookup f = some v ∧ Q v H
theorem r_fld (q : te σ H fun x H1 => fldK K f Q x H1) : tFld K te f σ H Q := q
theorem q_fld {a dx : Addr} {fs : List (Str × V)} (h : H a = some (.ins C dx fs)) (c : Cls K C) (n : NoAttr K C f) (l : fs.lookup f = some v) (q : Q v H) : fldK K f Q (.ref a) H := ⟨a, C, dx, fs, v, rfl, h, c, n, l, q⟩
def metK (C : Addr) (m : Str) (sp : Sp) (tr : TA) (σ : L2.St) (Q : VK) (x : V) (H : Hp) : Prop := ∃ a dx fs, x = .ref a ∧ H a = some (.ins C dx fs) ∧ fs.lookup m = none ∧ tr σ H fun vs H2 => sp (x :: (vs ++ [])) H2 Q E0
theorem r_meth {m : Str} {sp : Sp} (q : te σ H fun x H1 => metK C m sp tr σ Q x H1) : tMeth C m sp [] E0 te tr σ H Q := q
theorem q_meth {m : Str} {sp : Sp} {a dx : Addr} {fs : List (Str × V)} (h : H a = some (.ins C dx fs)) (l : fs.lookup m = none) (q : tr σ H fun vs H2 => sp (.ref a :: vs) H2 Q E0) : metK C m sp tr σ Q (.ref a) H := by
  refine ⟨a, dx, fs, rfl, h, l, ?_⟩
  have e : (fun (vs : List V) (H2 : Hp) => sp (.ref a :: (vs ++ [])) H2 Q E0) = fun vs H2 => sp (.ref a :: vs) H2 Q E0 := by
    funext vs H2
    rw [List.append_nil]
  rw [e]
  exact q
def sfldK (K : PySem.W.Frag) (f : Str) (N : Hp → Prop) (y x : V) (H : Hp) : Prop := ∃ a C dx fs, x = .ref a ∧ H a = some (.ins C dx fs) ∧ Cls K C ∧ NoAttr K C f ∧ fs.length < 1000 ∧ N (upd H a (.ins C dx (putF f y fs)))
theorem r_sfld (q : tb σ H fun y H1 => te σ H1 fun x H2 => sfldK K f (nx σ) y x H2) : sFld K te tb f ⟨nx, rt, bk, ct⟩ σ H := q
theorem q_sfld {N : Hp → Prop} {a dx : Addr} {fs fs' : List (Str × V)} (h : H a = some (.ins C dx fs)) (c : Cls K C) (n : NoAttr K C f) (l : fs.length < 1000) (e : putF f y fs = fs') (q : N (upd H a (.ins C dx fs'))) : sfldK K f N y (.ref a) H := ⟨a, C, dx, fs, rfl, h, c, n, l, by rw [e]; exact q⟩
def afldK (K : PySem.W.Frag) (f : Str) (tb : TE) (rd : V → V → Hp → VK → Prop) (nx : L2.St → Hp → Prop) (σ : L2.St) (x : V) (H1 : Hp) : Prop := ∃ a C dx fs v, x = .ref a ∧ H1 a = some (.ins C dx fs) ∧ Cls K C ∧ NoAttr K C f ∧ fs.lookup f = some v ∧
  tb σ H1 fun y H2 => rd v y H2 fun z H3 => ∃ dx' fs', H3 a = some (.ins C dx' fs') ∧ fs'.length < 1000 ∧ nx σ (upd H3 a (.ins C dx' (putF f z fs')))
theorem r_afld {rd : V → V → Hp → VK → Prop} (q : te σ H fun x H1 => afldK K f tb rd nx σ x H1) : sFldAug K te tb rd f ⟨nx, rt, bk, ct⟩ σ H := q
theorem q_afld {rd : V → V → Hp → VK → Prop} {a dx : Addr} {fs : List (Str × V)} (h : H a = some (.ins C dx fs)) (c : Cls K C) (n : NoAttr K C f) (l : fs.lookup f = some v)
    (q : tb σ H fun y H2 => rd v y H2 fun z H3 => ∃ dx' fs', H3 a = some (.ins C dx' fs') ∧ fs'.length < 1000 ∧ nx σ (upd H3 a (.ins C dx' (putF f z fs')))) : afldK K f tb rd nx σ (.ref a) H := ⟨a, C, dx, fs, v, rfl, h, c, n, l, q⟩
def makK (C : Addr) (sp : Sp) (Q : VK) (vs : List V) (H : Hp) : Prop := ∀ x dx, H x = none → H dx = none → dx ≠ x → sp (.ref x :: vs) (upd (upd H dx (.own x)) x (.ins C dx [])) (fun v H2 => v = .non ∧ Q (.ref x) H2) E0
theorem r_make {sp : Sp} (q : tr σ H fun vs H1 => makK C sp Q vs H1) : tMake C sp [] E0 tr σ H Q := by
  have e : (fun (vs : List V) (H1 : Hp) => ∀ x dx, H1 x = none → H1 dx = none → dx ≠ x → sp (.ref x :: (vs ++ [])) (upd (upd H1 dx (.own x)) x (.ins C dx [])) (fun v H2 => v = .non ∧ Q (.ref x) H2) E0) = fun vs H1 => makK C sp Q vs H1 := by
    funext vs H1
    rw [List.append_nil]
    rfl
  show tr σ H _
  rw [e]
  exact q
theorem q_addF {i j : Int} (q : Q (.int (i + j)) H) : rAdd (.int i) (.int j) H Q := ⟨i, j, rfl, rfl, q⟩
theorem lk_hd {r : List (Str × V)} : List.lookup f ((f, v) :: r) = some v := by simp [List.lookup]
theorem lk_tl {g : Str} {u : V} {r : List (Str × V)} (h : decide (f = g) = false) : List.lookup f ((g, u) :: r) = List.lookup f r := by
  have h' : ¬ f = g := of_decide_eq_false h
  have h2 : (f == g) = false := by simpa using h'
  simp [List.lookup, h2]
theorem lk_tl' {g : Str} {u : V} {r : List (Str × V)} {o : Option V} (h : decide (f = g) = false) (q : List.lookup f r = o) : List.lookup f ((g, u) :: r) = o := (lk_tl h).trans q
theorem put_nil : putF f v [] = [(f, v)] := rfl
theorem put_hd {u : V} {r : List (Str × V)} : putF f v ((f, u) :: r) = (f, v) :: r := by
  show (if f = f then _ else _) = _
  rw [if_pos rfl]
theorem put_tl {g : Str} {u : V} {r r' : List (Str × V)} (h : decide (g = f) = false) (q : putF f v r = r') : putF f v ((g, u) :: r) = (g, u) :: r' := by
  show (if g = f then _ else _) = _
  rw [if_neg (of_decide_eq_false h), q]
end
local macro_rules | `(tactic| subst "lk") => `(tactic| (refine lk_tl' (by decide +kernel) ?_; subst "lk"))
local macro_rules | `(tactic| subst "lk") => `(tactic| exact rfl)
local macro_rules | `(tactic| subst "lk") => `(tactic| exact lk_hd)
local macro_rules | `(tactic| subst "put") => `(tactic| (refine put_tl (by decide +kernel) ?_; subst "put"))
local macro_rules | `(tactic| subst "put") => `(tactic| exact put_hd)
local macro_rules | `(tactic| subst "put") => `(tactic| exact put_nil)
local macro_rules | `(tactic| subst "cls") => `(tactic| assumption)
local macro_rules | `(tactic| injection "own") => `(tactic| with_reducible refine q_addF ?_)
local macro_rules | `(tactic| injection "own") => `(tactic| ((with_reducible refine q_afld (C := ?C) (dx := ?dx) (fs := ?fs) (v := ?v) ?h ?c ?n ?l ?_); (case h => exists "lift"); (case c => subst "cls"); (case n => subst "cls"); (case l => subst "lk")))
local macro_rules | `(tactic| injection "own") => `(tactic| with_reducible refine r_afld ?_)
local macro_rules | `(tactic| injection "own") => `(tactic| with_reducible refine r_sfld ?_)
local macro_rules | `(tactic| injection "own") => `(tactic| ((with_reducible refine q_meth (dx := ?dx) (fs := ?fs) ?h ?l ?_); (case h => exists "lift"); (case l => subst "lk")))
local macro_rules | `(tactic| injection "own") => `(tactic| with_reducible refine r_meth ?_)
local macro_rules | `(tactic| injection "own") => `(tactic| ((with_reducible refine q_fld (C := ?C) (dx := ?dx) (fs := ?fs) (v := ?v) ?h ?c ?n ?l ?_); (case h => exists "lift"); (case c => subst "cls"); (case n => subst "cls"); (case l => subst "lk")))
local macro_rules | `(tactic| injection "own") => `(tactic| with_reducible refine r_make ?_)
local macro_rules | `(tactic| injection "own") => `(tactic| with_reducible refine r_fld ?_)
abbrev s__law_state : Stmt := topS 21
theorem sc__law_state : FnScope ["_law_script", "_law_seed", "_law_cell"] ["_law_script"] (defScope s__law_state) := ⟨rfl, rfl, rfl, by decide +kernel, rfl, by decide +kernel, by decide +kernel⟩
abbrev p__law_state : List Str := ["_law_script"]
abbrev s__law_draw : Stmt := topS 22
theorem sc__law_draw : FnScope ["_law_state_here", "_law_many", "_law_cells", "_law_mixed", "_law_number_here"] ["_law_state_here", "_law_many"] (defScope s__law_draw) := ⟨rfl, rfl, rfl, by decide +kernel, rfl, by decide +kernel, by decide +kernel⟩
abbrev p__law_draw : List Str := ["_law_state_here", "_law_many"]
abbrev s__law_pick : Stmt := topS 23
theorem sc__law_pick : FnScope ["_law_state_here", "_law_row"] ["_law_state_here", "_law_row"] (defScope s__law_pick) := ⟨rfl, rfl, rfl, by decide +kernel, rfl, by decide +kernel, by decide +kernel⟩
abbrev p__law_pick : List Str := ["_law_state_here", "_law_row"]
/-! ### the draws' state -/
structure StOk (st c : Addr) (H : Hp) : Prop where
  ex : ∃ (ns : List Int) (s : Int), H st = some (.lst [.ref c, .int s]) ∧ H c = some (.lst (ns.map V.int)) ∧ (∀ n ∈ ns, 0 ≤ n) ∧ 0 ≤ s ∧ s < 2147483648
  ne : c ≠ st
theorem st_ex {st c : Addr} {H H' : Hp} (e : Ex H H') (h : StOk st c H) : StOk st c H' := by
  obtain ⟨⟨ns, s, a, b, d⟩, n⟩ := h
  exact ⟨⟨ns, s, e _ _ a, e _ _ b, d⟩, n⟩
/-- a fresh address is neither -/
theorem st_fresh {st c p : Addr} {H : Hp} (h : StOk st c H) (hp : H p = none) : p ∉ [st, c] := by
  obtain ⟨⟨ns, s, a, b, d⟩, n⟩ := h
  simp only [List.mem_cons, List.not_mem_nil, or_false, not_or]
  exact ⟨(ne_of_none a hp).symm, (ne_of_none b hp).symm⟩
/-! ### heaps, further: one object changed, the rest as it was -/
theorem q_tyLs {K : PySem.W.Frag} {H : Hp} {p : Addr} {xs : List V} {A : Prop} (h : SqL K H p xs) (q : A) : tyV K "list" (.ref p) H ∧ A := ⟨Or.inl ⟨rfl, xs, h⟩, q⟩
theorem kp_one {H : Hp} {p : Addr} {o o' : HO} (h : H p = some o) (n : ∀ xs, o ≠ .tup xs) : Kp [p] H (upd H p o') := Kp.set (List.mem_singleton.mpr rfl) (fun xs z => by rw [h] at z; exact n xs (Option.some.inj z)) rfl
theorem nin_c {b a : Addr} {M : List Addr} (h : b ≠ a) (t : b ∉ M) : b ∉ a :: M := fun z => by
  rcases List.mem_cons.mp z with z | z
  · exact h z
  · exact t z
theorem ne_nw {H : Hp} {a b : Addr} {o : HO} (h : H b = some o) (hp : H a = none) : b ≠ a := ne_of_none h hp
theorem ne_knd {H : Hp} {a b : Addr} {o u : HO} (h : H a = some o) (h' : H b = some u) (n : o ≠ u) : a ≠ b := ne_of h h' n
theorem kp_sub1 {H H' : Hp} {M N : List Addr} (k : Kp M H H') (s : ∀ x, x ∈ M → x ∈ N) : Kp N H H' := k.sub s
theorem sub_hd1 {D : Addr} {M : List Addr} : ∀ x, x ∈ [D] → x ∈ D :: M := fun x h => by rw [List.mem_singleton.mp h]; exact List.mem_cons_self ..
theorem kp_fresh {M N : List Addr} {H H1 H' : Hp} (k : Kp M H H1) (k2 : Kp N H1 H') (f : ∀ x, x ∈ N → x ∈ M ∨ H x = none) : Kp M H H' := ⟨fun a xs h => k2.tup _ _ (k.tup _ _ h), fun a o n h => k2.out _ _ (fun z => by
  rcases f a z with q | q
  · exact n q
  · rw [q] at h; cases h) (k.out _ _ n h)⟩
theorem fsome {H : Hp} {D : Addr} {o : HO} (h : H D = some o) : H D ≠ none := fun z => by rw [h] at z; cases z
section
variable {K : PySem.W.Frag} {σ : L2.St} {H : Hp} {Q : VK} {v x y : V} {te tb : TE} {tr : TA} {C : Addr} {f : Str} {nx bk ct : L2.St → Hp → Prop} {rt : VK}
theorem q_appN {l : Addr} {xs : List V} (h : H l = some (.lst xs)) (hz : xs.length < 100000) (q : ∀ Hn, Kp [l] H Hn → Hn l = some (.lst (xs ++ [y])) → Q .non Hn) : rAppend (.ref l) [y] H Q := q_append h hz (q _ (kp_one h (by intro _ z; cases z)) upd_same)
theorem q_sfldN {N : Hp → Prop} {a dx : Addr} {fs fs' : List (Str × V)} (h : H a = some (.ins C dx fs)) (c : Cls K C) (n : NoAttr K C f) (l : fs.length < 1000) (e : putF f y fs = fs') (q : ∀ Hn, Kp [a] H Hn → Hn a = some (.ins C dx fs') → N Hn) : sfldK K f N y (.ref a) H :=
  q_sfld h c n l e (q _ (kp_one h (by intro _ z; cases z)) upd_same)
theorem q_pop0N {l : Addr} {xs : List V} (h : H l = some (.lst (x :: xs))) (q : ∀ Hn, Kp [l] H Hn → Hn l = some (.lst xs) → Q x Hn) : rPopAt (.ref l) [.int 0] H Q := q_pop0 h (q _ (kp_one h (by intro _ z; cases z)) upd_same)
theorem q_setLN {p : Addr} {xs : List V} {k : Int} {j : Nat} {QH : Hp → Prop} (h : H p = some (.lst xs)) (hj : ixN xs.length k = some j) (q : ∀ Hn, Kp [p] H Hn → Hn p = some (.lst (xs.set j v)) → QH Hn) : rSetL (.ref p) (.int k) v H QH := q_setL h hj (q _ (kp_one h (by intro _ z; cases z)) upd_same)
theorem q_dgetI {p : Addr} {kvs : List (Key × V)} {n : Int} {B : V → Prop} (h : H p = some (.dK kvs)) (hl : valV kvs (Sum.inl n) = some v) (q : B v) : ∃ a v', V.ref p = .ref a ∧ DGet H a (.int n) (some v') ∧ B v' :=
  ⟨p, v, rfl, by rw [← hl]; exact DGet.k (k := Sum.inl n) h, q⟩
theorem f_dput {td ty tv : TE} (q : tv σ H fun v H1 => td σ H1 fun x H2 => ty σ H2 fun y H3 => ∃ a H4, x = .ref a ∧ DPut H3 a y v H4 ∧ nx σ H4) : sDPut td ty tv ⟨nx, rt, bk, ct⟩ σ H := q
theorem q_dputI {p : Addr} {kvs : List (Key × V)} {n : Int} {B : Hp → Prop} (h : H p = some (.dK kvs)) (hl : kvs.length ≤ 1000) (q : ∀ Hn, Kp [p] H Hn → Hn p = some (.dK (putK kvs (Sum.inl n) v)) → B Hn) : ∃ a H', V.ref p = .ref a ∧ DPut H a (.int n) v H' ∧ B H' :=
  ⟨p, _, rfl, DPut.k (k := Sum.inl n) h (sl1000' (by omega)), q _ (kp_one h (by intro _ z; cases z)) upd_same⟩
theorem q_dputS {p : Addr} {kvs : List (Key × V)} {z : Str} {B : Hp → Prop} (h : H p = some (.dK kvs)) (hl : kvs.length ≤ 1000) (q : ∀ Hn, Kp [p] H Hn → Hn p = some (.dK (putK kvs (Sum.inr z) v)) → B Hn) : ∃ a H', V.ref p = .ref a ∧ DPut H a (.str z) v H' ∧ B H' :=
  ⟨p, _, rfl, DPut.k (k := Sum.inr z) h (sl1000' (by omega)), q _ (kp_one h (by intro _ z; cases z)) upd_same⟩
theorem q_truC {B : Bool → Prop} {a : Addr} {xs : List V} (h : SqL K H a (x :: xs)) (q : B true) : ∃ k, TruV K (.ref a) H k ∧ B k := ⟨_, .inl ⟨_, h, rfl⟩, q⟩
theorem q_truN {B : Bool → Prop} {a : Addr} (h : SqL K H a []) (q : B false) : ∃ k, TruV K (.ref a) H k ∧ B k := ⟨_, .inl ⟨_, h, rfl⟩, q⟩
theorem f_truth {QT : Bool → Hp → Prop} (q : te σ H fun x H' => ∃ k, TruV K x H' k ∧ QT k H') : (fun σ H (Q : Bool → Hp → Prop) => te σ H fun x H' => ∃ k, TruV K x H' k ∧ Q k H') σ H QT := q
theorem q_isiL {p : Addr} {xs : List V} (h : H p = some (.lst xs)) (q : Q (.bl true) H) : rIsi K [.ref p, .ty "list"] H Q := q_isi (.lst h) (kit_ty (r := true) (by decide +kernel)) q
theorem q_isiTp {p : Addr} {xs : List V} (h : H p = some (.tup xs)) (q : Q (.bl true) H) : rIsi K [.ref p, .ty "tuple"] H Q := q_isi (.tup h) (kit_ty (r := true) (by decide +kernel)) q
theorem q_isiLT {p : Addr} {xs : List V} (h : H p = some (.tup xs)) (q : Q (.bl false) H) : rIsi K [.ref p, .ty "list"] H Q := q_isi (.tup h) (kit_ty (r := false) (by decide +kernel)) q
theorem q_isiBB {b : Bool} (q : Q (.bl true) H) : rIsi K [.bl b, .ty "bool"] H Q := q_isi (.bl b) (kit_ty (by decide +kernel)) q
end
local macro_rules | `(tactic| exists "nin") => `(tactic| (refine nin_c (by (first | exists "ne1" | fail)) ?_; exists "nin"))
local macro_rules | `(tactic| exists "nin") => `(tactic| (refine st_fresh (H := ?H) ?a ?b; (case b => assumption); (case a => subst "st_ok")))
local macro_rules | `(tactic| exists "nin") => `(tactic| exact List.not_mem_nil)
local macro_rules | `(tactic| exists "nin") => `(tactic| assumption)
local macro_rules | `(tactic| exists "ne1") => `(tactic| (refine Ne.symm ?_; refine ne_nw (H := ?hh) (o := ?u) ?a ?b; (case b => assumption); (case a => exists "lift")))
local macro_rules | `(tactic| exists "ne1") => `(tactic| (refine ne_nw (H := ?hh) (o := ?u) ?a ?b; (case b => assumption); (case a => exists "lift")))
local macro_rules | `(tactic| exists "ne1") => `(tactic| exact Ne.symm (by assumption))
local macro_rules | `(tactic| exists "ne1") => `(tactic| assumption)
local macro_rules | `(tactic| subst "putx") => `(tactic| (refine put_tl (r' := ?rr) ?hh ?qq; (case hh => decide +kernel); (case qq => subst "putx")))
local macro_rules | `(tactic| subst "putx") => `(tactic| exact put_hd)
local macro_rules | `(tactic| subst "putx") => `(tactic| exact put_nil)
local macro_rules | `(tactic| subst "len2") => `(tactic| (simp only [List.length_cons, List.length_nil, List.length_append, List.length_map, List.length_take]; omega))
local macro_rules | `(tactic| subst "len2") => `(tactic| exact of_decide_eq_true rfl)
local macro_rules | `(tactic| subst "len2") => `(tactic| omega)
local macro_rules | `(tactic| subst "len2") => `(tactic| decide)
theorem r_dnewN {σ : L2.St} {H : Hp} {Q : VK} (q : ∀ p Hn, H p = none → Ex H Hn → Hn p = some (.dK []) → Q (.ref p) Hn) : tDNewK σ H Q := fun p hp => q p _ hp (Ex.mk hp rfl) upd_same
set_option hygiene false in
local macro_rules | `(tactic| subst "i_upd") => `(tactic| intro Hn ku hu)
local macro_rules | `(tactic| injection "own") => `(tactic| with_reducible refine q_isiBB ?_)
local macro_rules | `(tactic| injection "own") => `(tactic| ((with_reducible refine q_isiLT (xs := ?xs) ?h ?_); (case h => exists "lift")))
local macro_rules | `(tactic| injection "own") => `(tactic| ((with_reducible refine q_isiTp (xs := ?xs) ?h ?_); (case h => exists "lift")))
local macro_rules | `(tactic| injection "own") => `(tactic| ((with_reducible refine q_isiL (xs := ?xs) ?h ?_); (case h => exists "lift")))
local macro_rules | `(tactic| injection "own") => `(tactic| ((with_reducible refine q_truN ?h ?_); (case h => exists "sq")))
local macro_rules | `(tactic| injection "own") => `(tactic| ((with_reducible refine q_truC (x := ?x) (xs := ?xs) ?h ?_); (case h => exists "sq")))
local macro_rules | `(tactic| injection "own") => `(tactic| (with_reducible refine r_dnewN ?_; subst "i_new"))
local macro_rules | `(tactic| injection "own") => `(tactic| ((with_reducible refine q_rng1 ?h ?_); (case h => simp only [List.length_map]; omega)))
local macro_rules | `(tactic| injection "own") => `(tactic| with_reducible refine f_dput ?_)
local macro_rules | `(tactic| injection "own") => `(tactic| ((with_reducible refine q_sfldN (C := ?C) (dx := ?dx) (fs := ?fs) (fs' := ?fs') ?h ?c ?n ?l ?e ?_); (case h => exists "lift"); (case c => subst "cls"); (case n => subst "cls"); (case l => subst "len2"); (case e => subst "putx"); subst "i_upd"))
local macro_rules | `(tactic| injection "own") => `(tactic| ((with_reducible refine q_pop0N (x := ?x) (xs := ?xs) ?h ?_); (case h => exists "lift"); subst "i_upd"))
local macro_rules | `(tactic| injection "own") => `(tactic| ((with_reducible refine q_setLN (xs := ?xs) (j := ?j) ?h ?e ?_); (case h => exists "lift"); (case e => first | exact rfl | exact ix0); subst "i_upd"))
local macro_rules | `(tactic| injection "own") => `(tactic| ((with_reducible refine q_appN (xs := ?xs) ?h ?z ?_); (case h => exists "lift"); (case z => subst "len2"); subst "i_upd"))
local macro_rules | `(tactic| injection "own") => `(tactic| ((with_reducible refine q_tyLs (xs := ?xs) ?h ?_); (case h => exists "sq")))
/-! ### data of tuples -/
mutual
inductive Tp (H : Hp) : V → PyData → Prop
  | non : Tp H .non .none
  | bl (b : Bool) : Tp H (.bl b) (.bool b)
  | int (i : Int) : Tp H (.int i) (.int i)
  | str (x : Str) : Tp H (.str x) (.str x)
  | tup {a : Addr} {xs : List V} {ds : List PyData} : H a = some (.tup xs) → Tps H xs ds → Tp H (.ref a) (.tuple ds)
inductive Tps (H : Hp) : List V → List PyData → Prop
  | nil : Tps H [] []
  | cons {v : V} {vs : List V} {d : PyData} {ds : List PyData} : Tp H v d → Tps H vs ds → Tps H (v :: vs) (d :: ds)
end
mutual
theorem tp_kp {M : List Addr} {H H' : Hp} (k : Kp M H H') : ∀ {v : V} {d : PyData}, Tp H v d → Tp H' v d
  | _, _, .non => .non
  | _, _, .bl b => .bl b
  | _, _, .int i => .int i
  | _, _, .str x => .str x
  | _, _, .tup h t => .tup (k.tup _ _ h) (tps_kp k t)
theorem tps_kp {M : List Addr} {H H' : Hp} (k : Kp M H H') : ∀ {vs : List V} {ds : List PyData}, Tps H vs ds → Tps H' vs ds
  | _, _, .nil => .nil
  | _, _, .cons h t => .cons (tp_kp k h) (tps_kp k t)
end
theorem tp_ex {H H' : Hp} (k : Ex H H') {v : V} {d : PyData} (h : Tp H v d) : Tp H' v d := tp_kp (M := []) k.kp h
theorem tps_ex {H H' : Hp} (k : Ex H H') {v : List V} {d : List PyData} (h : Tps H v d) : Tps H' v d := tps_kp (M := []) k.kp h
mutual
theorem tp_dp {K : PySem.W.Frag} {H : Hp} : ∀ {v : V} {d : PyData}, Tp H v d → Dp K H v d
  | _, _, .non => .non
  | _, _, .bl b => .bl b
  | _, _, .int i => .int i
  | _, _, .str x => .str x
  | _, _, .tup h t => .tup (sqt h) (tps_dp t)
theorem tps_dp {K : PySem.W.Frag} {H : Hp} : ∀ {vs : List V} {ds : List PyData}, Tps H vs ds → DpAll K H vs ds
  | _, _, .nil => .nil
  | _, _, .cons h t => .cons (tp_dp h) (tps_dp t)
end
theorem tps_app {H : Hp} : ∀ {vs ws : List V} {ds es : List PyData}, Tps H vs ds → Tps H ws es → Tps H (vs ++ ws) (ds ++ es)
  | _, _, _, _, .nil, h => h
  | _, _, _, _, .cons a t, h => .cons a (tps_app t h)
theorem tps_len {H : Hp} : ∀ {vs : List V} {ds : List PyData}, Tps H vs ds → vs.length = ds.length
  | _, _, .nil => rfl
  | _, _, .cons _ t => by rw [List.length_cons, List.length_cons, tps_len t]
def fInts (ns : List Int) : List PyData := ns.map PyData.int
theorem tps_ints {H : Hp} : ∀ ns : List Int, Tps H (ns.map V.int) (fInts ns)
  | [] => .nil
  | n :: r => .cons (.int n) (tps_ints r)
theorem fints_dp {K : PySem.W.Frag} {H : Hp} : ∀ ns : List Int, DpAll K H (ns.map V.int) (fInts ns)
  | [] => .nil
  | n :: r => .cons (.int n) (fints_dp r)
theorem fints_lay : ∀ ns : List Int, PyData.canLayAll0 (fInts ns) = true
  | [] => by simp [fInts, PyData.canLayAll0]
  | c :: r => by
    have h := fints_lay r
    simp only [fInts] at h
    simp [fInts, PyData.canLayAll0, PyData.canLay0, h]
theorem fints_depth : ∀ ns : List Int, PyData.depthAll (fInts ns) = 0
  | [] => by simp [fInts, PyData.depthAll]
  | c :: r => by
    have h := fints_depth r
    simp only [fInts] at h
    simp [fInts, PyData.depthAll, PyData.depth, h]
theorem flay_map {α : Type} {f : α → PyData} : ∀ xs : List α, (∀ x ∈ xs, (f x).canLay0 = true) → PyData.canLayAll0 (xs.map f) = true
  | [], _ => by simp [PyData.canLayAll0]
  | c :: r, h => by simp [PyData.canLayAll0, h c (List.mem_cons_self ..), flay_map r fun x hx => h x (List.mem_cons_of_mem _ hx)]
theorem fdepth_map {α : Type} {f : α → PyData} {b : Nat} : ∀ xs : List α, (∀ x ∈ xs, (f x).depth ≤ b) → PyData.depthAll (xs.map f) ≤ b
  | [], _ => by simp [PyData.depthAll]
  | c :: r, h => by
    have h1 := h c (List.mem_cons_self ..)
    have h2 := fdepth_map r fun x hx => h x (List.mem_cons_of_mem _ hx)
    simp only [List.map_cons, PyData.depthAll]
    omega
theorem flist_shaped {ds : List PyData} (h1 : PyData.canLayAll0 ds = true) (h2 : PyData.depthAll ds ≤ 20) : SeqAt.shaped (.list ds) = true := by
  have h3 : PyData.depthAll ds + 1 ≤ 64 := by omega
  simp [SeqAt.shaped, PyData.canLay0, PyData.depth, h1, h3]
theorem fq_eqDat {K : PySem.W.Frag} {H : Hp} {Q : VK} {a b : V} {ds : List PyData} (h1 : Dp K H a (.list ds)) (h2 : Dp K H b (.list ds)) (l : PyData.canLayAll0 ds = true) (d : PyData.depthAll ds ≤ 20) (q : Q (.bl true) H) : rEqA K a b H Q :=
  .inr ⟨_, _, h1, h2, flist_shaped l d, flist_shaped l d, by rw [SeqAt.eqv_refl _ (by simp [PyData.canLay0, l])]; exact q⟩
theorem fq_neDat {K : PySem.W.Frag} {H : Hp} {Q : VK} {a b : V} {ds : List PyData} (h1 : Dp K H a (.list ds)) (h2 : Dp K H b (.list ds)) (l : PyData.canLayAll0 ds = true) (d : PyData.depthAll ds ≤ 20) (q : Q (.bl false) H) : rNeA K a b H Q :=
  .inr ⟨_, _, h1, h2, flist_shaped l d, flist_shaped l d, by rw [SeqAt.eqv_refl _ (by simp [PyData.canLay0, l])]; exact q⟩
theorem fq_neInts {K : PySem.W.Frag} {H : Hp} {Q : VK} {a b : Addr} {ns : List Int} (h1 : H a = some (.lst (ns.map V.int))) (h2 : H b = some (.lst (ns.map V.int))) (q : Q (.bl false) H) : rNeA K (.ref a) (.ref b) H Q :=
  fq_neDat (.lst (sql h1) (fints_dp ns)) (.lst (sql h2) (fints_dp ns)) (fints_lay ns) (by rw [fints_depth]; omega) q
theorem fq_eqInts {K : PySem.W.Frag} {H : Hp} {Q : VK} {a b : Addr} {ns : List Int} (h1 : H a = some (.lst (ns.map V.int))) (h2 : H b = some (.lst (ns.map V.int))) (q : Q (.bl true) H) : rEqA K (.ref a) (.ref b) H Q :=
  fq_eqDat (.lst (sql h1) (fints_dp ns)) (.lst (sql h2) (fints_dp ns)) (fints_lay ns) (by rw [fints_depth]; omega) q
local macro_rules | `(tactic| subst "tp") => `(tactic| (refine tp_kp (by assumption) ?_; subst "tp"))
local macro_rules | `(tactic| subst "tp") => `(tactic| (refine tp_ex (by assumption) ?_; subst "tp"))
local macro_rules | `(tactic| subst "tp") => `(tactic| (refine Tp.tup (xs := ?xs) ?h ?t; (case h => exists "lift"); (case t => subst "tps")))
local macro_rules | `(tactic| subst "tp") => `(tactic| exact Tp.bl _)
local macro_rules | `(tactic| subst "tp") => `(tactic| exact Tp.non)
local macro_rules | `(tactic| subst "tp") => `(tactic| exact Tp.str _)
local macro_rules | `(tactic| subst "tp") => `(tactic| exact Tp.int _)
local macro_rules | `(tactic| subst "tp") => `(tactic| assumption)
local macro_rules | `(tactic| subst "tps") => `(tactic| (refine tps_kp (by assumption) ?_; subst "tps"))
local macro_rules | `(tactic| subst "tps") => `(tactic| (refine tps_ex (by assumption) ?_; subst "tps"))
local macro_rules | `(tactic| subst "tps") => `(tactic| (refine Tps.cons ?h ?t; (case h => subst "tp"); (case t => subst "tps")))
local macro_rules | `(tactic| subst "tps") => `(tactic| exact Tps.nil)
local macro_rules | `(tactic| subst "tps") => `(tactic| assumption)
/-! ### frames over several steps -/
theorem subf_n {M : List Addr} {H : Hp} : ∀ x, x ∈ ([] : List Addr) → x ∈ M ∨ H x = none := fun _ h => absurd h List.not_mem_nil
theorem subf_c {M N : List Addr} {H : Hp} {a : Addr} (h : a ∈ M ∨ H a = none) (t : ∀ x, x ∈ N → x ∈ M ∨ H x = none) : ∀ x, x ∈ a :: N → x ∈ M ∨ H x = none := fun x hx => by
  rcases List.mem_cons.mp hx with rfl | hx
  · exact h
  · exact t x hx
theorem ex_of_kp {H H' : Hp} (k : Kp [] H H') : Ex H H' := fun a o h => k.out a o List.not_mem_nil h
local macro_rules | `(tactic| exists "frees") => `(tactic| (refine free_backK (by assumption) (by (first | exists "nin" | fail)) ?_; exists "frees"))
local macro_rules | `(tactic| exists "frees") => `(tactic| (refine free_back (by assumption) ?_; exists "frees"))
local macro_rules | `(tactic| exists "frees") => `(tactic| assumption)
local macro_rules | `(tactic| subst "mem") => `(tactic| (refine List.mem_cons_of_mem _ ?_; subst "mem"))
local macro_rules | `(tactic| subst "mem") => `(tactic| exact List.mem_cons_self ..)
local macro_rules | `(tactic| subst "subf") => `(tactic| (refine subf_c ?a ?t; (case a => first | (refine Or.inl ?_; subst "mem") | (refine Or.inr ?_; exists "frees") | fail); (case t => subst "subf")))
local macro_rules | `(tactic| subst "subf") => `(tactic| exact subf_n)
local macro_rules | `(tactic| subst "kpx") => `(tactic| (refine kp_fresh ?k (by assumption) ?f; (case f => subst "subf"); (case k => subst "kpx")))
local macro_rules | `(tactic| subst "kpx") => `(tactic| (refine Kp.trans ?_ (Ex.kp (by assumption)); subst "kpx"))
local macro_rules | `(tactic| subst "kpx") => `(tactic| exact Kp.refl _)
local macro_rules | `(tactic| subst "kpx") => `(tactic| assumption)
local macro_rules | `(tactic| subst "exx") => `(tactic| (refine ex_of_kp ?_; subst "kpx"))
local macro_rules | `(tactic| subst "exx") => `(tactic| exact Ex.refl _)
local macro_rules | `(tactic| subst "exx") => `(tactic| assumption)
theorem st_kpx {st c : Addr} {M : List Addr} {H H' : Hp} (k : Kp M H H') (n : ∀ x, x ∈ M → x ∉ [st, c]) (h : StOk st c H) : StOk st c H' := by
  obtain ⟨⟨ns, s, a, b, d⟩, e⟩ := h
  exact ⟨⟨ns, s, k.out _ _ (fun z => n _ z (by simp)) a, k.out _ _ (fun z => n _ z (by simp)) b, d⟩, e⟩
theorem alln_n {S : List Addr} : ∀ x, x ∈ ([] : List Addr) → x ∉ S := fun _ h => absurd h List.not_mem_nil
theorem alln_c {S M : List Addr} {a : Addr} (h : a ∉ S) (t : ∀ x, x ∈ M → x ∉ S) : ∀ x, x ∈ a :: M → x ∉ S := fun x hx => by
  rcases List.mem_cons.mp hx with rfl | hx
  · exact h
  · exact t x hx
local macro_rules | `(tactic| subst "alln") => `(tactic| (refine alln_c ?a ?t; (case a => exists "nin"); (case t => subst "alln")))
local macro_rules | `(tactic| subst "alln") => `(tactic| exact alln_n)
local macro_rules | `(tactic| subst "alln") => `(tactic| assumption)
local macro_rules | `(tactic| subst "st_ok") => `(tactic| (refine st_kpx (by assumption) ?n ?hh; (case hh => subst "st_ok"); (case n => subst "alln")))
local macro_rules | `(tactic| subst "st_ok") => `(tactic| (refine st_ex (by assumption) ?_; subst "st_ok"))
local macro_rules | `(tactic| subst "st_ok") => `(tactic| assumption)
theorem q_catN {K : PySem.W.Frag} {H : Hp} {Q : VK} {a b : Addr} {xs ys : List V} (h1 : H a = some (.lst xs)) (h2 : H b = some (.lst ys)) (z : xs.length + ys.length ≤ 100000) (q : ∀ p Hn, H p = none → Ex H Hn → Hn p = some (.lst (xs ++ ys)) → Q (.ref p) Hn) : rAddA K (.ref a) (.ref b) H Q :=
  .inr (.inr (.inl ⟨a, b, xs, ys, rfl, rfl, h1, h2, sl1000 z, fun p hp => q p _ hp (Ex.mk hp rfl) upd_same⟩))
local macro_rules | `(tactic| injection "own") => `(tactic| ((with_reducible refine q_catN (xs := ?xs) (ys := ?ys) ?h1 ?h2 ?z ?_); (case h1 => exists "lift"); (case h2 => exists "lift"); (case z => subst "len2"); subst "i_new"))
theorem r_par {σ : L2.St} {H : Hp} {ta : TA} {i j : Nat} {nx bk ct : L2.St → Hp → Prop} {rt : VK} (q : ta σ H fun vs H1 => ∃ v w, vs = [v, w] ∧ nx ((σ.set i (some v)).set j (some w)) H1) : tPar i j ta ⟨nx, rt, bk, ct⟩ σ H := q
theorem q_par {x y : V} {B : V → V → Prop} (q : B x y) : ∃ v w, [x, y] = [v, w] ∧ B v w := ⟨x, y, rfl, q⟩
local macro_rules | `(tactic| injection "own") => `(tactic| with_reducible refine q_par ?_)
local macro_rules | `(tactic| injection "own") => `(tactic| with_reducible refine r_par ?_)
local macro_rules | `(tactic| subst "arx") => `(tactic| (simp only [List.length_cons, List.length_nil, List.length_map, List.length_append]; omega))
local macro_rules | `(tactic| subst "arx") => `(tactic| decide)
local macro_rules | `(tactic| subst "arx") => `(tactic| omega)
local macro_rules | `(tactic| subst "kp") => `(tactic| (refine Kp.trans ?_ (Ex.kp (by assumption)); subst "kp"))
local macro_rules | `(tactic| subst "kp") => `(tactic| (refine Kp.trans ?_ (by assumption); subst "kp"))
local macro_rules | `(tactic| subst "kp") => `(tactic| exact Kp.refl _)
local macro_rules | `(tactic| subst "kp") => `(tactic| assumption)
theorem int_mod (a : Int) {m : Int} (h : 0 < m) : 0 ≤ a % m ∧ a % m < m := ⟨Int.emod_nonneg _ (by omega), Int.emod_lt_of_pos _ h⟩
def sp_state (K : PySem.W.Frag) : Sp := fun vs H Q _ => ∃ (a : Addr) (ns : List Int), vs = [.ref a] ∧ SqL K H a (ns.map V.int) ∧ ns.length ≤ 63 ∧ ∀ st c H', Ex H H' → H st = none → H c = none → StOk st c H' → Q (.ref st) H'
theorem ex_sql {H H' : Hp} {a : Addr} {xs : List V} (e : Ex H H') (h : SqL K H a xs) : SqL K H' a xs := e.same.seq h
theorem abs_nn (i : Int) : 0 ≤ (if i < 0 then -i else i) := by split <;> omega
theorem ok_state (T : Glo K w mg) (D : Dn K mg "_law_state" s__law_state p__law_state) : Cal P w K mg base "_law_state" 1 p__law_state (sp_state K) := by
  refine D.ok sc__law_state (fun vs H Q E h => ?_) (fun f cdv A outer s H vs Q E hr h => ?_)
  · obtain ⟨_, _, rfl, _⟩ := h
    rfl
  obtain ⟨a, ns, rfl, hs, hl, q⟩ := h
  refine ⟨_, (pss_cons (ps_set (i := 1) sc__law_state.nd rfl (by first | exact Or.inl rfl | exact Or.inr rfl) pe_int) (pss_cons (ps_for PassesOwn.never rfl (pi_list (pv 0)) (pg_name (i := 2) sc__law_state.nd rfl (by first | exact Or.inl rfl | exact Or.inr rfl)) (pss_one (ps_set (i := 1) sc__law_state.nd rfl (by first | exact Or.inl rfl | exact Or.inr rfl) (pe_op op_mod (pe_callTy call_intA rfl T.n_int (by decide +kernel) (pa_cons (pe_op op_addA (pe_op op_mul (pv 1) pe_int) (pv 2)) pa_nil)) pe_int)))) (pss_one (ps_ret (pe_lst (pa_cons (pe_lc (own := [("_law_cell", 2)]) (tt := tYes) rfl sc__law_state.nd (pi_list (pv 0)) (blkOk_by (N := ["_law_script", "_law_seed", "_law_cell"]) (sc := defScope s__law_state) (by decide +kernel)) (fun _ _ _ _ _ => (pg_name (i := 2) sc__law_state.nd rfl (by first | exact Or.inl rfl | exact Or.inr rfl))) (fun _ _ _ _ _ => pts_nil) (fun _ _ _ _ _ => (pe_callB call_absA rfl T.n_abs (by decide +kernel) (pa_cons (pv 2) pa_nil)))) (pa_cons (pe_op op_addA (pv 1) pe_int) pa_nil))))))), ?_⟩
  try dsimp only [cxOf, Cx.nox]
  repeat' (first | specialize "st" | fail)
  refine w_list (xs := ns.map V.int) (fun i σ H' => H' = H ∧ ∃ (z : Int) (y : Option V), σ = [some (.ref a), some (.int z), y] ∧ 0 ≤ z ∧ z < 1000003) ?_ ?_ ?_ ?_
  · exact ⟨rfl, 7, none, rfl, by decide, by decide⟩
  · rintro i σ H' _ ⟨rfl, _⟩
    exact hs
  · rintro i x σ H' hx ⟨rfl, z, y, rfl, z0, z1⟩
    rw [List.getElem?_map] at hx
    obtain ⟨n, hn, rfl⟩ := Option.map_eq_some_iff.mp hx
    repeat' (first | specialize "st" | fail)
    refine ⟨rfl, _, some (.int n), rfl, ?_⟩
    exact int_mod _ (by decide)
  · rintro σ H' ⟨rfl, z, y, rfl, z0, z1⟩
    repeat' (first | specialize "st" | fail)
    intro L hL
    refine lc_list (xs := ns.map V.int) (fun i H2 => Ex H' H2 ∧ H2 L = some (.lst ((ns.take i).map fun n => V.int (if n < 0 then -n else n)))) ?_ ?_ ?_ ?_
    · exact ⟨Ex.mk hL rfl, upd_same⟩
    · rintro i H2 _ ⟨e, _⟩
      exact ex_sql e hs
    · rintro i x H2 hx ⟨e, h2⟩
      rw [List.getElem?_map] at hx
      obtain ⟨n, hn, rfl⟩ := Option.map_eq_some_iff.mp hx
      refine ⟨rfl, ?_⟩
      repeat' (first | specialize "st" | fail)
      refine ⟨_, h2, sl1000' ?_, ?_, ?_⟩
      · rw [List.length_map, List.length_take]
        omega
      · intro b u hb
        rw [upd_ne (ne_of_none hb hL)]
        exact e _ _ hb
      · rw [upd_same, List.take_add_one, hn, List.map_append]
        rfl
    · rintro H2 ⟨e, h2⟩
      repeat' (first | specialize "st" | fail)
      rw [List.take_of_length_le (by rw [List.length_map]; exact Nat.le_refl _)] at h2
      refine q p L _ (e.trans ke) (free_back e hp) hL ⟨⟨ns.map fun n => (if n < 0 then -n else n), z + 1, hn, ?_, ?_, by omega, by omega⟩, ?_⟩
      · rw [List.map_map]
        exact ke _ _ h2
      · intro n hn
        obtain ⟨m, _, rfl⟩ := List.mem_map.mp hn
        exact abs_nn m
      · exact ne_of_none h2 hp
def sp_draw : Sp := fun vs H Q _ => ∃ (st c : Addr) (many : Int), vs = [.ref st, .int many] ∧ StOk st c H ∧ 0 < many ∧ many < 1073741824 ∧ ∀ (n : Int) (H' : Hp), 0 ≤ n → n < many → Kp [st, c] H H' → StOk st c H' → Q (.int n) H'
theorem ok_draw (T : Glo K w mg) (D : Dn K mg "_law_draw" s__law_draw p__law_draw) : Cal P w K mg base "_law_draw" 1 p__law_draw sp_draw := by
  refine D.ok sc__law_draw (fun vs H Q E h => ?_) (fun f cdv A outer s H vs Q E hr h => ?_)
  · obtain ⟨_, _, _, rfl, _⟩ := h
    rfl
  obtain ⟨st, c, many, rfl, ⟨⟨ns, z, hst, hc, hn, z0, z1⟩, hne⟩, m0, m1, q⟩ := h
  refine ⟨_, (pss_cons (ps_set (i := 2) sc__law_draw.nd rfl (by first | exact Or.inl rfl | exact Or.inr rfl) (pe_ix ix_seq (pv 0) pe_int (fun _ _ => rfl))) (pss_cons (ps_while PassesOwn.never (PW.pt (pw_and (pt_cmpR op_gt (pe_callB call_lenA rfl T.n_len (by decide +kernel) (pa_cons (pv 2) pa_nil)) pe_int (nomark _)) (pw_and1 (pt_cmpR (op_eqA (hu64 hr)) (pe_ix ix_seq (pv 2) pe_int (fun _ _ => rfl)) pe_int (nomark _))))) (pss_one (ps_expr (pe_bm PySem.F.plainAttrs_list PySem.F.slot_list_pop PySem.F.type_list_pop mt_popAt (pv 2) (pa_cons pe_int pa_nil))))) (pss_cons (ps_if (pt_cmpR op_gt (pe_callB call_lenA rfl T.n_len (by decide +kernel) (pa_cons (pv 2) pa_nil)) pe_int (nomark _)) (pss_cons (ps_set (i := 4) sc__law_draw.nd rfl (by first | exact Or.inl rfl | exact Or.inr rfl) (pe_ix ix_seq (pv 2) pe_int (fun _ _ => rfl))) (pss_cons (ps_asg (pe_op op_fdiv (pv 4) (pv 1)) (pg_sub (pv 2) pe_int set_list)) (pss_one (ps_ret (pe_op op_mod (pe_callTy call_intA rfl T.n_int (by decide +kernel) (pa_cons (pv 4) pa_nil)) (pv 1)))))) pss_nil) (pss_cons (ps_set (i := 3) sc__law_draw.nd rfl (by first | exact Or.inl rfl | exact Or.inr rfl) (pe_op op_mod (pe_callTy call_intA rfl T.n_int (by decide +kernel) (pa_cons (pe_op op_addA (pe_op op_mul (pe_ix ix_seq (pv 0) pe_int (fun _ _ => rfl)) pe_int) pe_int) pa_nil)) pe_int)) (pss_cons (ps_asg (pv 3) (pg_sub (pv 0) pe_int set_list)) (pss_one (ps_ret (pe_op op_mod (pe_callTy call_intA rfl T.n_int (by decide +kernel) (pa_cons (pe_op op_fdiv (pv 3) pe_int) pa_nil)) (pv 1))))))))), ?_⟩
  try dsimp only [cxOf, Cx.nox]
  repeat' (first | specialize "st" | fail)
  refine w_while (fun m σ H' => ∃ ns' : List Int, m = ns'.length ∧ σ = [some (.ref st), some (.int many), some (.ref c), none, none] ∧ H' st = some (.lst [.ref c, .int z]) ∧ H' c = some (.lst (ns'.map V.int)) ∧ (∀ n ∈ ns', 0 ≤ n) ∧ Kp [st, c] H H') ns.length ⟨ns, rfl, rfl, hst, hc, hn, Kp.refl _⟩ ?_ ?_
  · rintro m σ H' ⟨ns', rfl, rfl, h1, h2, h3, h4⟩
    have mc : c ∈ [st, c] := by simp
    have mst : st ∈ [st, c] := by simp
    have ht : ∀ xs, H' st ≠ some (.tup xs) := fun xs e => by rw [h1] at e; cases e
    have hu : ∀ xs, H' c ≠ some (.tup xs) := fun xs e => by rw [h2] at e; cases e
    cases ns' with
    | nil =>
      repeat' (first | specialize "st" | fail)
      have hz := int_mod (z * 48271 + 12345) (m := 2147483647) (by decide)
      exact q _ Hn (int_mod _ m0).1 (int_mod _ m0).2 (h4.trans (ku.sub fun x hx => by rw [List.mem_singleton.mp hx]; exact mst)) ⟨⟨[], _, hu, ku.out _ _ (nin_c hne List.not_mem_nil) h2, h3, hz.1, Int.lt_trans hz.2 (by decide)⟩, hne⟩
    | cons n r =>
      rw [List.map_cons] at h2
      have hn0 := h3 n (List.mem_cons_self ..)
      have hr0 : ∀ n ∈ r, 0 ≤ n := fun k hk => h3 k (List.mem_cons_of_mem _ hk)
      repeat' (first | specialize "st" | fail)
      · exact ⟨r.length, Nat.lt_succ_self _, r, rfl, rfl, ku.out _ _ (nin_c (Ne.symm hne) List.not_mem_nil) h1, hu, hr0, h4.trans (ku.sub fun x hx => by rw [List.mem_singleton.mp hx]; exact mc)⟩
      · refine q _ Hn (int_mod _ m0).1 (int_mod _ m0).2 (h4.trans (ku.sub fun x hx => by rw [List.mem_singleton.mp hx]; exact mc)) ⟨⟨n / many :: r, z, ku.out _ _ (nin_c (Ne.symm hne) List.not_mem_nil) h1, hu, ?_, z0, z1⟩, hne⟩
        intro k hk
        rcases List.mem_cons.mp hk with rfl | hk
        · exact Int.ediv_nonneg hn0 (by omega)
        · exact hr0 _ hk
  · intro σ H Q Q' hQ h
    exact mo_and (mo_test (mo_op mo_I0 (mo_cb mo_lenA (mo_cons mo_var mo_nil)) mo_c)) (mo_test (mo_op mo_eqA (mo_op mo_ix mo_var mo_c) mo_c)) _ _ _ _ hQ h
theorem c_draw {st c : Addr} {many : Int} {H : Hp} {Q : VK} {E : XK} (h1 : StOk st c H) (h2 : 0 < many ∧ many < 1073741824) (q : ∀ (n : Int) (H' : Hp), 0 ≤ n → n < many → Kp [st, c] H H' → StOk st c H' → Q (.int n) H') :
    sp_draw [.ref st, .int many] H Q E := ⟨st, c, many, rfl, h1, h2.1, h2.2, q⟩
set_option hygiene false in
local macro_rules | `(tactic| subst "i_c_draw") => `(tactic| intro dn Hn n0 n1 ke so)
local macro_rules | `(tactic| injection "own") => `(tactic| (refine c_draw (c := ?c) ?a ?b ?_; (case a => subst "st_ok"); (case b => subst "arx2"); subst "i_c_draw"))
local macro_rules | `(tactic| subst "arx2") => `(tactic| (refine And.intro ?_ ?_ <;> decide +kernel))
local macro_rules | `(tactic| subst "arx2") => `(tactic| (simp only [List.length_cons, List.length_nil, List.length_map, List.length_append]; refine And.intro ?_ ?_ <;> omega))
local macro_rules | `(tactic| subst "arx2") => `(tactic| (refine And.intro ?_ ?_ <;> omega))
def sp_pick (K : PySem.W.Frag) : Sp := fun vs H Q _ => ∃ (st c a : Addr) (xs : List V), vs = [.ref st, .ref a] ∧ StOk st c H ∧ H a = some (.lst xs) ∧ a ∉ [st, c] ∧ 0 < xs.length ∧ xs.length < 1000000 ∧ ∀ (i : Nat) (v : V) (H' : Hp), xs[i]? = some v → Kp [st, c] H H' → StOk st c H' → Q v H'
theorem ok_pick (T : Glo K w mg) (D : Dn K mg "_law_pick" s__law_pick p__law_pick) (G__law_draw : Cal P w K mg base "_law_draw" 1 p__law_draw sp_draw) : Cal P w K mg base "_law_pick" 2 p__law_pick (sp_pick K) := by
  refine D.ok sc__law_pick (fun vs H Q E h => ?_) (fun f cdv A outer s H vs Q E hr h => ?_)
  · obtain ⟨_, _, _, _, rfl, _⟩ := h
    rfl
  obtain ⟨st, c, a, xs, rfl, so, ha, hn, l0, l1, q⟩ := h
  refine ⟨_, (pss_one (ps_ret (pe_ix ix_seq (pv 1) (pe_cal G__law_draw (hr.mono (by (first | subst "lev" | fail))) rfl (pa_cons (pv 0) (pa_cons (pe_callB call_lenA rfl T.n_len (by decide +kernel) (pa_cons (pv 1) pa_nil)) pa_nil))) (fun _ _ => rfl)))), ?_⟩
  try dsimp only [cxOf, Cx.nox]
  repeat' (first | specialize "st" | fail)
  obtain ⟨v, e1, e2⟩ := at_i (n := dn) n0 n1
  exact q_ixL (sql (ke.out _ _ hn ha)) e2 (q _ v Hn e1 ke so)
theorem c_pick {st c a : Addr} {xs : List V} {H : Hp} {Q : VK} {E : XK} (h1 : StOk st c H) (h2 : H a = some (.lst xs)) (h3 : a ∉ [st, c]) (h4 : 0 < xs.length ∧ xs.length < 1000000) (q : ∀ (i : Nat) (v : V) (H' : Hp), xs[i]? = some v → Kp [st, c] H H' → StOk st c H' → Q v H') :
    sp_pick K [.ref st, .ref a] H Q E := ⟨st, c, a, xs, rfl, h1, h2, h3, h4.1, h4.2, q⟩
set_option hygiene false in
local macro_rules | `(tactic| subst "i_c_pick") => `(tactic| intro j v Hn ej ke so)
local macro_rules | `(tactic| injection "own") => `(tactic| (refine c_pick (c := ?c) (xs := ?xs) ?a ?b ?e ?d ?_; (case b => exists "lift"); (case a => subst "st_ok"); (case e => exists "nin"); (case d => subst "arx2"); subst "i_c_pick"))
/-! ### data whose lists are not among M -/
mutual
inductive DpM (M : List Addr) (H : Hp) : V → PyData → Prop
  | non : DpM M H .non .none
  | bl (b : Bool) : DpM M H (.bl b) (.bool b)
  | int (i : Int) : DpM M H (.int i) (.int i)
  | str (x : Str) : DpM M H (.str x) (.str x)
  | lst {a : Addr} {xs : List V} {ds : List PyData} : a ∉ M → H a = some (.lst xs) → DpMs M H xs ds → DpM M H (.ref a) (.list ds)
  | tup {a : Addr} {xs : List V} {ds : List PyData} : H a = some (.tup xs) → DpMs M H xs ds → DpM M H (.ref a) (.tuple ds)
inductive DpMs (M : List Addr) (H : Hp) : List V → List PyData → Prop
  | nil : DpMs M H [] []
  | cons {v : V} {vs : List V} {d : PyData} {ds : List PyData} : DpM M H v d → DpMs M H vs ds → DpMs M H (v :: vs) (d :: ds)
end
mutual
theorem dpm_kp {M N : List Addr} {H H' : Hp} (e : Kp N H H') (s : ∀ x, x ∈ N → x ∈ M) : ∀ {v : V} {d : PyData}, DpM M H v d → DpM M H' v d
  | _, _, .non => .non
  | _, _, .bl b => .bl b
  | _, _, .int i => .int i
  | _, _, .str x => .str x
  | _, _, .lst n h t => .lst n (e.out _ _ (fun z => n (s _ z)) h) (dpms_kp e s t)
  | _, _, .tup h t => .tup (e.tup _ _ h) (dpms_kp e s t)
theorem dpms_kp {M N : List Addr} {H H' : Hp} (e : Kp N H H') (s : ∀ x, x ∈ N → x ∈ M) : ∀ {vs : List V} {ds : List PyData}, DpMs M H vs ds → DpMs M H' vs ds
  | _, _, .nil => .nil
  | _, _, .cons h t => .cons (dpm_kp e s h) (dpms_kp e s t)
end
mutual
theorem dpm_dp {M : List Addr} {K : PySem.W.Frag} {H : Hp} : ∀ {v : V} {d : PyData}, DpM M H v d → Dp K H v d
  | _, _, .non => .non
  | _, _, .bl b => .bl b
  | _, _, .int i => .int i
  | _, _, .str x => .str x
  | _, _, .lst n h t => .lst (sql h) (dpms_dp t)
  | _, _, .tup h t => .tup (sqt h) (dpms_dp t)
theorem dpms_dp {M : List Addr} {K : PySem.W.Frag} {H : Hp} : ∀ {vs : List V} {ds : List PyData}, DpMs M H vs ds → DpAll K H vs ds
  | _, _, .nil => .nil
  | _, _, .cons h t => .cons (dpm_dp h) (dpms_dp t)
end
theorem dpms_app {M : List Addr} {H : Hp} : ∀ {vs ws : List V} {ds es : List PyData}, DpMs M H vs ds → DpMs M H ws es → DpMs M H (vs ++ ws) (ds ++ es)
  | _, _, _, _, .nil, h => h
  | _, _, _, _, .cons a t, h => .cons a (dpms_app t h)
theorem dpms_one {M : List Addr} {H : Hp} {v : V} {d : PyData} (h : DpM M H v d) : DpMs M H [v] [d] := .cons h .nil
theorem dpms_ints {M : List Addr} {H : Hp} : ∀ ns : List Int, DpMs M H (ns.map V.int) (fInts ns)
  | [] => .nil
  | n :: r => .cons (.int n) (dpms_ints r)
theorem dpms_len {M : List Addr} {H : Hp} : ∀ {vs : List V} {ds : List PyData}, DpMs M H vs ds → vs.length = ds.length
  | _, _, .nil => rfl
  | _, _, .cons _ t => by rw [List.length_cons, List.length_cons, dpms_len t]
/-- what M holds stands -/
def Mo (M : List Addr) (H : Hp) : Prop := ∀ x, x ∈ M → H x ≠ none
theorem Mo.new {M : List Addr} {H : Hp} {p : Addr} (m : Mo M H) (h : H p = none) : p ∉ M := fun z => m p z h
theorem ex_dom {H H' : Hp} (e : Ex H H') {x : Addr} (h : H x ≠ none) : H' x ≠ none := fun z => by
  cases h1 : H x with
  | none => exact h h1
  | some o => rw [e _ _ h1] at z; cases z
theorem mo_ex {M : List Addr} {H H' : Hp} (e : Ex H H') (m : Mo M H) : Mo M H' := fun x hx => ex_dom e (m x hx)
/-- one object changed, the others stay -/
theorem kp_dom {N : List Addr} {H H' : Hp} (e : Kp N H H') (n : ∀ x, x ∈ N → H' x ≠ none) {x : Addr} (h : H x ≠ none) : H' x ≠ none := fun z => by
  by_cases hx : x ∈ N
  · exact n x hx z
  · cases h1 : H x with
    | none => exact h h1
    | some o => rw [e.out _ _ hx h1] at z; cases z
theorem mo_kp {M N : List Addr} {H H' : Hp} (e : Kp N H H') (n : ∀ x, x ∈ N → H' x ≠ none) (m : Mo M H) : Mo M H' := fun x hx => kp_dom e n (m x hx)
theorem kp_new {p : Addr} {H H' : Hp} (e : Kp [p] H H') : ∀ {H0 : Hp}, Ex H0 H → H0 p = none → Ex H0 H' := fun k hp a o h => e.out a o (by
  intro z
  rw [List.mem_singleton.mp z, hp] at h
  cases h) (k a o h)
mutual
theorem dpm_sub {M N : List Addr} {H : Hp} (s : ∀ x, x ∈ N → x ∈ M) : ∀ {v : V} {d : PyData}, DpM M H v d → DpM N H v d
  | _, _, .non => .non
  | _, _, .bl b => .bl b
  | _, _, .int i => .int i
  | _, _, .str x => .str x
  | _, _, .lst n h t => .lst (fun z => n (s _ z)) h (dpms_sub s t)
  | _, _, .tup h t => .tup h (dpms_sub s t)
theorem dpms_sub {M N : List Addr} {H : Hp} (s : ∀ x, x ∈ N → x ∈ M) : ∀ {vs : List V} {ds : List PyData}, DpMs M H vs ds → DpMs N H vs ds
  | _, _, .nil => .nil
  | _, _, .cons h t => .cons (dpm_sub s h) (dpms_sub s t)
end
theorem dpm_ex {M : List Addr} {H H' : Hp} (e : Ex H H') {v : V} {d : PyData} (h : DpM M H v d) : DpM M H' v d := dpm_kp (N := []) e.kp (fun _ z => absurd z List.not_mem_nil) h
theorem dpms_ex {M : List Addr} {H H' : Hp} (e : Ex H H') {vs : List V} {ds : List PyData} (h : DpMs M H vs ds) : DpMs M H' vs ds := dpms_kp (N := []) e.kp (fun _ z => absurd z List.not_mem_nil) h
theorem sub_hd {D : Addr} {M : List Addr} : ∀ x, x ∈ [D] → x ∈ D :: M := fun x h => by rw [List.mem_singleton.mp h]; exact List.mem_cons_self ..
theorem sub_tl {D : Addr} {M : List Addr} : ∀ x, x ∈ M → x ∈ D :: M := fun x h => List.mem_cons_of_mem _ h
theorem sub_mem {D : Addr} {M : List Addr} (m : D ∈ M) : ∀ x, x ∈ [D] → x ∈ M := fun x h => by rw [List.mem_singleton.mp h]; exact m
theorem mo_add {D : Addr} {M : List Addr} {H : Hp} (h : H D ≠ none) (m : Mo M H) : Mo (D :: M) H := fun x hx => by
  rcases List.mem_cons.mp hx with rfl | hx
  · exact h
  · exact m x hx
theorem mo_kp1 {p : Addr} {M : List Addr} {H H' : Hp} {o : HO} (e : Kp [p] H H') (h : H' p = some o) (m : Mo M H) : Mo M H' := mo_kp e (fun x hx => by rw [List.mem_singleton.mp hx]; exact fsome h) m
mutual
theorem dpm_add {M : List Addr} {H : Hp} {p : Addr} (n : H p = none) : ∀ {v : V} {d : PyData}, DpM M H v d → DpM (p :: M) H v d
  | _, _, .non => .non
  | _, _, .bl b => .bl b
  | _, _, .int i => .int i
  | _, _, .str x => .str x
  | _, _, .lst m h t => .lst (nin_c (ne_of_none h n) m) h (dpms_add n t)
  | _, _, .tup h t => .tup h (dpms_add n t)
theorem dpms_add {M : List Addr} {H : Hp} {p : Addr} (n : H p = none) : ∀ {vs : List V} {ds : List PyData}, DpMs M H vs ds → DpMs (p :: M) H vs ds
  | _, _, .nil => .nil
  | _, _, .cons h t => .cons (dpm_add n h) (dpms_add n t)
end
theorem dpms_at {M : List Addr} {H : Hp} : ∀ {vs : List V} {ds : List PyData} {i : Nat} {v : V}, DpMs M H vs ds → vs[i]? = some v → ∃ d, ds[i]? = some d ∧ DpM M H v d
  | _, _, _, _, .nil, h => by simp at h
  | _, _, 0, _, .cons a t, h => by
    simp at h
    subst h
    exact ⟨_, rfl, a⟩
  | _, _, i + 1, _, .cons a t, h => by
    obtain ⟨d, h1, h2⟩ := dpms_at (i := i) t (by simpa using h)
    exact ⟨d, by simpa using h1, h2⟩
theorem dpm_int {M : List Addr} {H : Hp} {v : V} {i : Int} (h : DpM M H v (.int i)) : v = .int i := by cases h; rfl
theorem dpm_str {M : List Addr} {H : Hp} {v : V} {i : Str} (h : DpM M H v (.str i)) : v = .str i := by cases h; rfl
theorem dpm_tup {M : List Addr} {H : Hp} {v : V} {ds : List PyData} (h : DpM M H v (.tuple ds)) : ∃ a xs, v = .ref a ∧ H a = some (.tup xs) ∧ DpMs M H xs ds := by
  cases h with
  | tup h t => exact ⟨_, _, rfl, h, t⟩
theorem dpm_lst {M : List Addr} {H : Hp} {v : V} {ds : List PyData} (h : DpM M H v (.list ds)) : ∃ a xs, v = .ref a ∧ a ∉ M ∧ H a = some (.lst xs) ∧ DpMs M H xs ds := by
  cases h with
  | lst n h t => exact ⟨_, _, rfl, n, h, t⟩
theorem dpms_cons {M : List Addr} {H : Hp} {vs : List V} {d : PyData} {ds : List PyData} (h : DpMs M H vs (d :: ds)) : ∃ v ws, vs = v :: ws ∧ DpM M H v d ∧ DpMs M H ws ds := by
  cases h with
  | cons a t => exact ⟨_, _, rfl, a, t⟩
theorem dpms_nil {M : List Addr} {H : Hp} {vs : List V} (h : DpMs M H vs []) : vs = [] := by cases h; rfl
theorem dpms_intsV {M : List Addr} {H : Hp} : ∀ {vs : List V} {ns : List Int}, DpMs M H vs (fInts ns) → vs = ns.map V.int
  | _, [], .nil => rfl
  | _, n :: r, .cons h t => by
    cases h
    rw [dpms_intsV t, List.map_cons]
/-! ### tags: who is who among the addresses -/
def Al (H H' : Hp) : Prop := ∀ x, H x ≠ none → H' x ≠ none
theorem al_ex {H H' : Hp} (e : Ex H H') : Al H H' := fun x h z => by
  cases h1 : H x with
  | none => exact h h1
  | some o => rw [e _ _ h1] at z; cases z
theorem al_kp {M : List Addr} {H H' : Hp} (k : Kp M H H') (m : ∀ x, x ∈ M → H' x ≠ none) : Al H H' := fun x h z => by
  by_cases hx : x ∈ M
  · exact m x hx z
  · cases h1 : H x with
    | none => exact h h1
    | some o => rw [k.out _ _ hx h1] at z; cases z
theorem Al.trans {H H1 H2 : Hp} (a : Al H H1) (b : Al H1 H2) : Al H H2 := fun x h => b x (a x h)
theorem al_st {st c : Addr} {H H' : Hp} (k : Kp [st, c] H H') (s : StOk st c H') : Al H H' := al_kp k fun x hx => by
  obtain ⟨⟨ns, z, a, b, d⟩, e⟩ := s
  simp only [List.mem_cons, List.not_mem_nil, or_false] at hx
  rcases hx with rfl | rfl
  · exact fsome a
  · exact fsome b
abbrev Tau := Addr → Option (Nat × Nat)
def TgOk (τ : Tau) (H : Hp) : Prop := ∀ x t, τ x = some t → H x ≠ none
def TgLe (τ τ' : Tau) : Prop := ∀ x t, τ x = some t → τ' x = some t
theorem TgLe.refl (τ : Tau) : TgLe τ τ := fun _ _ h => h
theorem TgLe.trans {τ τ1 τ2 : Tau} (a : TgLe τ τ1) (b : TgLe τ1 τ2) : TgLe τ τ2 := fun x t h => b x t (a x t h)
theorem TgOk.al {τ : Tau} {H H' : Hp} (k : TgOk τ H) (a : Al H H') : TgOk τ H' := fun x t h => a x (k x t h)
theorem TgOk.nil {H : Hp} : TgOk (fun _ => none) H := fun x t h => by cases h
theorem tg_new {τ : Tau} {H H' : Hp} (k : TgOk τ H) (a : Al H H') {p : Addr} (n : H p = none) (s : H' p ≠ none) (t : Nat × Nat) : ∃ τ', TgLe τ τ' ∧ τ' p = some t ∧ TgOk τ' H' := by
  refine ⟨fun x => if x = p then some t else τ x, fun x u h => ?_, if_pos rfl, fun x u h => ?_⟩
  · have : x ≠ p := fun z => k x u h (by rw [z]; exact n)
    show (if x = p then some t else τ x) = some u
    rw [if_neg this]
    exact h
  · by_cases z : x = p
    · rw [z]; exact s
    · have h' : (if x = p then some t else τ x) = some u := h
      rw [if_neg z] at h'
      exact a x (k x u h')
theorem ne_tg {τ : Tau} {a b : Addr} {s t : Nat × Nat} (h : τ a = some s) (h' : τ b = some t) (n : s ≠ t) : a ≠ b := fun z => by
  rw [z, h'] at h
  exact n (Option.some.inj h).symm
/-- a family with one more -/
def fset (a : Nat → Addr) (i : Nat) (p : Addr) : Nat → Addr := fun k => if k = i then p else a k
theorem fset_eq {a : Nat → Addr} {i : Nat} {p : Addr} : fset a i p i = p := if_pos rfl
theorem fset_lt {a : Nat → Addr} {i k : Nat} {p : Addr} (h : k < i) : fset a i p k = a k := if_neg (by omega)
def frow (a : Nat → Addr) (n : Nat) : List V := (List.range n).map fun k => V.ref (a k)
theorem frow_len {a : Nat → Addr} {n : Nat} : (frow a n).length = n := by unfold frow; rw [List.length_map, List.length_range]
theorem frow_at {a : Nat → Addr} {n k : Nat} (h : k < n) : (frow a n)[k]? = some (.ref (a k)) := by
  unfold frow
  rw [List.getElem?_map, List.getElem?_range h]
  rfl
theorem frow_set {a : Nat → Addr} {i : Nat} {p : Addr} : frow (fset a i p) (i + 1) = frow a i ++ [.ref p] := by
  unfold frow
  rw [List.range_succ, List.map_append]
  congr 1
  · refine List.map_congr_left fun k hk => ?_
    rw [fset_lt (List.mem_range.mp hk)]
  · show [V.ref (fset a i p i)] = _
    rw [fset_eq]
theorem tg_fam {τ τ' : Tau} {f i : Nat} {a : Nat → Addr} {p : Addr} (le : TgLe τ τ') (h : ∀ k, k < i → τ (a k) = some (f, k)) (n : τ' p = some (f, i)) : ∀ k, k < i + 1 → τ' (fset a i p k) = some (f, k) := fun k hk => by
  by_cases c : k < i
  · rw [fset_lt c]; exact le _ _ (h k c)
  · have : k = i := by omega
    subst this
    rw [fset_eq]; exact n
theorem fam_step {P : Nat → Addr → Prop} {i : Nat} {a : Nat → Addr} {p : Addr} (h : ∀ k, k < i → P k (a k)) (n : P i p) : ∀ k, k < i + 1 → P k (fset a i p k) := fun k hk => by
  by_cases c : k < i
  · rw [fset_lt c]; exact h k c
  · have : k = i := by omega
    subst this
    rw [fset_eq]; exact n
theorem kp_upd {H H9 : Hp} {p : Addr} {xs : List V} {o' : HO} (h : H p = some (.lst xs)) (e : upd H p o' = H9) : Kp [p] H H9 := by
  rw [← e]
  exact kp_one h (by intro _ z; cases z)
local macro_rules | `(tactic| exists "ne1") => `(tactic| (refine ne_tg (τ := ?τ) (s := ?s) (t := ?t) ?a ?b ?n; (case a => assumption); (case b => assumption); (case n => intro z; have z1 := Prod.mk.inj z; omega)))
theorem tg0 {st c L : Addr} {H : Hp} (so : StOk st c H) (nL : L ∉ [st, c]) (h : H L ≠ none) : ∃ τ : Tau, τ st = some (7, 0) ∧ τ c = some (7, 1) ∧ τ L = some (8, 0) ∧ TgOk τ H := by
  obtain ⟨⟨ns, z, a, b, d⟩, e⟩ := so
  have h1 : L ≠ st := fun z => nL (by simp [z])
  have h2 : L ≠ c := fun z => nL (by simp [z])
  refine ⟨fun x => if x = st then some (7, 0) else if x = c then some (7, 1) else if x = L then some (8, 0) else none, if_pos rfl, ?_, ?_, fun x t hx => ?_⟩
  · show (if c = st then _ else _) = _
    rw [if_neg e, if_pos rfl]
  · show (if L = st then _ else _) = _
    rw [if_neg h1, if_neg h2, if_pos rfl]
  · have hx' : (if x = st then some (7, 0) else if x = c then some (7, 1) else if x = L then some (8, 0) else none) = some t := hx
    by_cases q1 : x = st
    · rw [q1]; exact fsome a
    · rw [if_neg q1] at hx'
      by_cases q2 : x = c
      · rw [q2]; exact fsome b
      · rw [if_neg q2] at hx'
        by_cases q3 : x = L
        · rw [q3]; exact h
        · rw [if_neg q3] at hx'; cases hx'
/-- a dict by channels -/
def krow (a : Nat → Addr) (n : Nat) : List (Key × V) := (List.range n).map fun (k : Nat) => (Sum.inl (k : Int), V.ref (a k))
theorem krow_find {a : Nat → Addr} {k : Nat} : ∀ n, valV (krow a n) (Sum.inl (k : Int)) = if k < n then some (.ref (a k)) else none
  | 0 => by rw [if_neg (Nat.not_lt_zero k)]; simp [krow, valV]
  | n + 1 => by
    have ih := krow_find (a := a) (k := k) n
    unfold valV krow at ih ⊢
    rw [List.range_succ, List.map_append, List.find?_append]
    by_cases c : k < n
    · rw [if_pos c] at ih
      rw [if_pos (by omega)]
      obtain ⟨x, hx, hv⟩ := Option.map_eq_some_iff.mp ih
      rw [hx]
      exact congrArg some hv
    · rw [if_neg c] at ih
      rw [Option.map_eq_none_iff.mp ih]
      by_cases d : k = n
      · subst d
        rw [if_pos (by omega)]
        simp
      · rw [if_neg (by omega)]
        have : ¬ (n : Int) = (k : Int) := by omega
        simp [this]
theorem krow_put {a : Nat → Addr} {i : Nat} {p : Addr} : putK (krow a i) (Sum.inl ((0 : Int) + (i : Int))) (.ref p) = krow (fset a i p) (i + 1) := by
  rw [Int.zero_add, putK_new _ (by rw [krow_find, if_neg (Nat.lt_irrefl i)])]
  unfold krow
  rw [List.range_succ, List.map_append]
  congr 1
  · refine List.map_congr_left fun k hk => ?_
    rw [fset_lt (List.mem_range.mp hk)]
  · show [_] = [(Sum.inl (i : Int), V.ref (fset a i p i))]
    rw [fset_eq]
theorem krow_len {a : Nat → Addr} {n : Nat} : (krow a n).length = n := by unfold krow; rw [List.length_map, List.length_range]
theorem frow_atI {a : Nat → Addr} {n k : Nat} (h : k < n) : atI (frow a n) ((0 : Int) + (k : Int)) = some (.ref (a k)) := by
  rw [Int.zero_add]
  exact atI_nat (frow_at h)
theorem atI_0 {α : Type} {xs : List α} {k : Nat} {x : α} (h : xs[k]? = some x) : atI xs ((0 : Int) + (k : Int)) = some x := by
  rw [Int.zero_add]
  exact atI_nat h
theorem TgOk.none {τ : Tau} {H : Hp} (k : TgOk τ H) {p : Addr} (n : H p = none) : τ p = none := by
  cases h : τ p with
  | none => rfl
  | some t => exact absurd n (k p t h)
theorem tg_add {τ : Tau} {H' : Hp} (k : TgOk τ H') {p : Addr} (n : τ p = none) (s : H' p ≠ none) (t : Nat × Nat) : ∃ τ', TgLe τ τ' ∧ τ' p = some t ∧ TgOk τ' H' ∧ ∀ x, x ≠ p → τ x = none → τ' x = none := by
  refine ⟨fun x => if x = p then some t else τ x, fun x u h => ?_, if_pos rfl, fun x u h => ?_, fun x hx h => ?_⟩
  · have : x ≠ p := fun z => by rw [z, n] at h; cases h
    show (if x = p then some t else τ x) = some u
    rw [if_neg this]
    exact h
  · by_cases z : x = p
    · rw [z]; exact s
    · have h' : (if x = p then some t else τ x) = some u := h
      rw [if_neg z] at h'
      exact k x u h'
  · show (if x = p then some t else τ x) = none
    rw [if_neg hx]
    exact h
/-- a family of new lists that a comprehension makes -/
def FamG (τ1 : Tau) (f : Nat) (H3 : Hp) (D : Addr) (g : Nat → List V) (i : Nat) (H' : Hp) : Prop := ∃ (τ : Tau) (a : Nat → Addr), TgLe τ1 τ ∧ TgOk τ H' ∧ (∀ k, k < i → τ (a k) = some (f, k)) ∧ Ex H3 H' ∧ H' D = some (.lst (frow a i)) ∧ ∀ k, k < i → H' (a k) = some (.lst (g k))
theorem FamG.zero {τ1 : Tau} {f d : Nat} {H3 : Hp} {D : Addr} {g : Nat → List V} (tg : TgOk τ1 H3) (hD : H3 D = none) : ∃ τ2, TgLe τ1 τ2 ∧ τ2 D = some (8, d) ∧ FamG τ2 f H3 D g 0 (upd H3 D (.lst [])) := by
  obtain ⟨τ2, le2, t2, tg2⟩ := tg_new tg (al_ex (Ex.mk (o := .lst []) hD rfl)) hD (fsome upd_same) (8, d)
  exact ⟨τ2, le2, t2, τ2, fun _ => 0, TgLe.refl _, tg2, fun k hk => absurd hk (Nat.not_lt_zero k), Ex.mk hD rfl, upd_same, fun k hk => absurd hk (Nat.not_lt_zero k)⟩
theorem FamG.step {τ1 : Tau} {f d i : Nat} {H3 H4 H5 : Hp} {D p : Addr} {g : Nat → List V} (hD : H3 D = none) (tD : τ1 D = some (8, d)) (nf : f ≠ 8) (h : FamG τ1 f H3 D g i H4) (e : Ex H4 H5) (np : H4 p = none) (hp : H5 p = some (.lst (g i))) (li : i ≤ 1000) :
    ∃ acc, H5 D = some (.lst acc) ∧ acc.length < sizeLine ∧ FamG τ1 f H3 D g (i + 1) (upd H5 D (.lst (acc ++ [.ref p]))) := by
  obtain ⟨τ, a, le, tg, ta, k3, hD4, hg⟩ := h
  have hD5 := e _ _ hD4
  refine ⟨_, hD5, sl1000' (by rw [frow_len]; omega), ?_⟩
  generalize hq : upd H5 D _ = H9
  have k9 := kp_upd hD5 hq
  have h9 := at_new hq
  have npD : p ≠ D := (ne_of_none hD4 np).symm
  have a9 : Al H4 H9 := (al_ex e).trans (al_kp k9 fun x hx => by rw [List.mem_singleton.mp hx]; exact fsome h9)
  have hp9 : H9 p = some (.lst (g i)) := k9.out _ _ (nin_c npD List.not_mem_nil) hp
  obtain ⟨τ', le', tp', tg'⟩ := tg_new tg a9 np (fsome hp9) (f, i)
  refine ⟨τ', fset a i p, le.trans le', tg', tg_fam le' ta tp', ?_, by rw [h9, frow_set], fam_step (P := fun k x => H9 x = some (.lst (g k))) (fun k hk => ?_) hp9⟩
  · exact fun b u hb => k9.out _ _ (nin_c (ne_of_none hb hD) List.not_mem_nil) (e _ _ (k3 _ _ hb))
  · refine k9.out _ _ (nin_c (ne_tg (ta k hk) (le _ _ tD) (fun z => nf (Prod.mk.inj z).1)) List.not_mem_nil) (e _ _ (hg k hk))
theorem pk_int {xs : List Int} {i : Nat} {v : V} (h : (xs.map V.int)[i]? = some v) : ∃ k, k ∈ xs ∧ v = .int k := by
  obtain ⟨k, hk, e⟩ := List.mem_map.mp (List.mem_of_getElem? h)
  exact ⟨k, hk, e.symm⟩
abbrev s__law_number : Stmt := topS 24
theorem sc__law_number : FnScope ["_law_state_here"] ["_law_state_here"] (defScope s__law_number) := ⟨rfl, rfl, rfl, by decide +kernel, rfl, by decide +kernel, by decide +kernel⟩
abbrev p__law_number : List Str := ["_law_state_here"]
abbrev s__law_operator : Stmt := topS 25
theorem sc__law_operator : FnScope ["_law_state_here"] ["_law_state_here"] (defScope s__law_operator) := ⟨rfl, rfl, rfl, by decide +kernel, rfl, by decide +kernel, by decide +kernel⟩
abbrev p__law_operator : List Str := ["_law_state_here"]
abbrev s__law_index : Stmt := topS 26
theorem sc__law_index : FnScope ["_law_state_here", "_law_env_here", "_law_size", "_law_cell"] ["_law_state_here", "_law_env_here", "_law_size"] (defScope s__law_index) := ⟨rfl, rfl, rfl, by decide +kernel, rfl, by decide +kernel, by decide +kernel⟩
abbrev p__law_index : List Str := ["_law_state_here", "_law_env_here", "_law_size"]
abbrev s__law_read : Stmt := topS 27
theorem sc__law_read : FnScope ["_law_state_here", "_law_env_here", "_law_first", "_law_size"] ["_law_state_here", "_law_env_here"] (defScope s__law_read) := ⟨rfl, rfl, rfl, by decide +kernel, rfl, by decide +kernel, by decide +kernel⟩
abbrev p__law_read : List Str := ["_law_state_here", "_law_env_here"]
abbrev s__law_expression : Stmt := topS 28
theorem sc__law_expression : FnScope ["_law_state_here", "_law_env_here", "_law_deep", "_law_kind", "_law_first"] ["_law_state_here", "_law_env_here", "_law_deep"] (defScope s__law_expression) := ⟨rfl, rfl, rfl, by decide +kernel, rfl, by decide +kernel, by decide +kernel⟩
abbrev p__law_expression : List Str := ["_law_state_here", "_law_env_here", "_law_deep"]
abbrev s__law_target : Stmt := topS 29
theorem sc__law_target : FnScope ["_law_state_here", "_law_env_here", "_law_first", "_law_size"] ["_law_state_here", "_law_env_here"] (defScope s__law_target) := ⟨rfl, rfl, rfl, by decide +kernel, rfl, by decide +kernel, by decide +kernel⟩
abbrev p__law_target : List Str := ["_law_state_here", "_law_env_here"]
/-! ### expressions over sets of cells: R those that are read, W those that are written -/
def Tm.fit (R : Int → Prop) : Tm → Prop
  | .num k => 0 ≤ k ∧ k < 65536
  | .cell k => R k
  | .at f s e => 0 < s ∧ s < 5 ∧ (∀ i, f ≤ i → i < f + s → R i) ∧ e.fit R
  | .neg e => e.fit R
  | .not e => e.fit R
  | .bin _ a b => a.fit R ∧ b.fit R
def Tm.aim (W R : Int → Prop) : Tm → Prop
  | .cell k => W k
  | .at f s e => 0 < s ∧ s < 5 ∧ (∀ i, f ≤ i → i < f + s → W i) ∧ e.fit R
  | _ => False
theorem Tm.fit.mono {R S : Int → Prop} (h : ∀ k, R k → S k) : ∀ {e : Tm}, e.fit R → e.fit S
  | .num _, a => a
  | .cell _, a => h _ a
  | .at _ _ _, a => ⟨a.1, a.2.1, fun i p q => h _ (a.2.2.1 i p q), Tm.fit.mono h a.2.2.2⟩
  | .neg e, a => Tm.fit.mono (e := e) h a
  | .not e, a => Tm.fit.mono (e := e) h a
  | .bin _ _ _, a => ⟨Tm.fit.mono h a.1, Tm.fit.mono h a.2⟩
theorem Tm.aim.mono {W V R S : Int → Prop} (h : ∀ k, R k → S k) (g : ∀ k, W k → V k) : ∀ {e : Tm}, e.aim W R → e.aim V S
  | .cell _, a => g _ a
  | .at _ _ _, a => ⟨a.1, a.2.1, fun i p q => g _ (a.2.2.1 i p q), Tm.fit.mono h a.2.2.2⟩
theorem Tm.aim.tgt {W R : Int → Prop} : ∀ {e : Tm}, e.aim W R → e.tgt
  | .cell _, _ => trivial
  | .at _ _ _, _ => trivial
theorem Tm.fit.ok {R : Int → Prop} {n : Int} (h : ∀ k, R k → 0 ≤ k ∧ k < n) : ∀ {e : Tm}, e.fit R → e.ok n
  | .num _, a => a
  | .cell _, a => h _ a
  | .at f s _, a => ⟨(h f (a.2.2.1 f (by omega) (by have := a.1; omega))).1, a.1, by have := (h (f + s - 1) (a.2.2.1 (f + s - 1) (by have := a.1; omega) (by omega))).2; omega, Tm.fit.ok h a.2.2.2⟩
  | .neg e, a => Tm.fit.ok (e := e) h a
  | .not e, a => Tm.fit.ok (e := e) h a
  | .bin _ _ _, a => ⟨Tm.fit.ok h a.1, Tm.fit.ok h a.2⟩
theorem Tm.aim.fit {W R S : Int → Prop} (g : ∀ k, W k → S k) (h : ∀ k, R k → S k) : ∀ {e : Tm}, e.aim W R → e.fit S
  | .cell _, a => g _ a
  | .at _ _ _, a => ⟨a.1, a.2.1, fun i p q => g _ (a.2.2.1 i p q), Tm.fit.mono h a.2.2.2⟩
/-- what an env holds: cells, reads, spans; none of its objects is among M -/
structure EnvS (W R : Int → Prop) (M : List Addr) (e : Addr) (H : Hp) : Prop where
  ex : ∃ (kvs : List (Key × V)) (ca ra sa : Addr) (cells reads : List Int) (spans : List V), H e = some (.dK kvs) ∧ valV kvs (Sum.inr "cells") = some (.ref ca) ∧ valV kvs (Sum.inr "reads") = some (.ref ra) ∧ valV kvs (Sum.inr "spans") = some (.ref sa) ∧
    H ca = some (.lst (cells.map V.int)) ∧ H ra = some (.lst (reads.map V.int)) ∧ H sa = some (.lst spans) ∧ (∀ k ∈ cells, W k ∧ R k) ∧ (∀ k ∈ reads, R k) ∧
    (∀ v ∈ spans, ∃ p f s, v = V.ref p ∧ H p = some (HO.tup [.int f, .int s]) ∧ 0 < s ∧ s < 5 ∧ ∀ i, f ≤ i → i < f + s → W i ∧ R i) ∧ 0 < cells.length ∧ 0 < reads.length ∧ cells.length < 1000 ∧ reads.length < 1000 ∧ spans.length < 1000 ∧
    e ∉ M ∧ ca ∉ M ∧ ra ∉ M ∧ sa ∉ M
abbrev EnvOk (W R : Int → Prop) (st c e : Addr) (H : Hp) : Prop := EnvS W R [st, c] e H
theorem env_kp {W R : Int → Prop} {M : List Addr} {e : Addr} {H H' : Hp} (k : Kp M H H') (h : EnvS W R M e H) : EnvS W R M e H' := by
  obtain ⟨kvs, ca, ra, sa, cells, reads, spans, h1, h2, h3, h4, h5, h6, h7, h8, h9, h10, h11, h12, l1, l2, l3, m1, m2, m3, m4⟩ := h
  refine ⟨kvs, ca, ra, sa, cells, reads, spans, k.out _ _ m1 h1, h2, h3, h4, k.out _ _ m2 h5, k.out _ _ m3 h6, k.out _ _ m4 h7, h8, h9, fun v hv => ?_, h11, h12, l1, l2, l3, m1, m2, m3, m4⟩
  obtain ⟨p, f, s, e, a, b⟩ := h10 v hv
  exact ⟨p, f, s, e, k.tup _ _ a, b⟩
theorem env_ex {W R : Int → Prop} {M : List Addr} {e : Addr} {H H' : Hp} (k : Ex H H') (h : EnvS W R M e H) : EnvS W R M e H' := env_kp k.kp h
theorem env_sub {W R : Int → Prop} {M N : List Addr} {e : Addr} {H : Hp} (s : ∀ x, x ∈ N → x ∈ M) (h : EnvS W R M e H) : EnvS W R N e H := by
  obtain ⟨kvs, ca, ra, sa, cells, reads, spans, h1, h2, h3, h4, h5, h6, h7, h8, h9, h10, h11, h12, l1, l2, l3, m1, m2, m3, m4⟩ := h
  exact ⟨kvs, ca, ra, sa, cells, reads, spans, h1, h2, h3, h4, h5, h6, h7, h8, h9, h10, h11, h12, l1, l2, l3, fun z => m1 (s _ z), fun z => m2 (s _ z), fun z => m3 (s _ z), fun z => m4 (s _ z)⟩
local macro_rules | `(tactic| subst "env") => `(tactic| (refine env_kp (by assumption) ?_; subst "env"))
local macro_rules | `(tactic| subst "env") => `(tactic| (refine env_ex (by assumption) ?_; subst "env"))
local macro_rules | `(tactic| subst "env") => `(tactic| assumption)
local macro_rules | `(tactic| subst "tm") => `(tactic| (refine tm_kp (by assumption) ?_; subst "tm"))
local macro_rules | `(tactic| subst "tm") => `(tactic| (refine tm_ex (by assumption) ?_; subst "tm"))
local macro_rules | `(tactic| subst "tm") => `(tactic| assumption)
def sp_number : Sp := fun vs H Q _ => ∃ (st c : Addr), vs = [.ref st] ∧ StOk st c H ∧ ∀ (k : Int) (v : V) (H' : Hp), 0 ≤ k → k < 65536 → (Tm.num k).In H' v → Kp [st, c] H H' → StOk st c H' → Q v H'
theorem ok_number (T : Glo K w mg) (D : Dn K mg "_law_number" s__law_number p__law_number) (G__law_draw : Cal P w K mg base "_law_draw" 1 p__law_draw sp_draw) (G__law_pick : Cal P w K mg base "_law_pick" 2 p__law_pick (sp_pick K)) :
    Cal P w K mg base "_law_number" 3 p__law_number sp_number := by
  refine D.ok sc__law_number (fun vs H Q E h => ?_) (fun f cdv A outer s H vs Q E hr h => ?_)
  · obtain ⟨_, _, rfl, _⟩ := h
    rfl
  obtain ⟨st, c, rfl, so, q⟩ := h
  refine ⟨_, (pss_one (ps_ret (pe_tup (pa_cons pe_str (pa_cons (pe_cal G__law_pick (hr.mono (by (first | subst "lev" | fail))) rfl (pa_cons (pv 0) (pa_cons (pe_lst (pa_cons pe_int (pa_cons pe_int (pa_cons pe_int (pa_cons pe_int (pa_cons (pe_cal G__law_draw (hr.mono (by (first | subst "lev" | fail))) rfl (pa_cons (pv 0) (pa_cons pe_int pa_nil))) (pa_cons pe_int (pa_cons (pe_cal G__law_draw (hr.mono (by (first | subst "lev" | fail))) rfl (pa_cons (pv 0) (pa_cons pe_int pa_nil))) pa_nil)))))))) pa_nil))) pa_nil))))), ?_⟩
  try dsimp only [cxOf, Cx.nox]
  repeat' (first | specialize "st" | fail)
  have hv := List.mem_of_getElem? ej
  simp only [List.mem_cons, List.not_mem_nil, or_false] at hv
  have hk : ∃ k, v = .int k ∧ 0 ≤ k ∧ k < 65536 := by
    rcases hv with rfl | rfl | rfl | rfl | rfl | rfl | rfl <;> exact ⟨_, rfl, by omega, by omega⟩
  obtain ⟨k, rfl, k0, k1⟩ := hk
  exact q k _ _ k0 k1 ⟨_, rfl, hn⟩ (by (first | subst "kp" | fail)) (by (first | subst "st_ok" | fail))
theorem c_number {st c : Addr} {H : Hp} {Q : VK} {E : XK} (h1 : StOk st c H) (q : ∀ (k : Int) (v : V) (H' : Hp), 0 ≤ k → k < 65536 → (Tm.num k).In H' v → Kp [st, c] H H' → StOk st c H' → Q v H') : sp_number [.ref st] H Q E := ⟨st, c, rfl, h1, q⟩
set_option hygiene false in
local macro_rules | `(tactic| subst "i_c_number") => `(tactic| intro nk v Hn k0 k1 iv ke so)
local macro_rules | `(tactic| injection "own") => `(tactic| (refine c_number (c := ?c) ?a ?_; (case a => subst "st_ok"); subst "i_c_number"))
def sp_operator : Sp := fun vs H Q _ => ∃ (st c : Addr), vs = [.ref st] ∧ StOk st c H ∧ ∀ (o : Op) (H' : Hp), Kp [st, c] H H' → StOk st c H' → Q (.str o.str) H'
theorem ok_operator (T : Glo K w mg) (D : Dn K mg "_law_operator" s__law_operator p__law_operator) (G__law_draw : Cal P w K mg base "_law_draw" 1 p__law_draw sp_draw) (G__law_pick : Cal P w K mg base "_law_pick" 2 p__law_pick (sp_pick K)) :
    Cal P w K mg base "_law_operator" 3 p__law_operator sp_operator := by
  refine D.ok sc__law_operator (fun vs H Q E h => ?_) (fun f cdv A outer s H vs Q E hr h => ?_)
  · obtain ⟨_, _, rfl, _⟩ := h
    rfl
  obtain ⟨st, c, rfl, so, q⟩ := h
  refine ⟨_, (pss_one (ps_ret (pe_cal G__law_pick (hr.mono (by (first | subst "lev" | fail))) rfl (pa_cons (pv 0) (pa_cons (pe_lst (pa_cons pe_str (pa_cons pe_str (pa_cons pe_str (pa_cons pe_str (pa_cons pe_str (pa_cons pe_str (pa_cons pe_str (pa_cons pe_str (pa_cons pe_str (pa_cons pe_str (pa_cons pe_str (pa_cons pe_str (pa_cons (pe_cal G__law_pick (hr.mono (by (first | subst "lev" | fail))) rfl (pa_cons (pv 0) (pa_cons (pe_lst (pa_cons pe_str (pa_cons pe_str pa_nil))) pa_nil))) pa_nil)))))))))))))) pa_nil))))), ?_⟩
  try dsimp only [cxOf, Cx.nox]
  repeat' (first | specialize "st" | fail)
  rename_i j1 v1 H2 ej1 k1 s1 H3 k3
  have hw := List.mem_of_getElem? ej1
  have hv := List.mem_of_getElem? ej
  simp only [List.mem_cons, List.not_mem_nil, or_false] at hv hw
  have hk : ∃ o : Op, v = .str o.str := by
    rcases hv with rfl | rfl | rfl | rfl | rfl | rfl | rfl | rfl | rfl | rfl | rfl | rfl | rfl
    · exact ⟨.add, rfl⟩
    · exact ⟨.sub, rfl⟩
    · exact ⟨.mul, rfl⟩
    · exact ⟨.add, rfl⟩
    · exact ⟨.sub, rfl⟩
    · exact ⟨.and, rfl⟩
    · exact ⟨.or, rfl⟩
    · exact ⟨.eq, rfl⟩
    · exact ⟨.ne, rfl⟩
    · exact ⟨.lt, rfl⟩
    · exact ⟨.le, rfl⟩
    · exact ⟨.add, rfl⟩
    · rcases hw with rfl | rfl
      · exact ⟨.div, rfl⟩
      · exact ⟨.mod, rfl⟩
  obtain ⟨o, rfl⟩ := hk
  exact q o _ (by (first | subst "kp" | fail)) (by (first | subst "st_ok" | fail))
theorem c_operator {st c : Addr} {H : Hp} {Q : VK} {E : XK} (h1 : StOk st c H) (q : ∀ (o : Op) (H' : Hp), Kp [st, c] H H' → StOk st c H' → Q (.str o.str) H') : sp_operator [.ref st] H Q E := ⟨st, c, rfl, h1, q⟩
set_option hygiene false in
local macro_rules | `(tactic| subst "i_c_operator") => `(tactic| intro o Hn ke so)
local macro_rules | `(tactic| injection "own") => `(tactic| (refine c_operator (c := ?c) ?a ?_; (case a => subst "st_ok"); subst "i_c_operator"))
def sp_index : Sp := fun vs H Q _ => ∃ (W R : Int → Prop) (st c e : Addr) (s : Int), vs = [.ref st, .ref e, .int s] ∧ StOk st c H ∧ EnvOk W R st c e H ∧ 0 < s ∧ s < 65536 ∧ ∀ (t : Tm) (v : V) (H' : Hp), t.In H' v → t.fit R → t.deep ≤ 2 → Kp [st, c] H H' → StOk st c H' → Q v H'
theorem ok_index (T : Glo K w mg) (D : Dn K mg "_law_index" s__law_index p__law_index) (G__law_draw : Cal P w K mg base "_law_draw" 1 p__law_draw sp_draw) (G__law_pick : Cal P w K mg base "_law_pick" 2 p__law_pick (sp_pick K)) :
    Cal P w K mg base "_law_index" 3 p__law_index (sp_index) := by
  refine D.ok sc__law_index (fun vs H Q E h => ?_) (fun f cdv A outer s H vs Q E hr h => ?_)
  · obtain ⟨_, _, _, _, _, _, rfl, _⟩ := h
    rfl
  obtain ⟨W, R, st, c, e, s, rfl, so, en, s0, s1, q⟩ := h
  refine ⟨_, (pss_cons (ps_set (i := 3) sc__law_index.nd rfl (by first | exact Or.inl rfl | exact Or.inr rfl) (pe_tup (pa_cons pe_str (pa_cons (pe_cal G__law_pick (hr.mono (by (first | subst "lev" | fail))) rfl (pa_cons (pv 0) (pa_cons (pe_dget (hu_of hr) (pv 1) pe_str (fun _ _ => rfl)) pa_nil))) pa_nil)))) (pss_one (ps_ret (pe_ifExp (pt_cmpR (op_eqA (hu64 hr)) (pe_cal G__law_draw (hr.mono (by (first | subst "lev" | fail))) rfl (pa_cons (pv 0) (pa_cons pe_int pa_nil))) pe_int (nomark _)) (pv 3) (pe_tup (pa_cons pe_str (pa_cons (pv 3) (pa_cons (pe_tup (pa_cons pe_str (pa_cons (pv 2) pa_nil))) pa_nil)))))))), ?_⟩
  try dsimp only [cxOf, Cx.nox]
  obtain ⟨kvs, ca, ra, sa, cells, reads, spans, h1, h2, h3, h4, h5, h6, h7, h8, h9, h10, l0, l1, l2, l3, l4, m1, m2, m3, m4⟩ := en
  repeat' (first | specialize "st" | fail)
  all_goals (obtain ⟨k, hk, rfl⟩ := pk_int (by assumption : (reads.map V.int)[_]? = some _))
  all_goals have hb := h9 k hk
  · exact q (.cell k) _ _ ⟨_, rfl, by (first | exists "lift" | fail)⟩ hb (by simp [Tm.deep]) (by (first | subst "kp" | fail)) (by (first | subst "st_ok" | fail))
  · exact q (.bin .mod (.cell k) (.num s)) _ _ ⟨_, _, _, rfl, by assumption, ⟨_, rfl, by (first | exists "lift" | fail)⟩, ⟨_, rfl, by (first | exists "lift" | fail)⟩⟩ ⟨hb, by omega, by omega⟩ (by simp [Tm.deep]) (by (first | subst "kp" | fail)) (by (first | subst "st_ok" | fail))
theorem c_index {W R : Int → Prop} {st c e : Addr} {s : Int} {H : Hp} {Q : VK} {E : XK} (h1 : StOk st c H) (h2 : EnvOk W R st c e H) (h3 : 0 < s ∧ s < 65536) (q : ∀ (t : Tm) (v : V) (H' : Hp), t.In H' v → t.fit R → t.deep ≤ 2 → Kp [st, c] H H' → StOk st c H' → Q v H') :
    sp_index [.ref st, .ref e, .int s] H Q E := ⟨W, R, st, c, e, s, rfl, h1, h2, h3.1, h3.2, q⟩
set_option hygiene false in
local macro_rules | `(tactic| subst "i_c_index") => `(tactic| intro t v Hn iv ok td ke so)
local macro_rules | `(tactic| injection "own") => `(tactic| (refine c_index (W := ?W) (R := ?R) (c := ?c) ?a ?b ?d ?_; (case a => subst "st_ok"); (case b => subst "env"); (case d => refine And.intro ?_ ?_ <;> omega); subst "i_c_index"))
def sp_read : Sp := fun vs H Q _ => ∃ (W R : Int → Prop) (st c e : Addr), vs = [.ref st, .ref e] ∧ StOk st c H ∧ EnvOk W R st c e H ∧ ∀ (t : Tm) (v : V) (H' : Hp), t.In H' v → t.fit R → t.deep ≤ 3 → Kp [st, c] H H' → StOk st c H' → Q v H'
theorem ok_read (T : Glo K w mg) (D : Dn K mg "_law_read" s__law_read p__law_read) (G__law_draw : Cal P w K mg base "_law_draw" 1 p__law_draw sp_draw) (G__law_pick : Cal P w K mg base "_law_pick" 2 p__law_pick (sp_pick K))
    (G__law_index : Cal P w K mg base "_law_index" 3 p__law_index (sp_index)) : Cal P w K mg base "_law_read" 4 p__law_read (sp_read) := by
  refine D.ok sc__law_read (fun vs H Q E h => ?_) (fun f cdv A outer s H vs Q E hr h => ?_)
  · obtain ⟨_, _, _, _, _, rfl, _⟩ := h
    rfl
  obtain ⟨W, R, st, c, e, rfl, so, en, q⟩ := h
  refine ⟨_, (pss_cons (ps_if (PW.pt (pw_and (pt_cmpR op_gt (pe_callB call_lenA rfl T.n_len (by decide +kernel) (pa_cons (pe_dget (hu_of hr) (pv 1) pe_str (fun _ _ => rfl)) pa_nil)) pe_int (nomark _)) (pw_and1 (pt_cmpR (op_eqA (hu64 hr)) (pe_cal G__law_draw (hr.mono (by (first | subst "lev" | fail))) rfl (pa_cons (pv 0) (pa_cons pe_int pa_nil))) pe_int (nomark _))))) (pss_cons (ps_asg (pe_cal G__law_pick (hr.mono (by (first | subst "lev" | fail))) rfl (pa_cons (pv 0) (pa_cons (pe_dget (hu_of hr) (pv 1) pe_str (fun _ _ => rfl)) pa_nil))) (pg_tup rfl (pgs_cons (pg_name (i := 2) sc__law_read.nd rfl (by first | exact Or.inl rfl | exact Or.inr rfl)) (pgs_cons (pg_name (i := 3) sc__law_read.nd rfl (by first | exact Or.inl rfl | exact Or.inr rfl)) pgs_nil)))) (pss_one (ps_ret (pe_tup (pa_cons pe_str (pa_cons (pv 2) (pa_cons (pv 3) (pa_cons (pe_cal G__law_index (hr.mono (by (first | subst "lev" | fail))) rfl (pa_cons (pv 0) (pa_cons (pv 1) (pa_cons (pv 3) pa_nil)))) pa_nil)))))))) pss_nil) (pss_one (ps_ret (pe_tup (pa_cons pe_str (pa_cons (pe_cal G__law_pick (hr.mono (by (first | subst "lev" | fail))) rfl (pa_cons (pv 0) (pa_cons (pe_dget (hu_of hr) (pv 1) pe_str (fun _ _ => rfl)) pa_nil))) pa_nil)))))), ?_⟩
  try dsimp only [cxOf, Cx.nox]
  have en0 := en
  obtain ⟨kvs, ca, ra, sa, cells, reads, spans, h1, h2, h3, h4, h5, h6, h7, h8, h9, h10, l0, l1, l2, l3, l4, m1, m2, m3, m4⟩ := en
  repeat' (first | specialize "st" | fail)
  · obtain ⟨p, fi, sz, rfl, hp, b0, b1, b2⟩ := h10 v (List.mem_of_getElem? ej)
    repeat' (first | specialize "st" | fail)
    exact q (.at fi sz t) _ _ ⟨_, _, rfl, by assumption, by (first | subst "tm" | fail)⟩ ⟨b0, b1, fun i x y => (b2 i x y).2, ok⟩ (by simp only [Tm.deep]; omega) (by (first | subst "kp" | fail)) (by (first | subst "st_ok" | fail))
  all_goals (obtain ⟨k, hk, rfl⟩ := pk_int (by assumption : (reads.map V.int)[_]? = some _))
  all_goals have hb := h9 k hk
  all_goals exact q (.cell k) _ _ ⟨_, rfl, by assumption⟩ hb (by simp [Tm.deep]) (by (first | subst "kp" | fail)) (by (first | subst "st_ok" | fail))
theorem c_read {W R : Int → Prop} {st c e : Addr} {H : Hp} {Q : VK} {E : XK} (h1 : StOk st c H) (h2 : EnvOk W R st c e H) (q : ∀ (t : Tm) (v : V) (H' : Hp), t.In H' v → t.fit R → t.deep ≤ 3 → Kp [st, c] H H' → StOk st c H' → Q v H') :
    sp_read [.ref st, .ref e] H Q E := ⟨W, R, st, c, e, rfl, h1, h2, q⟩
set_option hygiene false in
local macro_rules | `(tactic| subst "i_c_read") => `(tactic| intro t v Hn iv ok td ke so)
local macro_rules | `(tactic| injection "own") => `(tactic| (refine c_read (W := ?W) (R := ?R) (c := ?c) ?a ?b ?_; (case a => subst "st_ok"); (case b => subst "env"); subst "i_c_read"))
def sp_target : Sp := fun vs H Q _ => ∃ (W R : Int → Prop) (st c e : Addr), vs = [.ref st, .ref e] ∧ StOk st c H ∧ EnvOk W R st c e H ∧ ∀ (t : Tm) (v : V) (H' : Hp), t.In H' v → t.aim W R → t.deep ≤ 3 → Kp [st, c] H H' → StOk st c H' → Q v H'
theorem ok_target (T : Glo K w mg) (D : Dn K mg "_law_target" s__law_target p__law_target) (G__law_draw : Cal P w K mg base "_law_draw" 1 p__law_draw sp_draw) (G__law_pick : Cal P w K mg base "_law_pick" 2 p__law_pick (sp_pick K))
    (G__law_index : Cal P w K mg base "_law_index" 3 p__law_index (sp_index)) : Cal P w K mg base "_law_target" 4 p__law_target sp_target := by
  refine D.ok sc__law_target (fun vs H Q E h => ?_) (fun f cdv A outer s H vs Q E hr h => ?_)
  · obtain ⟨_, _, _, _, _, rfl, _⟩ := h
    rfl
  obtain ⟨W, R, st, c, e, rfl, so, en, q⟩ := h
  refine ⟨_, (pss_cons (ps_if (PW.pt (pw_and (pt_cmpR op_gt (pe_callB call_lenA rfl T.n_len (by decide +kernel) (pa_cons (pe_dget (hu_of hr) (pv 1) pe_str (fun _ _ => rfl)) pa_nil)) pe_int (nomark _)) (pw_and1 (pt_cmpR (op_eqA (hu64 hr)) (pe_cal G__law_draw (hr.mono (by (first | subst "lev" | fail))) rfl (pa_cons (pv 0) (pa_cons pe_int pa_nil))) pe_int (nomark _))))) (pss_cons (ps_asg (pe_cal G__law_pick (hr.mono (by (first | subst "lev" | fail))) rfl (pa_cons (pv 0) (pa_cons (pe_dget (hu_of hr) (pv 1) pe_str (fun _ _ => rfl)) pa_nil))) (pg_tup rfl (pgs_cons (pg_name (i := 2) sc__law_target.nd rfl (by first | exact Or.inl rfl | exact Or.inr rfl)) (pgs_cons (pg_name (i := 3) sc__law_target.nd rfl (by first | exact Or.inl rfl | exact Or.inr rfl)) pgs_nil)))) (pss_one (ps_ret (pe_tup (pa_cons pe_str (pa_cons (pv 2) (pa_cons (pv 3) (pa_cons (pe_cal G__law_index (hr.mono (by (first | subst "lev" | fail))) rfl (pa_cons (pv 0) (pa_cons (pv 1) (pa_cons (pv 3) pa_nil)))) pa_nil)))))))) pss_nil) (pss_one (ps_ret (pe_tup (pa_cons pe_str (pa_cons (pe_cal G__law_pick (hr.mono (by (first | subst "lev" | fail))) rfl (pa_cons (pv 0) (pa_cons (pe_dget (hu_of hr) (pv 1) pe_str (fun _ _ => rfl)) pa_nil))) pa_nil)))))), ?_⟩
  try dsimp only [cxOf, Cx.nox]
  have en0 := en
  obtain ⟨kvs, ca, ra, sa, cells, reads, spans, h1, h2, h3, h4, h5, h6, h7, h8, h9, h10, l0, l1, l2, l3, l4, m1, m2, m3, m4⟩ := en
  repeat' (first | specialize "st" | fail)
  · obtain ⟨p, fi, sz, rfl, hp, b0, b1, b2⟩ := h10 v (List.mem_of_getElem? ej)
    repeat' (first | specialize "st" | fail)
    exact q (.at fi sz t) _ _ ⟨_, _, rfl, by assumption, by (first | subst "tm" | fail)⟩ ⟨b0, b1, fun i x y => (b2 i x y).1, ok⟩ (by simp only [Tm.deep]; omega) (by (first | subst "kp" | fail)) (by (first | subst "st_ok" | fail))
  all_goals (obtain ⟨k, hk, rfl⟩ := pk_int (by assumption : (cells.map V.int)[_]? = some _))
  all_goals have hb := h8 k hk
  all_goals exact q (.cell k) _ _ ⟨_, rfl, by assumption⟩ hb.1 (by simp [Tm.deep]) (by (first | subst "kp" | fail)) (by (first | subst "st_ok" | fail))
theorem c_target {W R : Int → Prop} {st c e : Addr} {H : Hp} {Q : VK} {E : XK} (h1 : StOk st c H) (h2 : EnvOk W R st c e H) (q : ∀ (t : Tm) (v : V) (H' : Hp), t.In H' v → t.aim W R → t.deep ≤ 3 → Kp [st, c] H H' → StOk st c H' → Q v H') :
    sp_target [.ref st, .ref e] H Q E := ⟨W, R, st, c, e, rfl, h1, h2, q⟩
set_option hygiene false in
local macro_rules | `(tactic| subst "i_c_target") => `(tactic| intro t v Hn iv ok td ke so)
local macro_rules | `(tactic| injection "own") => `(tactic| (refine c_target (W := ?W) (R := ?R) (c := ?c) ?a ?b ?_; (case a => subst "st_ok"); (case b => subst "env"); subst "i_c_target"))
def sp_expr (d : Nat) : Sp := fun vs H Q _ => ∃ (W R : Int → Prop) (st c e : Addr) (k : Nat), vs = [.ref st, .ref e, .int k] ∧ k < d ∧ StOk st c H ∧ EnvOk W R st c e H ∧ ∀ (t : Tm) (v : V) (H' : Hp), t.In H' v → t.fit R → t.deep ≤ k + 3 → Kp [st, c] H H' → StOk st c H' → Q v H'
theorem c_expr {W R : Int → Prop} {d k : Nat} {z : Int} {st c e : Addr} {H : Hp} {Q : VK} {E : XK} (hz : z = k) (hk : k < d) (h1 : StOk st c H) (h2 : EnvOk W R st c e H) (q : ∀ (t : Tm) (v : V) (H' : Hp), t.In H' v → t.fit R → t.deep ≤ k + 3 → Kp [st, c] H H' → StOk st c H' → Q v H') :
    sp_expr d [.ref st, .ref e, .int z] H Q E := ⟨W, R, st, c, e, k, by rw [hz], hk, h1, h2, q⟩
theorem ok_expression (T : Glo K w mg) (D : Dn K mg "_law_expression" s__law_expression p__law_expression) (G__law_draw : Cal P w K mg base "_law_draw" 1 p__law_draw sp_draw) (G__law_pick : Cal P w K mg base "_law_pick" 2 p__law_pick (sp_pick K))
    (G__law_number : Cal P w K mg base "_law_number" 3 p__law_number sp_number) (G__law_operator : Cal P w K mg base "_law_operator" 3 p__law_operator sp_operator) (G__law_read : Cal P w K mg base "_law_read" 4 p__law_read (sp_read)) {d : Nat}
    (G__law_expression : Cal P w K mg base "_law_expression" (d + 4) p__law_expression (sp_expr d)) : Cal P w K mg base "_law_expression" (d + 5) p__law_expression (sp_expr (d + 1)) := by
  refine D.ok sc__law_expression (fun vs H Q E h => ?_) (fun f cdv A outer s H vs Q E hr h => ?_)
  · obtain ⟨_, _, _, _, _, _, rfl, _⟩ := h
    rfl
  obtain ⟨W, R, st, c, e, k, rfl, hk, so, en, q⟩ := h
  refine ⟨_, (pss_cons (ps_set (i := 3) sc__law_expression.nd rfl (by first | exact Or.inl rfl | exact Or.inr rfl) (pe_cal G__law_draw (hr.mono (by (first | subst "lev" | fail))) rfl (pa_cons (pv 0) (pa_cons pe_int pa_nil)))) (pss_cons (ps_if (PW.pt (pw_or (pt_cmpR (op_eqA (hu64 hr)) (pv 2) pe_int (nomark _)) (pw_or1 (pt_cmpR op_lt (pv 3) pe_int (nomark _))))) (pss_cons (ps_if (PW.pt (pw_and (pt_cmpR op_gt (pe_callB call_lenA rfl T.n_len (by decide +kernel) (pa_cons (pe_dget (hu_of hr) (pv 1) pe_str (fun _ _ => rfl)) pa_nil)) pe_int (nomark _)) (pw_and1 (pt_cmpR op_gt (pe_cal G__law_draw (hr.mono (by (first | subst "lev" | fail))) rfl (pa_cons (pv 0) (pa_cons pe_int pa_nil))) pe_int (nomark _))))) (pss_one (ps_ret (pe_cal G__law_read (hr.mono (by (first | subst "lev" | fail))) rfl (pa_cons (pv 0) (pa_cons (pv 1) pa_nil))))) pss_nil) (pss_one (ps_ret (pe_cal G__law_number (hr.mono (by (first | subst "lev" | fail))) rfl (pa_cons (pv 0) pa_nil))))) pss_nil) (pss_cons (ps_if (pt_cmpR (op_eqA (hu64 hr)) (pv 3) pe_int (nomark _)) (pss_one (ps_ret (pe_tup (pa_cons (pe_cal G__law_pick (hr.mono (by (first | subst "lev" | fail))) rfl (pa_cons (pv 0) (pa_cons (pe_lst (pa_cons pe_str (pa_cons pe_str pa_nil))) pa_nil))) (pa_cons (pe_cal G__law_expression (hr.mono (by (first | subst "lev" | fail))) rfl (pa_cons (pv 0) (pa_cons (pv 1) (pa_cons (pe_op op_sub (pv 2) pe_int) pa_nil)))) pa_nil))))) pss_nil) (pss_cons (ps_set (i := 4) sc__law_expression.nd rfl (by first | exact Or.inl rfl | exact Or.inr rfl) (pe_cal G__law_expression (hr.mono (by (first | subst "lev" | fail))) rfl (pa_cons (pv 0) (pa_cons (pv 1) (pa_cons (pe_op op_sub (pv 2) pe_int) pa_nil))))) (pss_one (ps_ret (pe_tup (pa_cons (pe_cal G__law_operator (hr.mono (by (first | subst "lev" | fail))) rfl (pa_cons (pv 0) pa_nil)) (pa_cons (pv 4) (pa_cons (pe_cal G__law_expression (hr.mono (by (first | subst "lev" | fail))) rfl (pa_cons (pv 0) (pa_cons (pv 1) (pa_cons (pe_op op_sub (pv 2) pe_int) pa_nil)))) pa_nil)))))))))), ?_⟩
  try dsimp only [cxOf, Cx.nox]
  have en0 := en
  obtain ⟨kvs, ca, ra, sa, cells, reads, spans, h1, h2, h3, h4, h5, h6, h7, h8, h9, h10, l0, l1, l2, l3, l4, m1, m2, m3, m4⟩ := en
  repeat' (first | specialize "st" | fail)
  · exact q t _ _ iv ok (by omega) (by (first | subst "kp" | fail)) (by (first | subst "st_ok" | fail))
  · exact q (.num nk) _ _ iv ⟨k0, k1⟩ (by simp [Tm.deep]) (by (first | subst "kp" | fail)) (by (first | subst "st_ok" | fail))
  · exact q t _ _ iv ok (by omega) (by (first | subst "kp" | fail)) (by (first | subst "st_ok" | fail))
  · exact q (.num nk) _ _ iv ⟨k0, k1⟩ (by simp [Tm.deep]) (by (first | subst "kp" | fail)) (by (first | subst "st_ok" | fail))
  · refine c_expr (W := W) (R := R) (c := c) (k := k - 1) (by omega) (by omega) (by (first | subst "st_ok" | fail)) (by (first | subst "env" | fail)) ?_
    intro t x Hn iv ok dp ke so
    have hv := List.mem_of_getElem? ej
    simp only [List.mem_cons, List.not_mem_nil, or_false] at hv
    repeat' (first | specialize "st" | fail)
    rcases hv with rfl | rfl
    · exact q (.neg t) _ _ ⟨_, _, rfl, by assumption, by (first | subst "tm" | fail)⟩ ok (by simp only [Tm.deep]; omega) (by (first | subst "kp" | fail)) (by (first | subst "st_ok" | fail))
    · exact q (.not t) _ _ ⟨_, _, rfl, by assumption, by (first | subst "tm" | fail)⟩ ok (by simp only [Tm.deep]; omega) (by (first | subst "kp" | fail)) (by (first | subst "st_ok" | fail))
  · refine c_expr (W := W) (R := R) (c := c) (k := k - 1) (by omega) (by omega) (by (first | subst "st_ok" | fail)) (by (first | subst "env" | fail)) ?_
    intro t1 x1 Hn iv1 ok1 dp1 ke so
    repeat' (first | specialize "st" | fail)
    refine c_expr (W := W) (R := R) (c := c) (k := k - 1) (by omega) (by omega) (by (first | subst "st_ok" | fail)) (by (first | subst "env" | fail)) ?_
    intro t2 x2 Hn iv2 ok2 dp2 ke so
    repeat' (first | specialize "st" | fail)
    exact q (.bin o t1 t2) _ _ ⟨_, _, _, rfl, by assumption, by (first | subst "tm" | fail), by (first | subst "tm" | fail)⟩ ⟨ok1, ok2⟩ (by simp only [Tm.deep]; omega) (by (first | subst "kp" | fail)) (by (first | subst "st_ok" | fail))
theorem expression_all (T : Glo K w mg) (D : Dn K mg "_law_expression" s__law_expression p__law_expression) (G__law_draw : Cal P w K mg base "_law_draw" 1 p__law_draw sp_draw) (G__law_pick : Cal P w K mg base "_law_pick" 2 p__law_pick (sp_pick K))
    (G__law_number : Cal P w K mg base "_law_number" 3 p__law_number sp_number) (G__law_operator : Cal P w K mg base "_law_operator" 3 p__law_operator sp_operator) (G__law_read : Cal P w K mg base "_law_read" 4 p__law_read (sp_read)) :
    ∀ d, Cal P w K mg base "_law_expression" (d + 4) p__law_expression (sp_expr d)
  | 0 => by
    refine D.ok sc__law_expression (fun vs H Q E h => ?_) (fun f cdv A outer s H vs Q E hr h => ?_)
    · obtain ⟨_, _, _, _, _, _, rfl, _⟩ := h
      rfl
    · obtain ⟨_, _, _, _, _, _, _, h, _⟩ := h
      exact absurd h (Nat.not_lt_zero _)
  | d + 1 => ok_expression T D G__law_draw G__law_pick G__law_number G__law_operator G__law_read (expression_all T D G__law_draw G__law_pick G__law_number G__law_operator G__law_read d)
/-! ### statements -/
mutual
inductive Sx
  | skip | stop | set (t e : Tm) | give (c : Int) (e : Tm) | take (c : Int) (t : Tm) | ife (e : Tm) (a b : Sx) | rep (e : Tm) (n : Int) (a : Sx) | seq (ss : Ss) | par (ps : Ps) | alt (rs : As)
inductive Ss
  | nil | cons (s : Sx) (r : Ss)
inductive Ps
  | nil | cons (t : Int) (s : Sx) (r : Ps)
inductive As
  | nil | cons (g : Option Tm) (c : Int) (t : Tm) (s : Sx) (r : As)
end
def gIn (H : Hp) : Option Tm → V → Prop
  | none, v => v = .non
  | some e, v => e.In H v
mutual
/-- a statement stands at v; none of its lists is among M -/
def Sx.In (M : List Addr) (H : Hp) : Sx → V → Prop
  | .skip, v => ∃ p, v = .ref p ∧ H p = some (.tup [.str "skip"])
  | .stop, v => ∃ p, v = .ref p ∧ H p = some (.tup [.str "stop"])
  | .set t e, v => ∃ p x y, v = .ref p ∧ H p = some (.tup [.str "set", x, y]) ∧ t.In H x ∧ e.In H y
  | .give c e, v => ∃ p x, v = .ref p ∧ H p = some (.tup [.str "give", .int c, x]) ∧ e.In H x
  | .take c t, v => ∃ p x, v = .ref p ∧ H p = some (.tup [.str "take", .int c, x]) ∧ t.In H x
  | .ife e a b, v => ∃ p x y z, v = .ref p ∧ H p = some (.tup [.str "if", x, y, z]) ∧ e.In H x ∧ a.In M H y ∧ b.In M H z
  | .rep e n a, v => ∃ p x y, v = .ref p ∧ H p = some (.tup [.str "repeat", x, .int n, y]) ∧ e.In H x ∧ a.In M H y
  | .seq ss, v => ∃ p l xs, v = .ref p ∧ H p = some (.tup [.str "seq", .ref l]) ∧ H l = some (.lst xs) ∧ l ∉ M ∧ ss.In M H xs
  | .par ps, v => ∃ p l xs, v = .ref p ∧ H p = some (.tup [.str "par", .ref l]) ∧ H l = some (.lst xs) ∧ l ∉ M ∧ ps.In M H xs
  | .alt rs, v => ∃ p l xs, v = .ref p ∧ H p = some (.tup [.str "alt", .ref l]) ∧ H l = some (.lst xs) ∧ l ∉ M ∧ rs.In M H xs
def Ss.In (M : List Addr) (H : Hp) : Ss → List V → Prop
  | .nil, xs => xs = []
  | .cons s r, xs => ∃ x ys, xs = x :: ys ∧ s.In M H x ∧ r.In M H ys
def Ps.In (M : List Addr) (H : Hp) : Ps → List V → Prop
  | .nil, xs => xs = []
  | .cons t s r, xs => ∃ q x ys, xs = .ref q :: ys ∧ H q = some (.tup [.int t, x]) ∧ s.In M H x ∧ r.In M H ys
def As.In (M : List Addr) (H : Hp) : As → List V → Prop
  | .nil, xs => xs = []
  | .cons g c t s r, xs => ∃ q u x y ys, xs = .ref q :: ys ∧ H q = some (.tup [u, .int c, x, y]) ∧ gIn H g u ∧ t.In H x ∧ s.In M H y ∧ r.In M H ys
end
theorem gIn.up {H H' : Hp} (k : ∀ p xs, H p = some (.tup xs) → H' p = some (.tup xs)) : ∀ {g : Option Tm} {v : V}, gIn H g v → gIn H' g v
  | none, _, h => h
  | some _, _, h => Tm.In.up k h
mutual
theorem Sx.In.kp {M : List Addr} {H H' : Hp} (k : Kp M H H') : ∀ {s : Sx} {v : V}, s.In M H v → s.In M H' v
  | .skip, _, ⟨p, e, h⟩ => ⟨p, e, k.tup _ _ h⟩
  | .stop, _, ⟨p, e, h⟩ => ⟨p, e, k.tup _ _ h⟩
  | .set _ _, _, ⟨p, x, y, e, h, a, b⟩ => ⟨p, x, y, e, k.tup _ _ h, a.up k.tup, b.up k.tup⟩
  | .give _ _, _, ⟨p, x, e, h, a⟩ => ⟨p, x, e, k.tup _ _ h, a.up k.tup⟩
  | .take _ _, _, ⟨p, x, e, h, a⟩ => ⟨p, x, e, k.tup _ _ h, a.up k.tup⟩
  | .ife _ _ _, _, ⟨p, x, y, z, e, h, a, b, c⟩ => ⟨p, x, y, z, e, k.tup _ _ h, a.up k.tup, Sx.In.kp k b, Sx.In.kp k c⟩
  | .rep _ _ _, _, ⟨p, x, y, e, h, a, b⟩ => ⟨p, x, y, e, k.tup _ _ h, a.up k.tup, Sx.In.kp k b⟩
  | .seq _, _, ⟨p, l, xs, e, h, hl, m, a⟩ => ⟨p, l, xs, e, k.tup _ _ h, k.out _ _ m hl, m, Ss.In.kp k a⟩
  | .par _, _, ⟨p, l, xs, e, h, hl, m, a⟩ => ⟨p, l, xs, e, k.tup _ _ h, k.out _ _ m hl, m, Ps.In.kp k a⟩
  | .alt _, _, ⟨p, l, xs, e, h, hl, m, a⟩ => ⟨p, l, xs, e, k.tup _ _ h, k.out _ _ m hl, m, As.In.kp k a⟩
theorem Ss.In.kp {M : List Addr} {H H' : Hp} (k : Kp M H H') : ∀ {s : Ss} {v : List V}, s.In M H v → s.In M H' v
  | .nil, _, h => h
  | .cons _ _, _, ⟨x, ys, e, a, b⟩ => ⟨x, ys, e, Sx.In.kp k a, Ss.In.kp k b⟩
theorem Ps.In.kp {M : List Addr} {H H' : Hp} (k : Kp M H H') : ∀ {s : Ps} {v : List V}, s.In M H v → s.In M H' v
  | .nil, _, h => h
  | .cons _ _ _, _, ⟨q, x, ys, e, h, a, b⟩ => ⟨q, x, ys, e, k.tup _ _ h, Sx.In.kp k a, Ps.In.kp k b⟩
theorem As.In.kp {M : List Addr} {H H' : Hp} (k : Kp M H H') : ∀ {s : As} {v : List V}, s.In M H v → s.In M H' v
  | .nil, _, h => h
  | .cons _ _ _ _ _, _, ⟨q, u, x, y, ys, e, h, g, a, b, c⟩ => ⟨q, u, x, y, ys, e, k.tup _ _ h, g.up k.tup, a.up k.tup, Sx.In.kp k b, As.In.kp k c⟩
end
/-- what a part of a core may touch: cells written and read, channels given on and taken from -/
structure Fr where
  W : Int → Prop
  R : Int → Prop
  G : Int → Prop
  T : Int → Prop
structure Fr.le (a b : Fr) : Prop where
  w : ∀ k, a.W k → b.W k
  r : ∀ k, a.R k → b.R k
  g : ∀ k, a.G k → b.G k
  t : ∀ k, a.T k → b.T k
theorem Fr.le.refl (a : Fr) : a.le a := ⟨fun _ h => h, fun _ h => h, fun _ h => h, fun _ h => h⟩
theorem Fr.le.trans {a b c : Fr} (h : a.le b) (g : b.le c) : a.le c := ⟨fun k q => g.w k (h.w k q), fun k q => g.r k (h.r k q), fun k q => g.g k (h.g k q), fun k q => g.t k (h.t k q)⟩
structure Fr.apart (a b : Fr) : Prop where
  w : ∀ k, a.W k → ¬ b.W k ∧ ¬ b.R k
  r : ∀ k, b.W k → ¬ a.R k
  g : ∀ c, a.G c → ¬ b.G c
  t : ∀ c, a.T c → ¬ b.T c
theorem Fr.apart.le {a b c d : Fr} (h : a.apart b) (p : c.le a) (q : d.le b) : c.apart d := ⟨fun k x => ⟨fun y => (h.w k (p.w k x)).1 (q.w k y), fun y => (h.w k (p.w k x)).2 (q.r k y)⟩, fun k x y => h.r k (q.w k x) (p.r k y), fun k x y => h.g k (p.g k x) (q.g k y), fun k x y => h.t k (p.t k x) (q.t k y)⟩
def gFit (R : Int → Prop) : Option Tm → Prop
  | none => True
  | some e => e.fit R ∧ e.deep ≤ 5
def gDeep : Option Tm → Prop
  | none => True
  | some e => e.deep ≤ 5
theorem gFit.mono {R S : Int → Prop} (h : ∀ k, R k → S k) : ∀ {g : Option Tm}, gFit R g → gFit S g
  | none, _ => trivial
  | some _, a => ⟨a.1.mono h, a.2⟩
mutual
def Sx.fit (F : Fr) : Sx → Prop
  | .skip => True
  | .stop => True
  | .set t e => t.aim F.W F.R ∧ t.deep ≤ 5 ∧ e.fit F.R ∧ e.deep ≤ 5
  | .give c e => F.G c ∧ e.fit F.R ∧ e.deep ≤ 5
  | .take c t => F.T c ∧ t.aim F.W F.R ∧ t.deep ≤ 5
  | .ife e a b => e.fit F.R ∧ e.deep ≤ 5 ∧ a.fit F ∧ b.fit F
  | .rep e n a => e.fit F.R ∧ e.deep ≤ 5 ∧ 0 ≤ n ∧ n < 100 ∧ a.fit F
  | .seq ss => ss.fit F
  | .par ps => ps.fit F
  | .alt rs => rs.fit F
def Ss.fit (F : Fr) : Ss → Prop
  | .nil => True
  | .cons s r => s.fit F ∧ r.fit F
def Ps.fit (F : Fr) : Ps → Prop
  | .nil => True
  | .cons _ s r => s.fit F ∧ r.fit F
def As.fit (F : Fr) : As → Prop
  | .nil => True
  | .cons g c t s r => gFit F.R g ∧ F.T c ∧ t.aim F.W F.R ∧ t.deep ≤ 5 ∧ s.fit F ∧ r.fit F
end
mutual
theorem Sx.fit.mono {F F' : Fr} (l : F.le F') : ∀ {s : Sx}, s.fit F → s.fit F'
  | .skip, h => h
  | .stop, h => h
  | .set _ _, h => ⟨h.1.mono l.r l.w, h.2.1, h.2.2.1.mono l.r, h.2.2.2⟩
  | .give _ _, h => ⟨l.g _ h.1, h.2.1.mono l.r, h.2.2⟩
  | .take _ _, h => ⟨l.t _ h.1, h.2.1.mono l.r l.w, h.2.2⟩
  | .ife _ _ _, h => ⟨h.1.mono l.r, h.2.1, Sx.fit.mono l h.2.2.1, Sx.fit.mono l h.2.2.2⟩
  | .rep _ _ _, h => ⟨h.1.mono l.r, h.2.1, h.2.2.1, h.2.2.2.1, Sx.fit.mono l h.2.2.2.2⟩
  | .seq ss, h => Ss.fit.mono (s := ss) l h
  | .par ss, h => Ps.fit.mono (s := ss) l h
  | .alt ss, h => As.fit.mono (s := ss) l h
theorem Ss.fit.mono {F F' : Fr} (l : F.le F') : ∀ {s : Ss}, s.fit F → s.fit F'
  | .nil, h => h
  | .cons _ _, h => ⟨Sx.fit.mono l h.1, Ss.fit.mono l h.2⟩
theorem Ps.fit.mono {F F' : Fr} (l : F.le F') : ∀ {s : Ps}, s.fit F → s.fit F'
  | .nil, h => h
  | .cons _ _ _, h => ⟨Sx.fit.mono l h.1, Ps.fit.mono l h.2⟩
theorem As.fit.mono {F F' : Fr} (l : F.le F') : ∀ {s : As}, s.fit F → s.fit F'
  | .nil, h => h
  | .cons _ _ _ _ _, h => ⟨h.1.mono l.r, l.t _ h.2.1, h.2.2.1.mono l.r l.w, h.2.2.2.1, Sx.fit.mono l h.2.2.2.2.1, As.fit.mono l h.2.2.2.2.2⟩
end
def Ps.fits : Ps → List Fr → Prop
  | .nil, fs => fs = []
  | .cons _ s r, fs => ∃ f l, fs = f :: l ∧ s.fit f ∧ r.fits l
def As.chs : As → List Int
  | .nil => []
  | .cons _ c _ _ r => c :: r.chs
mutual
/-- branches of a par touch nothing in common; the rows of an alt are over different channels -/
def Sx.rule : Sx → Prop
  | .ife _ a b => a.rule ∧ b.rule
  | .rep _ _ a => a.rule
  | .seq ss => ss.rule
  | .par ps => (∃ fs, ps.fits fs ∧ fs.Pairwise Fr.apart) ∧ ps.rule
  | .alt rs => rs.chs.Nodup ∧ rs.rule
  | _ => True
def Ss.rule : Ss → Prop
  | .nil => True
  | .cons s r => s.rule ∧ r.rule
def Ps.rule : Ps → Prop
  | .nil => True
  | .cons _ s r => s.rule ∧ r.rule
def As.rule : As → Prop
  | .nil => True
  | .cons _ _ _ s r => s.rule ∧ r.rule
end
mutual
/-- how many branches -/
def Sx.cnt : Sx → Nat
  | .ife _ a b => a.cnt + b.cnt
  | .rep _ _ a => a.cnt
  | .seq ss => ss.cnt
  | .par ps => ps.cnt
  | .alt rs => rs.cnt
  | _ => 0
def Ss.cnt : Ss → Nat
  | .nil => 0
  | .cons s r => s.cnt + r.cnt
def Ps.cnt : Ps → Nat
  | .nil => 0
  | .cons _ s r => 1 + s.cnt + r.cnt
def As.cnt : As → Nat
  | .nil => 0
  | .cons _ _ _ s r => s.cnt + r.cnt
end
mutual
/-- the branches' numbers, in the order of the text from t -/
def Sx.num : Sx → Int → Prop
  | .ife _ a b, t => a.num t ∧ b.num (t + a.cnt)
  | .rep _ _ a, t => a.num t
  | .seq ss, t => ss.num t
  | .par ps, t => ps.num t
  | .alt rs, t => rs.num t
  | _, _ => True
def Ss.num : Ss → Int → Prop
  | .nil, _ => True
  | .cons s r, t => s.num t ∧ r.num (t + s.cnt)
def Ps.num : Ps → Int → Prop
  | .nil, _ => True
  | .cons k s r, t => k = t ∧ s.num (t + 1) ∧ r.num (t + 1 + s.cnt)
def As.num : As → Int → Prop
  | .nil, _ => True
  | .cons _ _ _ s r, t => s.num t ∧ r.num (t + s.cnt)
end
mutual
theorem Sx.num0 : ∀ {s : Sx}, s.cnt = 0 → ∀ t, s.num t
  | .ife _ a b, h, t => by
    have h' : a.cnt + b.cnt = 0 := h
    exact ⟨Sx.num0 (by omega) _, Sx.num0 (by omega) _⟩
  | .rep _ _ a, h, t => Sx.num0 (s := a) h t
  | .seq ss, h, t => Ss.num0 (s := ss) h t
  | .par ss, h, t => Ps.num0 (s := ss) h t
  | .alt ss, h, t => As.num0 (s := ss) h t
  | .skip, _, _ => trivial
  | .stop, _, _ => trivial
  | .set _ _, _, _ => trivial
  | .give _ _, _, _ => trivial
  | .take _ _, _, _ => trivial
theorem Ss.num0 : ∀ {s : Ss}, s.cnt = 0 → ∀ t, s.num t
  | .nil, _, _ => trivial
  | .cons a b, h, t => by
    have h' : a.cnt + b.cnt = 0 := h
    exact ⟨Sx.num0 (by omega) _, Ss.num0 (by omega) _⟩
theorem Ps.num0 : ∀ {s : Ps}, s.cnt = 0 → ∀ t, s.num t
  | .nil, _, _ => trivial
  | .cons k a b, h, t => by
    have h' : 1 + a.cnt + b.cnt = 0 := h
    omega
theorem As.num0 : ∀ {s : As}, s.cnt = 0 → ∀ t, s.num t
  | .nil, _, _ => trivial
  | .cons _ _ _ a b, h, t => by
    have h' : a.cnt + b.cnt = 0 := h
    exact ⟨Sx.num0 (by omega) _, As.num0 (by omega) _⟩
end
mutual
def Sx.dep : Sx → Nat
  | .ife _ a b => 1 + max a.dep b.dep
  | .rep _ _ a => 1 + a.dep
  | .seq ss => 1 + ss.dep
  | .par ps => 1 + ps.dep
  | .alt rs => 1 + rs.dep
  | _ => 1
def Ss.dep : Ss → Nat
  | .nil => 0
  | .cons s r => max s.dep r.dep
def Ps.dep : Ps → Nat
  | .nil => 0
  | .cons _ s r => max s.dep r.dep
def As.dep : As → Nat
  | .nil => 0
  | .cons _ _ _ s r => max s.dep r.dep
end
mutual
def Sx.sz : Sx → Nat
  | .ife _ a b => 1 + a.sz + b.sz
  | .rep _ _ a => 1 + a.sz
  | .seq ss => 1 + ss.sz
  | .par ps => 1 + ps.sz
  | .alt rs => 1 + rs.sz
  | _ => 1
def Ss.sz : Ss → Nat
  | .nil => 0
  | .cons s r => s.sz + r.sz
def Ps.sz : Ps → Nat
  | .nil => 0
  | .cons _ s r => s.sz + r.sz
def As.sz : As → Nat
  | .nil => 0
  | .cons _ _ _ s r => s.sz + r.sz
end
mutual
def Sx.wk : Sx → Int
  | .give _ _ => 2
  | .take _ _ => 2
  | .ife _ a b => max a.wk b.wk + 1
  | .rep _ n a => 1 + n * (a.wk + 1)
  | .seq ss => ss.wk + 1
  | .par ps => ps.wk + 2
  | .alt rs => rs.wk + 2
  | _ => 1
def Ss.wk : Ss → Int
  | .nil => 0
  | .cons s r => s.wk + r.wk
def Ps.wk : Ps → Int
  | .nil => 0
  | .cons _ s r => s.wk + r.wk
def As.wk : As → Int
  | .nil => 0
  | .cons _ _ _ s r => max s.wk r.wk
end
/-! rows that go on -/
def Ss.app : Ss → Ss → Ss
  | .nil, y => y
  | .cons s r, y => .cons s (r.app y)
def As.app : As → As → As
  | .nil, y => y
  | .cons g c t s r, y => .cons g c t s (r.app y)
def Ps.app : Ps → Ps → Ps
  | .nil, y => y
  | .cons t s r, y => .cons t s (r.app y)
theorem Ss.app_in {M : List Addr} {H : Hp} : ∀ {a b : Ss} {xs ys : List V}, a.In M H xs → b.In M H ys → (a.app b).In M H (xs ++ ys)
  | .nil, _, _, _, h, g => by cases h; exact g
  | .cons _ r, _, _, _, ⟨x, zs, e, p, q⟩, g => by subst e; exact ⟨x, _, rfl, p, Ss.app_in q g⟩
theorem As.app_in {M : List Addr} {H : Hp} : ∀ {a b : As} {xs ys : List V}, a.In M H xs → b.In M H ys → (a.app b).In M H (xs ++ ys)
  | .nil, _, _, _, h, g => by cases h; exact g
  | .cons _ _ _ _ r, _, _, _, ⟨q0, u, x, y, zs, e, p, p2, p3, p4, q⟩, g => by subst e; exact ⟨q0, u, x, y, _, rfl, p, p2, p3, p4, As.app_in q g⟩
theorem Ps.app_in {M : List Addr} {H : Hp} : ∀ {a b : Ps} {xs ys : List V}, a.In M H xs → b.In M H ys → (a.app b).In M H (xs ++ ys)
  | .nil, _, _, _, h, g => by cases h; exact g
  | .cons _ _ r, _, _, _, ⟨q0, x, zs, e, p, p2, q⟩, g => by subst e; exact ⟨q0, x, _, rfl, p, p2, Ps.app_in q g⟩
theorem Ss.app_fit {F : Fr} : ∀ {a b : Ss}, (a.app b).fit F ↔ a.fit F ∧ b.fit F
  | .nil, b => by simp [Ss.app, Ss.fit]
  | .cons s r, b => by simp only [Ss.app, Ss.fit, Ss.app_fit (a := r), and_assoc]
theorem As.app_fit {F : Fr} : ∀ {a b : As}, (a.app b).fit F ↔ a.fit F ∧ b.fit F
  | .nil, b => by simp [As.app, As.fit]
  | .cons _ _ _ _ r, b => by simp only [As.app, As.fit, As.app_fit (a := r), and_assoc]
theorem Ss.app_rule : ∀ {a b : Ss}, (a.app b).rule ↔ a.rule ∧ b.rule
  | .nil, b => by simp [Ss.app, Ss.rule]
  | .cons s r, b => by simp only [Ss.app, Ss.rule, Ss.app_rule (a := r), and_assoc]
theorem As.app_rule : ∀ {a b : As}, (a.app b).rule ↔ a.rule ∧ b.rule
  | .nil, b => by simp [As.app, As.rule]
  | .cons _ _ _ _ r, b => by simp only [As.app, As.rule, As.app_rule (a := r), and_assoc]
theorem Ps.app_rule : ∀ {a b : Ps}, (a.app b).rule ↔ a.rule ∧ b.rule
  | .nil, b => by simp [Ps.app, Ps.rule]
  | .cons _ _ r, b => by simp only [Ps.app, Ps.rule, Ps.app_rule (a := r), and_assoc]
theorem As.app_chs : ∀ {a b : As}, (a.app b).chs = a.chs ++ b.chs
  | .nil, b => rfl
  | .cons _ _ _ _ r, b => by simp only [As.app, As.chs, As.app_chs (a := r), List.cons_append]
theorem Ss.app_cnt : ∀ {a b : Ss}, (a.app b).cnt = a.cnt + b.cnt
  | .nil, b => by simp [Ss.app, Ss.cnt]
  | .cons s r, b => by simp only [Ss.app, Ss.cnt, Ss.app_cnt (a := r)]; omega
theorem As.app_cnt : ∀ {a b : As}, (a.app b).cnt = a.cnt + b.cnt
  | .nil, b => by simp [As.app, As.cnt]
  | .cons _ _ _ _ r, b => by simp only [As.app, As.cnt, As.app_cnt (a := r)]; omega
theorem Ps.app_cnt : ∀ {a b : Ps}, (a.app b).cnt = a.cnt + b.cnt
  | .nil, b => by simp [Ps.app, Ps.cnt]
  | .cons _ s r, b => by simp only [Ps.app, Ps.cnt, Ps.app_cnt (a := r)]; omega
theorem Ss.app_num : ∀ {a b : Ss} {t : Int}, (a.app b).num t ↔ a.num t ∧ b.num (t + a.cnt)
  | .nil, b, t => by simp [Ss.app, Ss.num, Ss.cnt]
  | .cons s r, b, t => by
    simp only [Ss.app, Ss.num, Ss.app_num (a := r), Ss.cnt, and_assoc]
    rw [show t + (s.cnt : Int) + (r.cnt : Int) = t + ((s.cnt + r.cnt : Nat) : Int) by omega]
theorem Ps.app_num : ∀ {a b : Ps} {t : Int}, (a.app b).num t ↔ a.num t ∧ b.num (t + a.cnt)
  | .nil, b, t => by simp [Ps.app, Ps.num, Ps.cnt]
  | .cons k s r, b, t => by
    simp only [Ps.app, Ps.num, Ps.app_num (a := r), Ps.cnt, and_assoc]
    rw [show t + 1 + (s.cnt : Int) + (r.cnt : Int) = t + ((1 + s.cnt + r.cnt : Nat) : Int) by omega]
theorem Ss.app_dep : ∀ {a b : Ss}, (a.app b).dep = max a.dep b.dep
  | .nil, b => by simp [Ss.app, Ss.dep]
  | .cons s r, b => by simp only [Ss.app, Ss.dep, Ss.app_dep (a := r)]; omega
theorem As.app_dep : ∀ {a b : As}, (a.app b).dep = max a.dep b.dep
  | .nil, b => by simp [As.app, As.dep]
  | .cons _ _ _ _ r, b => by simp only [As.app, As.dep, As.app_dep (a := r)]; omega
theorem Ps.app_dep : ∀ {a b : Ps}, (a.app b).dep = max a.dep b.dep
  | .nil, b => by simp [Ps.app, Ps.dep]
  | .cons _ s r, b => by simp only [Ps.app, Ps.dep, Ps.app_dep (a := r)]; omega
theorem Ss.app_sz : ∀ {a b : Ss}, (a.app b).sz = a.sz + b.sz
  | .nil, b => by simp [Ss.app, Ss.sz]
  | .cons s r, b => by simp only [Ss.app, Ss.sz, Ss.app_sz (a := r)]; omega
theorem As.app_sz : ∀ {a b : As}, (a.app b).sz = a.sz + b.sz
  | .nil, b => by simp [As.app, As.sz]
  | .cons _ _ _ _ r, b => by simp only [As.app, As.sz, As.app_sz (a := r)]; omega
theorem Ps.app_sz : ∀ {a b : Ps}, (a.app b).sz = a.sz + b.sz
  | .nil, b => by simp [Ps.app, Ps.sz]
  | .cons _ s r, b => by simp only [Ps.app, Ps.sz, Ps.app_sz (a := r)]; omega
theorem Ss.app_wk : ∀ {a b : Ss}, (a.app b).wk = a.wk + b.wk
  | .nil, b => by simp [Ss.app, Ss.wk]
  | .cons s r, b => by simp only [Ss.app, Ss.wk, Ss.app_wk (a := r)]; omega
theorem As.wk0 : ∀ {a : As}, 0 ≤ a.wk
  | .nil => Int.le_refl 0
  | .cons _ _ _ s r => by
    have h := As.wk0 (a := r)
    simp only [As.wk]
    omega
theorem As.app_wk : ∀ {a b : As}, (a.app b).wk = max a.wk b.wk
  | .nil, b => by
    have h := As.wk0 (a := b)
    simp only [As.app, As.wk]
    omega
  | .cons _ _ _ _ r, b => by simp only [As.app, As.wk, As.app_wk (a := r)]; omega
theorem Ps.app_wk : ∀ {a b : Ps}, (a.app b).wk = a.wk + b.wk
  | .nil, b => by simp [Ps.app, Ps.wk]
  | .cons _ s r, b => by simp only [Ps.app, Ps.wk, Ps.app_wk (a := r)]; omega
theorem Ss.in_len {M : List Addr} {H : Hp} : ∀ {a : Ss} {xs : List V}, a.In M H xs → xs.length ≤ a.sz
  | .nil, _, h => by cases h; exact Nat.le_refl 0
  | .cons s r, _, ⟨x, zs, e, p, q⟩ => by
    subst e
    have h := Ss.in_len q
    have : 0 < s.sz := by cases s <;> simp only [Sx.sz] <;> omega
    simp only [List.length_cons, Ss.sz]
    omega
theorem As.in_len {M : List Addr} {H : Hp} : ∀ {a : As} {xs : List V}, a.In M H xs → xs.length ≤ a.sz
  | .nil, _, h => by cases h; exact Nat.le_refl 0
  | .cons _ _ _ s r, _, ⟨q0, u, x, y, zs, e, p, p2, p3, p4, q⟩ => by
    subst e
    have h := As.in_len q
    have : 0 < s.sz := by cases s <;> simp only [Sx.sz] <;> omega
    simp only [List.length_cons, As.sz]
    omega
theorem Ps.in_len {M : List Addr} {H : Hp} : ∀ {a : Ps} {xs : List V}, a.In M H xs → xs.length ≤ a.sz
  | .nil, _, h => by cases h; exact Nat.le_refl 0
  | .cons _ s r, _, ⟨q0, x, zs, e, p, p2, q⟩ => by
    subst e
    have h := Ps.in_len q
    have : 0 < s.sz := by cases s <;> simp only [Sx.sz] <;> omega
    simp only [List.length_cons, Ps.sz]
    omega
abbrev s__law_set : Stmt := topS 30
theorem sc__law_set : FnScope ["_law_state_here", "_law_env_here"] ["_law_state_here", "_law_env_here"] (defScope s__law_set) := ⟨rfl, rfl, rfl, by decide +kernel, rfl, by decide +kernel, by decide +kernel⟩
abbrev p__law_set : List Str := ["_law_state_here", "_law_env_here"]
abbrev s__law_simple : Stmt := topS 31
theorem sc__law_simple : FnScope ["_law_state_here", "_law_env_here", "_law_kind", "_law_cell", "_law_more"] ["_law_state_here", "_law_env_here"] (defScope s__law_simple) := ⟨rfl, rfl, rfl, by decide +kernel, rfl, by decide +kernel, by decide +kernel⟩
abbrev p__law_simple : List Str := ["_law_state_here", "_law_env_here"]
/-- what M holds besides the draws' state stands -/
def MoS (M : List Addr) (st c : Addr) (H : Hp) : Prop := ∀ x ∈ M, x ∉ [st, c] → ∃ u, H x = some u
theorem MoS.kp {M : List Addr} {st c : Addr} {H H' : Hp} (k : Kp [st, c] H H') (h : MoS M st c H) : MoS M st c H' := fun x hx n => by
  obtain ⟨u, hu⟩ := h x hx n
  exact ⟨u, k.out _ _ n hu⟩
theorem MoS.ex {M : List Addr} {st c : Addr} {H H' : Hp} (k : Ex H H') (h : MoS M st c H) : MoS M st c H' := h.kp k.kp
theorem MoS.fresh {M : List Addr} {st c p : Addr} {H : Hp} (so : StOk st c H) (h : MoS M st c H) (hp : H p = none) : p ∉ M := fun hm => by
  obtain ⟨u, hu⟩ := h p hm (st_fresh so hp)
  rw [hp] at hu
  cases hu
local macro_rules | `(tactic| exists "mok") => `(tactic| (refine MoS.kp (by assumption) ?_; exists "mok"))
local macro_rules | `(tactic| exists "mok") => `(tactic| (refine MoS.ex (by assumption) ?_; exists "mok"))
local macro_rules | `(tactic| exists "mok") => `(tactic| assumption)
theorem sx_ex {M : List Addr} {H H' : Hp} {s : Sx} {v : V} (k : Ex H H') (h : s.In M H v) : s.In M H' v := Sx.In.kp k.kp h
theorem kp_sub2 {M : List Addr} {st c : Addr} {H H' : Hp} (k : Kp [st, c] H H') (h1 : st ∈ M) (h2 : c ∈ M) : Kp M H H' := Kp.sub k (fun x hx => by
  simp only [List.mem_cons, List.not_mem_nil, or_false] at hx
  rcases hx with rfl | rfl
  · exact h1
  · exact h2)
theorem sx_kp {M : List Addr} {st c : Addr} {H H' : Hp} {s : Sx} {v : V} (k : Kp [st, c] H H') (h1 : st ∈ M) (h2 : c ∈ M) (h : s.In M H v) : s.In M H' v := Sx.In.kp (kp_sub2 k h1 h2) h
local macro_rules | `(tactic| subst "sx") => `(tactic| (refine sx_kp (by assumption) (by assumption) (by assumption) ?_; subst "sx"))
local macro_rules | `(tactic| subst "sx") => `(tactic| (refine sx_ex (by assumption) ?_; subst "sx"))
local macro_rules | `(tactic| subst "sx") => `(tactic| assumption)
/-- a statement without branches that a part F of a core may do -/
structure Sx.Pl (F : Fr) (D S : Nat) (k : Int) (s : Sx) : Prop where
  fit : s.fit F
  rule : s.rule
  cnt : s.cnt = 0
  dep : s.dep ≤ D
  sz : s.sz ≤ S
  wk : s.wk ≤ k
theorem Sx.Pl.wid {F : Fr} {D S D' S' : Nat} {k k' : Int} {s : Sx} (h : s.Pl F D S k) (a : D ≤ D') (b : S ≤ S') (c : k ≤ k') : s.Pl F D' S' k' := ⟨h.fit, h.rule, h.cnt, Nat.le_trans h.dep a, Nat.le_trans h.sz b, Int.le_trans h.wk c⟩
theorem Sx.Pl.mono {F F' : Fr} {D S : Nat} {k : Int} {s : Sx} (h : s.Pl F D S k) (l : F.le F') : s.Pl F' D S k := ⟨h.fit.mono l, h.rule, h.cnt, h.dep, h.sz, h.wk⟩
def sp_sx (D S : Nat) (k : Int) : Sp := fun vs H Q _ => ∃ (F : Fr) (M : List Addr) (st c e : Addr), vs = [.ref st, .ref e] ∧ st ∈ M ∧ c ∈ M ∧ StOk st c H ∧ MoS M st c H ∧ EnvOk F.W F.R st c e H ∧ ∀ (s : Sx) (v : V) (H' : Hp), s.In M H' v → s.Pl F D S k → Kp [st, c] H H' → StOk st c H' → Q v H'
theorem c_sx {D S : Nat} {k : Int} {F : Fr} {M : List Addr} {st c e : Addr} {H : Hp} {Q : VK} {E : XK} (m1 : st ∈ M) (m2 : c ∈ M) (h1 : StOk st c H) (h2 : MoS M st c H) (h3 : EnvOk F.W F.R st c e H) (q : ∀ (s : Sx) (v : V) (H' : Hp), s.In M H' v → s.Pl F D S k → Kp [st, c] H H' → StOk st c H' → Q v H') : sp_sx D S k [.ref st, .ref e] H Q E :=
  ⟨F, M, st, c, e, rfl, m1, m2, h1, h2, h3, q⟩
set_option hygiene false in
local macro_rules | `(tactic| subst "i_c_expr") => `(tactic| intro t x Hn iv ok dp ke so)
local macro_rules | `(tactic| injection "own") => `(tactic| (refine c_expr (W := ?W) (R := ?R) (c := ?c) (k := 0) rfl (by decide) ?a ?b ?_; (case a => subst "st_ok"); (case b => subst "env"); subst "i_c_expr"))
local macro_rules | `(tactic| injection "own") => `(tactic| (refine c_expr (W := ?W) (R := ?R) (c := ?c) (k := 1) rfl (by decide) ?a ?b ?_; (case a => subst "st_ok"); (case b => subst "env"); subst "i_c_expr"))
local macro_rules | `(tactic| injection "own") => `(tactic| (refine c_expr (W := ?W) (R := ?R) (c := ?c) (k := 2) rfl (by decide) ?a ?b ?_; (case a => subst "st_ok"); (case b => subst "env"); subst "i_c_expr"))
theorem ok_set (T : Glo K w mg) (D : Dn K mg "_law_set" s__law_set p__law_set) (G__law_target : Cal P w K mg base "_law_target" 4 p__law_target sp_target) (G__law_expression : Cal P w K mg base "_law_expression" 7 p__law_expression (sp_expr 3)) :
    Cal P w K mg base "_law_set" 8 p__law_set (sp_sx 1 1 1) := by
  refine D.ok sc__law_set (fun vs H Q E h => ?_) (fun f cdv A outer s H vs Q E hr h => ?_)
  · obtain ⟨_, _, _, _, _, rfl, _⟩ := h
    rfl
  obtain ⟨F, M, st, c, e, rfl, m1, m2, so, mo, en, q⟩ := h
  refine ⟨_, (pss_one (ps_ret (pe_tup (pa_cons pe_str (pa_cons (pe_cal G__law_target (hr.mono (by (first | subst "lev" | fail))) rfl (pa_cons (pv 0) (pa_cons (pv 1) pa_nil))) (pa_cons (pe_cal G__law_expression (hr.mono (by (first | subst "lev" | fail))) rfl (pa_cons (pv 0) (pa_cons (pv 1) (pa_cons pe_int pa_nil)))) pa_nil)))))), ?_⟩
  try dsimp only [cxOf, Cx.nox]
  repeat' (first | specialize "st" | fail)
  rename_i t1 H1 iv1 ok1 k1 s1 H2 k2
  exact q (.set t1 t) _ _ ⟨_, _, _, rfl, hn, by (first | subst "tm" | fail), by (first | subst "tm" | fail)⟩ ⟨⟨ok1, by omega, ok, by omega⟩, trivial, rfl, by simp [Sx.dep], by simp [Sx.sz], by simp [Sx.wk]⟩ (by (first | subst "kp" | fail)) (by (first | subst "st_ok" | fail))
set_option hygiene false in
local macro_rules | `(tactic| subst "i_c_sx") => `(tactic| intro sx v Hn sv sk ke so)
local macro_rules | `(tactic| injection "own") => `(tactic| (refine c_sx (F := ?F) (M := ?M) (c := ?c) ?m1 ?m2 ?a ?b ?d ?_; (case m1 => assumption); (case m2 => assumption); (case a => subst "st_ok"); (case b => exists "mok"); (case d => subst "env"); subst "i_c_sx"))
theorem ok_simple (T : Glo K w mg) (D : Dn K mg "_law_simple" s__law_simple p__law_simple) (G__law_draw : Cal P w K mg base "_law_draw" 1 p__law_draw sp_draw) (G__law_pick : Cal P w K mg base "_law_pick" 2 p__law_pick (sp_pick K))
    (G__law_expression : Cal P w K mg base "_law_expression" 7 p__law_expression (sp_expr 3)) (G__law_set : Cal P w K mg base "_law_set" 8 p__law_set (sp_sx 1 1 1)) :
    Cal P w K mg base "_law_simple" 9 p__law_simple (sp_sx 3 5 7) := by
  refine D.ok sc__law_simple (fun vs H Q E h => ?_) (fun f cdv A outer s H vs Q E hr h => ?_)
  · obtain ⟨_, _, _, _, _, rfl, _⟩ := h
    rfl
  obtain ⟨F, M, st, c, e, rfl, m1, m2, so, mo, en, q⟩ := h
  refine ⟨_, (pss_cons (ps_set (i := 2) sc__law_simple.nd rfl (by first | exact Or.inl rfl | exact Or.inr rfl) (pe_cal G__law_draw (hr.mono (by (first | subst "lev" | fail))) rfl (pa_cons (pv 0) (pa_cons pe_int pa_nil)))) (pss_cons (ps_if (pt_cmpR (op_eqA (hu64 hr)) (pv 2) pe_int (nomark _)) (pss_one (ps_ret (pe_tup (pa_cons pe_str pa_nil)))) pss_nil) (pss_cons (ps_if (PW.pt (pw_and (pt_cmpR (op_eqA (hu64 hr)) (pv 2) pe_int (nomark _)) (pw_and1 (pt_cmpR (op_eqA (hu64 hr)) (pe_cal G__law_draw (hr.mono (by (first | subst "lev" | fail))) rfl (pa_cons (pv 0) (pa_cons pe_int pa_nil))) pe_int (nomark _))))) (pss_one (ps_ret (pe_tup (pa_cons pe_str pa_nil)))) pss_nil) (pss_cons (ps_if (pt_cmpR (op_eqA (hu64 hr)) (pv 2) pe_int (nomark _)) (pss_one (ps_ret (pe_tup (pa_cons pe_str (pa_cons (pe_cal G__law_expression (hr.mono (by (first | subst "lev" | fail))) rfl (pa_cons (pv 0) (pa_cons (pv 1) (pa_cons pe_int pa_nil)))) (pa_cons (pe_cal G__law_set (hr.mono (by (first | subst "lev" | fail))) rfl (pa_cons (pv 0) (pa_cons (pv 1) pa_nil))) (pa_cons (pe_tup (pa_cons pe_str (pa_cons (pe_lst (pa_cons (pe_cal G__law_set (hr.mono (by (first | subst "lev" | fail))) rfl (pa_cons (pv 0) (pa_cons (pv 1) pa_nil))) (pa_cons (pe_cal G__law_set (hr.mono (by (first | subst "lev" | fail))) rfl (pa_cons (pv 0) (pa_cons (pv 1) pa_nil))) pa_nil))) pa_nil))) pa_nil))))))) pss_nil) (pss_cons (ps_if (pt_cmpR (op_eqA (hu64 hr)) (pv 2) pe_int (nomark _)) (pss_cons (ps_set (i := 3) sc__law_simple.nd rfl (by first | exact Or.inl rfl | exact Or.inr rfl) (pe_tup (pa_cons pe_str (pa_cons (pe_cal G__law_pick (hr.mono (by (first | subst "lev" | fail))) rfl (pa_cons (pv 0) (pa_cons (pe_dget (hu_of hr) (pv 1) pe_str (fun _ _ => rfl)) pa_nil))) pa_nil)))) (pss_cons (ps_set (i := 4) sc__law_simple.nd rfl (by first | exact Or.inl rfl | exact Or.inr rfl) (pe_tup (pa_cons pe_str (pa_cons (pv 3) (pa_cons (pe_tup (pa_cons pe_str (pa_cons (pv 3) (pa_cons (pe_tup (pa_cons pe_str (pa_cons (pe_op op_addA pe_int (pe_cal G__law_draw (hr.mono (by (first | subst "lev" | fail))) rfl (pa_cons (pv 0) (pa_cons pe_int pa_nil)))) pa_nil))) pa_nil)))) pa_nil))))) (pss_one (ps_ret (pe_tup (pa_cons pe_str (pa_cons (pe_tup (pa_cons pe_str (pa_cons (pv 3) (pa_cons (pe_tup (pa_cons pe_str (pa_cons (pe_cal G__law_draw (hr.mono (by (first | subst "lev" | fail))) rfl (pa_cons (pv 0) (pa_cons pe_int pa_nil))) pa_nil))) pa_nil)))) (pa_cons (pe_cal G__law_draw (hr.mono (by (first | subst "lev" | fail))) rfl (pa_cons (pv 0) (pa_cons pe_int pa_nil))) (pa_cons (pv 4) pa_nil))))))))) pss_nil) (pss_one (ps_ret (pe_cal G__law_set (hr.mono (by (first | subst "lev" | fail))) rfl (pa_cons (pv 0) (pa_cons (pv 1) pa_nil)))))))))), ?_⟩
  try dsimp only [cxOf, Cx.nox]
  have en0 := en
  obtain ⟨kvs, ca, ra, sa, cells, reads, spans, h1, h2, h3, h4, h5, h6, h7, h8, h9, h10, l0, l1, l2, l3, l4, z1, z2, z3, z4⟩ := en
  repeat' (first | specialize "st" | fail)
  case refine_2.refine_1 => exact q .skip _ _ ⟨_, rfl, hn⟩ ⟨trivial, trivial, rfl, by decide, by decide, by decide⟩ (by (first | subst "kp" | fail)) (by (first | subst "st_ok" | fail))
  case refine_2.refine_2.refine_1.refine_1 => exact q .stop _ _ ⟨_, rfl, hn⟩ ⟨trivial, trivial, rfl, by decide, by decide, by decide⟩ (by (first | subst "kp" | fail)) (by (first | subst "st_ok" | fail))
  case refine_2.refine_2.refine_1.refine_2.refine_2.refine_2 => exact q sx _ _ sv (sk.wid (by decide) (by decide) (by decide)) (by (first | subst "kp" | fail)) (by (first | subst "st_ok" | fail))
  case refine_2.refine_2.refine_2.refine_2.refine_2 => exact q sx _ _ sv (sk.wid (by decide) (by decide) (by decide)) (by (first | subst "kp" | fail)) (by (first | subst "st_ok" | fail))
  case' refine_2.refine_2.refine_1.refine_2.refine_1 => rename_i s1 v1 H1 i1 k1 e1 y1 s2 v2 H2 i2 k2 e2 y2 H3 e3 p3 H4 hp3 e4 hn3 p4 H5 hp4 e5 hn4
  case' refine_2.refine_2.refine_2.refine_1 => rename_i s1 v1 H1 i1 k1 e1 y1 s2 v2 H2 i2 k2 e2 y2 H3 e3 p3 H4 hp3 e4 hn3 p4 H5 hp4 e5 hn4
  case refine_2.refine_2.refine_1.refine_2.refine_1 | refine_2.refine_2.refine_2.refine_1 =>
    have m3 : p3 ∉ M := MoS.fresh so (by (first | exists "mok" | fail)) hp3
    exact q (.ife t s1 (.seq (.cons s2 (.cons sx .nil)))) _ _ ⟨_, _, _, _, rfl, hn, by (first | subst "tm" | fail), by (first | subst "sx" | fail), ⟨_, p3, _, rfl, by (first | exists "lift" | fail), by (first | exists "lift" | fail), m3, _, _, rfl, by (first | subst "sx" | fail), _, _, rfl, by (first | subst "sx" | fail), rfl⟩⟩ ⟨⟨ok, by omega, k1.fit, k2.fit, sk.fit, trivial⟩, ⟨k1.rule, k2.rule, sk.rule, trivial⟩, by simp [Sx.cnt, Ss.cnt, k1.cnt, k2.cnt, sk.cnt], by have a := k1.dep; have b := k2.dep; have d := sk.dep; simp only [Sx.dep, Ss.dep]; omega, by have a := k1.sz; have b := k2.sz; have d := sk.sz; simp only [Sx.sz, Ss.sz]; omega, by have a := k1.wk; have b := k2.wk; have d := sk.wk; simp only [Sx.wk, Ss.wk]; omega⟩ (by (first | subst "kp" | fail)) (by (first | subst "st_ok" | fail))
  all_goals rename_i y1 p5 H8 hp5 e8 hn5 d1 H7 a1 a2 e7 y7 p4 H6 hp4 e6 hn4 p3 H5 hp3 e5 hn3 p2 H4 hp2 e4 hn2 d0 H3 b1 b2 e3 y3 p1 H2 hp1 e2 hn1 p0 H1 hp0 e1 hn0 H0 e0
  all_goals (obtain ⟨k, hk, rfl⟩ := pk_int (by assumption : (cells.map V.int)[_]? = some _))
  all_goals have hb := h8 k hk
  all_goals exact q (.rep (.bin .lt (.cell k) (.num d0)) dn (.set (.cell k) (.bin .add (.cell k) (.num (1 + d1))))) _ _ ⟨p, .ref p0, .ref p2, rfl, hn, ⟨p0, .ref p5, .ref p1, rfl, by (first | exists "lift" | fail), ⟨p5, rfl, by (first | exists "lift" | fail)⟩, ⟨p1, rfl, by (first | exists "lift" | fail)⟩⟩,
    ⟨p2, .ref p5, .ref p3, rfl, by (first | exists "lift" | fail), ⟨p5, rfl, by (first | exists "lift" | fail)⟩, ⟨p3, .ref p5, .ref p4, rfl, by (first | exists "lift" | fail), ⟨p5, rfl, by (first | exists "lift" | fail)⟩, ⟨p4, rfl, by (first | exists "lift" | fail)⟩⟩⟩⟩ ⟨⟨⟨hb.2, by omega, by omega⟩, by simp [Tm.deep], by omega, by omega, hb.1, by simp [Tm.deep], ⟨hb.2, by omega, by omega⟩, by simp [Tm.deep]⟩, trivial, rfl, by simp [Sx.dep], by simp [Sx.sz], by simp only [Sx.wk]; omega⟩ (by (first | subst "kp" | fail)) (by (first | subst "st_ok" | fail))
abbrev s__law_more_cells : Stmt := topS 32
theorem sc__law_more_cells : FnScope ["_law_world", "_law_many"] ["_law_world", "_law_many"] (defScope s__law_more_cells) := ⟨rfl, rfl, rfl, by decide +kernel, rfl, by decide +kernel, by decide +kernel⟩
abbrev p__law_more_cells : List Str := ["_law_world", "_law_many"]
theorem r_dput {td ty tv : TE} (q : tv σ H fun v H1 => td σ H1 fun x H2 => ty σ H2 fun y H3 => ∃ a H4, x = .ref a ∧ DPut H3 a y v H4 ∧ nx σ H4) : sDPut td ty tv ⟨nx, rt, bk, ct⟩ σ H := q
theorem q_dput {p : Addr} {kvs : List (Key × V)} {z : Str} {B : Hp → Prop} (h : H p = some (.dK kvs)) (hl : kvs.length ≤ 1000) (q : B (upd H p (.dK (putK kvs (Sum.inr z) v)))) : ∃ a H', V.ref p = .ref a ∧ DPut H a (.str z) v H' ∧ B H' :=
  ⟨p, _, rfl, DPut.k (k := Sum.inr z) h (sl1000' (by omega)), q⟩
/-- the world of a core under construction -/
structure Wd where
  threads : Int
  left : Int
  items : Int
  cells : Int
  alts : Bool
  loops : Bool
  chs : List Str
structure WIn (wa ch : Addr) (d : Wd) (H : Hp) : Prop where
  ex : ∃ kvs : List (Key × V), H wa = some (.dK kvs) ∧ kvs.length ≤ 20 ∧ valV kvs (Sum.inr "threads") = some (.int d.threads) ∧ valV kvs (Sum.inr "left") = some (.int d.left) ∧ valV kvs (Sum.inr "items") = some (.int d.items) ∧ valV kvs (Sum.inr "cells") = some (.int d.cells) ∧
    valV kvs (Sum.inr "alts") = some (.bl d.alts) ∧ valV kvs (Sum.inr "loops") = some (.bl d.loops) ∧ valV kvs (Sum.inr "channels") = some (.ref ch)
  hc : H ch = some (.lst (d.chs.map V.str))
  ne : wa ≠ ch
theorem WIn.kp {M : List Addr} {wa ch : Addr} {d : Wd} {H H' : Hp} (k : Kp M H H') (m1 : wa ∉ M) (m2 : ch ∉ M) (h : WIn wa ch d H) : WIn wa ch d H' := by
  obtain ⟨⟨kvs, a, b⟩, c, n⟩ := h
  exact ⟨⟨kvs, k.out _ _ m1 a, b⟩, k.out _ _ m2 c, n⟩
theorem WIn.exx {wa ch : Addr} {d : Wd} {H H' : Hp} (k : Ex H H') (h : WIn wa ch d H) : WIn wa ch d H' := h.kp (M := []) k.kp (by simp) (by simp)
theorem putK_len {kvs : List (Key × V)} {k : Key} {v x : V} (h : valV kvs k = some x) : (putK kvs k v).length = kvs.length := by
  unfold putK
  have : (kvs.any fun kv => decide (kv.1 = k)) = true := by
    unfold valV at h
    obtain ⟨kv, hk, _⟩ := Option.map_eq_some_iff.mp h
    have hs := List.find?_some hk
    exact List.any_eq_true.mpr ⟨kv, List.mem_of_find?_eq_some hk, hs⟩
  rw [if_pos this, List.length_map]
theorem vput_ne {kvs : List (Key × V)} {a b : Str} {v x : V} (h : valV kvs (Sum.inr b) = some x) (n : decide (b = a) = false) : valV (putK kvs (Sum.inr a) v) (Sum.inr b) = some x := by
  rw [valV_put, if_neg (fun e => of_decide_eq_false n (Sum.inr.inj e))]
  exact h
theorem vput_eq {kvs : List (Key × V)} {a : Str} {v : V} : valV (putK kvs (Sum.inr a) v) (Sum.inr a) = some v := by
  rw [valV_put, if_pos rfl]
def sp_more : Sp := fun vs H Q _ => ∃ (wa ch : Addr) (d : Wd) (many : Int), vs = [.ref wa, .int many] ∧ WIn wa ch d H ∧ ∀ H', Kp [wa] H H' → WIn wa ch { d with cells := d.cells + many } H' → Q (.int d.cells) H'
theorem ok_more (T : Glo K w mg) (D : Dn K mg "_law_more_cells" s__law_more_cells p__law_more_cells) : Cal P w K mg base "_law_more_cells" 1 p__law_more_cells sp_more := by
  refine D.ok sc__law_more_cells (fun vs H Q E h => ?_) (fun f cdv A outer s H vs Q E hr h => ?_)
  · obtain ⟨_, _, _, _, rfl, _⟩ := h
    rfl
  obtain ⟨wa, ch, d, many, rfl, ⟨⟨kvs, h1, h2, h3, h4, h5, h6, h7, h8, h9⟩, hch, hne⟩, q⟩ := h
  refine ⟨_, (pss_cons (ps_dput (hu_of hr) (pv 0) pe_str (pe_op op_addA (pe_dget (hu_of hr) (pv 0) pe_str (fun _ _ => rfl)) (pv 1)) rfl) (pss_one (ps_ret (pe_op op_sub (pe_dget (hu_of hr) (pv 0) pe_str (fun _ _ => rfl)) (pv 1))))), ?_⟩
  try dsimp only [cxOf, Cx.nox]
  repeat' (first | specialize "st" | fail)
  repeat' (first | specialize "st" | fail)
  refine q_dput h1 (by omega) ?_
  generalize hq : upd H wa _ = H2
  have hw := at_new hq
  have hv : valV (putK kvs (Sum.inr "cells") (.int (d.cells + many))) (Sum.inr "cells") = some (.int (d.cells + many)) := vput_eq
  repeat' (first | specialize "st" | fail)
  rw [show d.cells + many - many = d.cells by omega]
  refine q H2 (Kp.set (by simp) (fun xs e => by rw [h1] at e; cases e) hq) ⟨⟨_, hw, by rw [putK_len h6]; exact h2, vput_ne h3 (by decide +kernel), vput_ne h4 (by decide +kernel), vput_ne h5 (by decide +kernel), hv, vput_ne h7 (by decide +kernel), vput_ne h8 (by decide +kernel), vput_ne h9 (by decide +kernel)⟩, ?_, hne⟩
  rw [← hq, upd_ne (Ne.symm hne)]
  exact hch
abbrev s__law_env : Stmt := topS 33
theorem sc__law_env : FnScope ["_law_state_here", "_law_world", "_law_first", "_law_env_here", "_law_size"] ["_law_state_here", "_law_world"] (defScope s__law_env) := ⟨rfl, rfl, rfl, by decide +kernel, rfl, by decide +kernel, by decide +kernel⟩
abbrev p__law_env : List Str := ["_law_state_here", "_law_world"]
theorem c_more {wa ch : Addr} {d : Wd} {many : Int} {H : Hp} {Q : VK} {E : XK} (h : WIn wa ch d H) (q : ∀ H', Kp [wa] H H' → WIn wa ch { d with cells := d.cells + many } H' → Q (.int d.cells) H') : sp_more [.ref wa, .int many] H Q E := ⟨wa, ch, d, many, rfl, h, q⟩
theorem WIn.get {wa ch : Addr} {d : Wd} {H : Hp} (h : WIn wa ch d H) : ∃ kvs : List (Key × V), H wa = some (.dK kvs) ∧ valV kvs (Sum.inr "threads") = some (.int d.threads) ∧ valV kvs (Sum.inr "left") = some (.int d.left) ∧ valV kvs (Sum.inr "items") = some (.int d.items) ∧ valV kvs (Sum.inr "cells") = some (.int d.cells) ∧
    valV kvs (Sum.inr "alts") = some (.bl d.alts) ∧ valV kvs (Sum.inr "loops") = some (.bl d.loops) ∧ valV kvs (Sum.inr "channels") = some (.ref ch) := by
  obtain ⟨⟨kvs, h1, h2, h3, h4, h5, h6, h7, h8, h9⟩, _, _⟩ := h
  exact ⟨kvs, h1, h3, h4, h5, h6, h7, h8, h9⟩
/-- an env: its objects and what they hold -/
structure Ea where
  e : Addr
  ca : Addr
  ra : Addr
  sa : Addr
  ga : Addr
  ta : Addr
def Ea.all (a : Ea) : List Addr := [a.e, a.ca, a.ra, a.sa, a.ga, a.ta]
structure Ed where
  cells : List Int
  reads : List Int
  spans : List (Int × Int)
  gives : List Int
  takes : List Int
def Spans (H : Hp) (vs : List V) (ps : List (Int × Int)) : Prop := Paired (fun v (p : Int × Int) => ∃ q, v = V.ref q ∧ H q = some (.tup [.int p.1, .int p.2])) vs ps
structure EIn (a : Ea) (d : Ed) (H : Hp) : Prop where
  ex : ∃ kvs : List (Key × V), H a.e = some (.dK kvs) ∧ kvs.length ≤ 20 ∧ valV kvs (Sum.inr "cells") = some (.ref a.ca) ∧ valV kvs (Sum.inr "reads") = some (.ref a.ra) ∧ valV kvs (Sum.inr "spans") = some (.ref a.sa) ∧ valV kvs (Sum.inr "gives") = some (.ref a.ga) ∧ valV kvs (Sum.inr "takes") = some (.ref a.ta)
  hc : H a.ca = some (.lst (d.cells.map V.int))
  hr : H a.ra = some (.lst (d.reads.map V.int))
  hg : H a.ga = some (.lst (d.gives.map V.int))
  ht : H a.ta = some (.lst (d.takes.map V.int))
  hs : ∃ vs, H a.sa = some (.lst vs) ∧ Spans H vs d.spans
def Ed.span (d : Ed) (x : Int) : Prop := ∃ p ∈ d.spans, p.1 ≤ x ∧ x < p.1 + p.2
/-- what a part over an env and over counters may touch -/
def Ed.fr (d : Ed) (cs : List Int) : Fr := ⟨fun k => k ∈ d.cells ∨ d.span k ∨ k ∈ cs, fun k => k ∈ d.reads ∨ d.span k ∨ k ∈ cs, fun c => c ∈ d.gives, fun c => c ∈ d.takes⟩
structure Ed.ok (d : Ed) : Prop where
  cr : ∀ k ∈ d.cells, k ∈ d.reads
  sp : ∀ p ∈ d.spans, 0 < p.2 ∧ p.2 < 5
  c0 : 0 < d.cells.length
  c1 : d.cells.length < 1000
  r1 : d.reads.length < 1000
  s1 : d.spans.length < 1000
theorem EIn.kp {M : List Addr} {a : Ea} {d : Ed} {H H' : Hp} (k : Kp M H H') (m : ∀ x ∈ a.all, x ∉ M) (h : EIn a d H) : EIn a d H' := by
  obtain ⟨⟨kvs, h1, h2⟩, h3, h4, h5, h6, vs, h7, h8⟩ := h
  have m' : ∀ x, x ∈ [a.e, a.ca, a.ra, a.sa, a.ga, a.ta] → x ∉ M := m
  exact ⟨⟨kvs, k.out _ _ (m' _ (by simp)) h1, h2⟩, k.out _ _ (m' _ (by simp)) h3, k.out _ _ (m' _ (by simp)) h4, k.out _ _ (m' _ (by simp)) h5, k.out _ _ (m' _ (by simp)) h6, vs, k.out _ _ (m' _ (by simp)) h7, Paired.mapP h8 fun _ _ ⟨q, e, z⟩ => ⟨q, e, k.tup _ _ z⟩⟩
theorem EIn.env {M : List Addr} {a : Ea} {d : Ed} {H : Hp} {cs : List Int} (h : EIn a d H) (o : d.ok) (m : ∀ x ∈ a.all, x ∉ M) : EnvS (d.fr cs).W (d.fr cs).R M a.e H := by
  obtain ⟨⟨kvs, h1, h2, h3, h4, h5, _⟩, hc, hr, _, _, vs, hs, hp⟩ := h
  have m' : ∀ x, x ∈ [a.e, a.ca, a.ra, a.sa, a.ga, a.ta] → x ∉ M := m
  have hr0 : 0 < d.reads.length := by
    cases hz : d.reads with
    | nil =>
      cases hy : d.cells with
      | nil => have := o.c0; rw [hy] at this; simp at this
      | cons y ys => have := o.cr y (by rw [hy]; simp); rw [hz] at this; simp at this
    | cons x xs => simp
  refine ⟨kvs, a.ca, a.ra, a.sa, d.cells, d.reads, vs, h1, h3, h4, h5, hc, hr, hs, fun k hk => ⟨.inl hk, .inl (o.cr k hk)⟩, fun k hk => .inl hk, fun v hv => ?_, o.c0, hr0, o.c1, o.r1, by rw [Paired.length hp]; exact o.s1, m' _ (by simp), m' _ (by simp), m' _ (by simp), m' _ (by simp)⟩
  obtain ⟨i, hi, e⟩ := List.getElem_of_mem hv
  have hx : vs[i]? = some v := by rw [List.getElem?_eq_getElem hi, e]
  have key : ∀ {xs : List V} {ys : List (Int × Int)} {i : Nat} {x : V}, Spans H xs ys → xs[i]? = some x → ∃ y, y ∈ ys ∧ ∃ q, x = V.ref q ∧ H q = some (.tup [.int y.1, .int y.2]) := by
    intro xs ys i x h
    induction h generalizing i with
    | nil => intro e; simp at e
    | cons a t ih =>
      intro e
      cases i with
      | zero => simp at e; subst e; exact ⟨_, List.mem_cons_self .., a⟩
      | succ i =>
        obtain ⟨y, hy, z⟩ := ih (by simpa using e)
        exact ⟨y, List.mem_cons_of_mem _ hy, z⟩
  obtain ⟨y, hy, q, e1, e2⟩ := key hp hx
  have := o.sp y hy
  exact ⟨q, y.1, y.2, e1, e2, this.1, this.2, fun i p1 p2 => ⟨.inr (.inl ⟨y, hy, p1, p2⟩), .inr (.inl ⟨y, hy, p1, p2⟩)⟩⟩
theorem kp_newC {M : List Addr} {p : Addr} {H H1 H2 H3 : Hp} (a : Kp M H H1) (e : Ex H1 H2) (b : Kp [p] H2 H3) (hp : H p = none) : Kp M H H3 :=
  ⟨fun x xs h => b.tup _ _ (e _ _ (a.tup _ _ h)), fun x u n h => b.out _ _ (by simp only [List.mem_singleton]; exact ne_of_none h hp) (e _ _ (a.out _ _ n h))⟩
theorem kp_wa {st c wa : Addr} {H H' : Hp} (k : Kp [wa] H H') : Kp [st, c, wa] H H' := Kp.sub k (fun x hx => by
  rw [List.mem_singleton.mp hx]
  simp)
theorem kp_w {st c wa : Addr} {H H' : Hp} (k : Kp [st, c] H H') : Kp [st, c, wa] H H' := Kp.sub k (fun x hx => by
  simp only [List.mem_cons, List.not_mem_nil, or_false] at hx ⊢
  rcases hx with h | h <;> simp [h])
theorem st_out {M : List Addr} {st c : Addr} {H H' : Hp} (k : Kp M H H') (h : StOk st c H) (n1 : st ∉ M) (n2 : c ∉ M) : StOk st c H' := by
  obtain ⟨⟨ns, s, a, b, d⟩, n⟩ := h
  exact ⟨⟨ns, s, k.out _ _ n1 a, k.out _ _ n2 b, d⟩, n⟩
/-- a new env over new cells: from n to m -/
structure Ed.fresh (d : Ed) (n m : Int) : Prop where
  cells : d.cells = [n, n + 1]
  reads : d.reads = [n, n + 1]
  spans : ∀ p ∈ d.spans, n + 2 ≤ p.1 ∧ 0 < p.2 ∧ p.2 < 5 ∧ p.1 + p.2 ≤ m
  sl : d.spans.length ≤ 1
  gives : d.gives = []
  takes : d.takes = []
  lo : n + 2 ≤ m
  hi : m ≤ n + 6
def sp_env : Sp := fun vs H Q _ => ∃ (st c wa ch : Addr) (d : Wd), vs = [.ref st, .ref wa] ∧ StOk st c H ∧ WIn wa ch d H ∧ wa ∉ [st, c] ∧ ch ∉ [st, c] ∧ 0 ≤ d.cells ∧ d.cells ≤ 2000 ∧
  ∀ (a : Ea) (ed : Ed) (m : Int) (H' : Hp), (∀ x ∈ a.all, H x = none) → a.all.Nodup → EIn a ed H' → ed.fresh d.cells m → Kp [st, c, wa] H H' → StOk st c H' → WIn wa ch { d with cells := m } H' → Q (.ref a.e) H'
theorem ok_env (T : Glo K w mg) (D : Dn K mg "_law_env" s__law_env p__law_env) (G__law_draw : Cal P w K mg base "_law_draw" 1 p__law_draw sp_draw) (G__law_more_cells : Cal P w K mg base "_law_more_cells" 1 p__law_more_cells sp_more) : Cal P w K mg base "_law_env" 2 p__law_env sp_env := by
  refine D.ok sc__law_env (fun vs H Q E h => ?_) (fun f cdv A outer s H vs Q E hr h => ?_)
  · obtain ⟨_, _, _, _, _, rfl, _⟩ := h
    rfl
  obtain ⟨st, c, wa, ch, d, rfl, so, wi, nw, nc, d0, d1, q⟩ := h
  refine ⟨_, (pss_cons (ps_set (i := 2) sc__law_env.nd rfl (by first | exact Or.inl rfl | exact Or.inr rfl) (pe_cal G__law_more_cells (hr.mono (by (first | subst "lev" | fail))) rfl (pa_cons (pv 1) (pa_cons pe_int pa_nil)))) (pss_cons (ps_set (i := 3) sc__law_env.nd rfl (by first | exact Or.inl rfl | exact Or.inr rfl) (pe_disp (pps_cons pe_str (pe_lst (pa_cons (pv 2) (pa_cons (pe_op op_addA (pv 2) pe_int) pa_nil))) (pps_cons pe_str (pe_lst (pa_cons (pv 2) (pa_cons (pe_op op_addA (pv 2) pe_int) pa_nil))) (pps_cons pe_str (pe_lst pa_nil) (pps_cons pe_str (pe_lst pa_nil) (pps_cons pe_str (pe_lst pa_nil) pps_nil))))) rfl rfl (by simp) (by decide))) (pss_cons (ps_if (PW.pt (pw_and (pt_cmpR op_lt (pe_dget (hu_of hr) (pv 1) pe_str (fun _ _ => rfl)) pe_int (nomark _)) (pw_and1 (pt_cmpR (op_eqA (hu64 hr)) (pe_cal G__law_draw (hr.mono (by (first | subst "lev" | fail))) rfl (pa_cons (pv 0) (pa_cons pe_int pa_nil))) pe_int (nomark _))))) (pss_cons (ps_set (i := 4) sc__law_env.nd rfl (by first | exact Or.inl rfl | exact Or.inr rfl) (pe_op op_addA pe_int (pe_cal G__law_draw (hr.mono (by (first | subst "lev" | fail))) rfl (pa_cons (pv 0) (pa_cons pe_int pa_nil))))) (pss_one (ps_dput (hu_of hr) (pv 3) pe_str (pe_lst (pa_cons (pe_tup (pa_cons (pe_cal G__law_more_cells (hr.mono (by (first | subst "lev" | fail))) rfl (pa_cons (pv 1) (pa_cons (pv 4) pa_nil))) (pa_cons (pv 4) pa_nil))) pa_nil)) rfl))) pss_nil) (pss_one (ps_ret (pv 3)))))), ?_⟩
  try dsimp only [cxOf, Cx.nox]
  repeat' (first | specialize "st" | fail)
  refine c_more wi (fun H1 k1 w1 => ?_)
  repeat' (first | specialize "st" | fail)
  rename_i Hd ea0 pc Hc hpc ec hnc pr Hr hpr er hnr ps Hs hps es hns pg Hg hpg eg hng
  have E1 : True ∧ Ex H1 Hn := ⟨trivial, by (first | subst "ex" | fail)⟩
  have so1 : StOk st c H1 := st_out k1 so (by simp only [List.mem_singleton]; exact fun z => nw (by rw [← z]; simp)) (by simp only [List.mem_singleton]; exact fun z => nw (by rw [← z]; simp))
  have w2 := w1.exx E1.2
  have nd : ∀ x, H1 x = none → x ∉ [st, c, wa, ch] ∧ H x = none := fun x hx => by
    have a := st_fresh so1 hx
    obtain ⟨⟨wk, hk, _⟩, hch, _⟩ := w1
    have b := ne_of_none hk hx
    have e := ne_of_none hch hx
    simp only [List.mem_cons, List.not_mem_nil, or_false, not_or] at a ⊢
    exact ⟨⟨a.1, a.2, b.symm, e.symm⟩, free_backK k1 (by simp only [List.mem_singleton]; exact b.symm) hx⟩
  have f0 := nd dp hdp
  have f1 := nd pc (free_back ea0 hpc)
  have f2 := nd pr (free_back (ea0.trans ec) hpr)
  have f3 := nd ps (free_back ((ea0.trans ec).trans er) hps)
  have f4 := nd pg (free_back (((ea0.trans ec).trans er).trans es) hpg)
  have f5 := nd p (free_back ((((ea0.trans ec).trans er).trans es).trans eg) hp)
  refine q_disp [(Sum.inr "cells", .ref pc), (Sum.inr "reads", .ref pr), (Sum.inr "spans", .ref ps), (Sum.inr "gives", .ref pg), (Sum.inr "takes", .ref p)] (by (first | exists "lift" | fail)) rfl (by show ([Sum.inr "cells", Sum.inr "reads", Sum.inr "spans", Sum.inr "gives", Sum.inr "takes"] : List Key).Nodup; decide +kernel) (by show 5 ≤ 15; decide) ?_
  intro H5 k5 h5
  have n01 : dp ≠ pc := ne_of_none hdn hpc
  have n02 : dp ≠ pr := ne_of_none (ec _ _ hdn) hpr
  have n03 : dp ≠ ps := ne_of_none (er _ _ (ec _ _ hdn)) hps
  have n04 : dp ≠ pg := ne_of_none (es _ _ (er _ _ (ec _ _ hdn))) hpg
  have n05 : dp ≠ p := ne_of_none (eg _ _ (es _ _ (er _ _ (ec _ _ hdn)))) hp
  have n12 : pc ≠ pr := ne_of_none hnc hpr
  have n13 : pc ≠ ps := ne_of_none (er _ _ hnc) hps
  have n14 : pc ≠ pg := ne_of_none (es _ _ (er _ _ hnc)) hpg
  have n15 : pc ≠ p := ne_of_none (eg _ _ (es _ _ (er _ _ hnc))) hp
  have n23 : pr ≠ ps := ne_of_none hnr hps
  have n24 : pr ≠ pg := ne_of_none (es _ _ hnr) hpg
  have n25 : pr ≠ p := ne_of_none (eg _ _ (es _ _ hnr)) hp
  have n34 : ps ≠ pg := ne_of_none hns hpg
  have n35 : ps ≠ p := ne_of_none (eg _ _ hns) hp
  have n45 : pg ≠ p := ne_of_none hng hp
  have fr : ∀ x ∈ (Ea.mk dp pc pr ps pg p).all, x ∉ [st, c, wa, ch] ∧ H x = none := by
    intro x hx
    simp only [Ea.all, List.mem_cons, List.not_mem_nil, or_false] at hx
    rcases hx with rfl | rfl | rfl | rfl | rfl | rfl <;> assumption
  have nodup : (Ea.mk dp pc pr ps pg p).all.Nodup := by
    simp [Ea.all, n01, n02, n03, n04, n05, n12, n13, n14, n15, n23, n24, n25, n34, n35, n45]
  have ein : EIn ⟨dp, pc, pr, ps, pg, p⟩ ⟨[d.cells, d.cells + 1], [d.cells, d.cells + 1], [], [], []⟩ H5 :=
    ⟨⟨_, h5, by show 5 ≤ 20; decide, rfl, rfl, rfl, rfl, rfl⟩, k5.out _ _ (by simpa using n01.symm) (by show Hn pc = some (.lst [.int d.cells, .int (d.cells + 1)]); (first | exists "lift" | fail)), k5.out _ _ (by simpa using n02.symm) (by show Hn pr = some (.lst [.int d.cells, .int (d.cells + 1)]); (first | exists "lift" | fail)), k5.out _ _ (by simpa using n04.symm) (by show Hn pg = some (.lst []); (first | exists "lift" | fail)), k5.out _ _ (by simpa using n05.symm) (by show Hn p = some (.lst []); (first | exists "lift" | fail)), [], k5.out _ _ (by simpa using n03.symm) (by (first | exists "lift" | fail)), .nil⟩
  have f0' := f0.1
  simp only [List.mem_cons, List.not_mem_nil, or_false, not_or] at f0'
  have so5 : StOk st c H5 := st_out k5 (st_ex E1.2 so1) (by simpa using Ne.symm f0'.1) (by simpa using Ne.symm f0'.2.1)
  have w5 := w2.kp k5 (by simpa using Ne.symm f0'.2.2.1) (by simpa using Ne.symm f0'.2.2.2)
  obtain ⟨wk, hwk, _, _, _, hwc, _⟩ := w5.get
  have kk5 : Kp [st, c, wa] H H5 := kp_newC (kp_wa k1) E1.2 k5 f0.2
  have fr2 : ∀ x ∈ (Ea.mk dp pc pr ps pg p).all, x ∉ [st, c] := fun x hx z => (fr x hx).1 (by
    simp only [List.mem_cons, List.not_mem_nil, or_false] at z ⊢
    rcases z with z | z <;> simp [z])
  have fr0 : Ed.fresh ⟨[d.cells, d.cells + 1], [d.cells, d.cells + 1], [], [], []⟩ d.cells (d.cells + 2) := ⟨rfl, rfl, (fun _ h => by cases h), Nat.zero_le _, rfl, rfl, by omega, by omega⟩
  repeat' (first | specialize "st" | fail)
  case refine_2.refine_2 =>
    exact q ⟨dp, pc, pr, ps, pg, p⟩ _ (d.cells + 2) H5 (fun x hx => (fr x hx).2) nodup ein fr0 kk5 so5 w5
  case refine_2.refine_1.refine_2 =>
    exact q ⟨dp, pc, pr, ps, pg, p⟩ _ (d.cells + 2) Hn (fun x hx => (fr x hx).2) nodup (ein.kp ke fr2) fr0 (kk5.trans (kp_w ke)) so (w5.kp ke nw nc)
  have k6 : Kp [st, c] H5 Hn := by (first | subst "kp" | fail)
  have ein2 := ein.kp k6 fr2
  have w6 := w5.kp k6 nw nc
  have kk6 : Kp [st, c, wa] H Hn := kk5.trans (kp_w k6)
  obtain ⟨po, rfl⟩ : ∃ po, po = p := ⟨p, rfl⟩
  repeat' (first | specialize "st" | fail)
  refine c_more w6 (fun H7 k7 w7 => ?_)
  repeat' (first | specialize "st" | fail)
  rename_i pt Ht hpt et hnt
  have fr3 : ∀ x ∈ (Ea.mk dp pc pr ps pg po).all, x ∉ [wa] := fun x hx z => (fr x hx).1 (by
    rw [List.mem_singleton.mp z]
    simp)
  have kk7 : Kp [st, c, wa] H H7 := kk6.trans (kp_wa k7)
  have so7 : StOk st c H7 := st_out k7 so (by simp only [List.mem_singleton]; exact fun z => nw (by rw [← z]; simp)) (by simp only [List.mem_singleton]; exact fun z => nw (by rw [← z]; simp))
  have ein7 := ein2.kp k7 fr3
  have hp7 : H7 p = none := free_back et hp
  have pm : p ∉ [st, c, wa] := by
    have a := st_fresh so7 hp7
    obtain ⟨⟨wk, hk, _⟩, _, _⟩ := w7
    have b := ne_of_none hk hp7
    simp only [List.mem_cons, List.not_mem_nil, or_false, not_or] at a ⊢
    exact ⟨a.1, a.2, b.symm⟩
  have hp0 : H p = none := free_backK kk7 pm hp7
  obtain ⟨⟨kv7, a1, a2⟩, a3, a4, a5, a6, _⟩ := ein7
  have q0 : dp ≠ p := ne_of_none a1 hp7
  have q1 : pc ≠ p := ne_of_none a3 hp7
  have q2 : pr ≠ p := ne_of_none a4 hp7
  have q4 : pg ≠ p := ne_of_none a5 hp7
  have q5 : po ≠ p := ne_of_none a6 hp7
  obtain ⟨⟨kvs, g1, g2, g3, g4, g5, g6, g7⟩, gc, gr, gg, gt, gs⟩ := ((ein2.kp k7 fr3).kp (M := []) et.kp (fun _ _ => by simp)).kp (M := []) ke.kp (fun _ _ => by simp)
  refine q_dput g1 (by omega) ?_
  generalize hq : upd Hn dp _ = H9
  have hd9 := at_new hq
  have hsp : valV (putK kvs (Sum.inr "spans") (.ref p)) (Sum.inr "spans") = some (.ref p) := vput_eq
  have k9 : Kp [dp] Hn H9 := Kp.set (by simp) (fun xs e => by rw [g1] at e; cases e) hq
  have o9 : ∀ x u, x ≠ dp → Hn x = some u → H9 x = some u := fun x u n h => k9.out _ _ (by simpa using n) h
  have so9 : StOk st c H9 := st_out k9 (st_ex ke (st_ex et so7)) (by simpa using Ne.symm f0'.1) (by simpa using Ne.symm f0'.2.1)
  have w9 := ((w7.exx et).exx ke).kp k9 (by simpa using Ne.symm f0'.2.2.1) (by simpa using Ne.symm f0'.2.2.2)
  repeat' (first | specialize "st" | fail)
  refine q ⟨dp, pc, pr, p, pg, po⟩ ⟨[d.cells, d.cells + 1], [d.cells, d.cells + 1], [(d.cells + 2, 1 + dn)], [], []⟩ (d.cells + 2 + (1 + dn)) H9 ?_ ?_ ⟨⟨_, hd9, by rw [putK_len g5]; exact g2, vput_ne g3 (by decide +kernel), vput_ne g4 (by decide +kernel), hsp, vput_ne g6 (by decide +kernel), vput_ne g7 (by decide +kernel)⟩, o9 _ _ n01.symm gc, o9 _ _ n02.symm gr, o9 _ _ n04.symm gg, o9 _ _ n05.symm gt, [.ref pt], o9 _ _ q0.symm hn, .cons ⟨pt, rfl, k9.tup _ _ (ke _ _ hnt)⟩ .nil⟩ ⟨rfl, rfl, ?_, by simp, rfl, rfl, by omega, by omega⟩ (kp_newC kk7 (et.trans ke) k9 f0.2) so9 ?_
  · intro x hx
    simp only [Ea.all, List.mem_cons, List.not_mem_nil, or_false] at hx
    rcases hx with rfl | rfl | rfl | rfl | rfl | rfl
    · exact f0.2
    · exact f1.2
    · exact f2.2
    · exact hp0
    · exact f4.2
    · exact f5.2
  · simp [Ea.all, n01, n02, q0, n04, n05, n12, q1, n14, n15, q2, n24, n25, q4.symm, q5.symm, n45]
  · intro k hk
    rw [List.mem_singleton.mp hk]
    refine ⟨?_, ?_, ?_, ?_⟩ <;> dsimp only <;> omega
  · exact w9
abbrev s__law_alt : Stmt := topS 34
theorem sc__law_alt : FnScope ["_law_state_here", "_law_env_here", "_law_c", "_law_rows", "_law_other", "_law_guard", "_law_row"] ["_law_state_here", "_law_env_here", "_law_c"] (defScope s__law_alt) := ⟨rfl, rfl, rfl, by decide +kernel, rfl, by decide +kernel, by decide +kernel⟩
abbrev p__law_alt : List Str := ["_law_state_here", "_law_env_here", "_law_c"]
theorem As.in_at {M : List Addr} {H : Hp} : ∀ {rs : As} {xs : List V} {i : Nat} {x : V}, rs.In M H xs → xs[i]? = some x → ∃ q u c y z, x = .ref q ∧ H q = some (.tup [u, .int c, y, z]) ∧ rs.chs[i]? = some c
  | .nil, _, _, _, h, e => by cases h; simp at e
  | .cons _ c _ _ r, _, i, x, ⟨q, u, x0, y, ys, e0, h, g, a, b, t⟩, e => by
    subst e0
    cases i with
    | zero =>
      simp at e
      subst e
      exact ⟨q, u, c, x0, y, rfl, h, rfl⟩
    | succ i =>
      obtain ⟨q, u, c, y, z, e1, e2, e3⟩ := As.in_at (i := i) t (by simpa using e)
      exact ⟨q, u, c, y, z, e1, e2, by simpa [As.chs] using e3⟩
theorem As.chs_len {M : List Addr} {H : Hp} : ∀ {rs : As} {xs : List V}, rs.In M H xs → rs.chs.length = xs.length
  | .nil, _, h => by cases h; rfl
  | .cons _ c _ _ r, _, ⟨q, u, x0, y, ys, e0, h, g, a, b, t⟩ => by
    subst e0
    simp only [As.chs, List.length_cons, As.chs_len t]
theorem as_ex {M : List Addr} {H H' : Hp} {s : As} {v : List V} (k : Ex H H') (h : s.In M H v) : s.In M H' v := As.In.kp k.kp h
theorem as_kp {M : List Addr} {st c : Addr} {H H' : Hp} {s : As} {v : List V} (k : Kp [st, c] H H') (h1 : st ∈ M) (h2 : c ∈ M) (h : s.In M H v) : s.In M H' v := As.In.kp (kp_sub2 k h1 h2) h
local macro_rules | `(tactic| subst "as") => `(tactic| (refine as_kp (by assumption) (by assumption) (by assumption) ?_; subst "as"))
local macro_rules | `(tactic| subst "as") => `(tactic| (refine as_ex (by assumption) ?_; subst "as"))
local macro_rules | `(tactic| subst "as") => `(tactic| assumption)
structure As.ok (F : Fr) (n : Nat) (rs : As) : Prop where
  fit : rs.fit F
  rule : rs.rule
  nd : rs.chs.Nodup
  cnt : rs.cnt = 0
  dep : rs.dep ≤ 3
  sz : rs.sz ≤ 5 * n
  wk : rs.wk ≤ 7
  cons : ∃ g c t s r, rs = .cons g c t s r
theorem As.ok.one {F : Fr} {g : Option Tm} {k : Int} {t : Tm} {s : Sx} (hg : gFit F.R g) (hk : F.T k) (ht : t.aim F.W F.R) (hd : t.deep ≤ 5) (hs : s.Pl F 3 5 7) : (As.cons g k t s .nil).ok F 1 :=
  ⟨⟨hg, hk, ht, hd, hs.fit, trivial⟩, ⟨hs.rule, trivial⟩, by simp [As.chs], by simp [As.cnt, hs.cnt], by have := hs.dep; simp only [As.dep]; omega, by have := hs.sz; simp only [As.sz]; omega, by have := hs.wk; simp only [As.wk]; omega, ⟨_, _, _, _, _, rfl⟩⟩
theorem As.ok.up {F : Fr} {n m : Nat} {rs : As} (h : rs.ok F n) (l : n ≤ m) : rs.ok F m := ⟨h.fit, h.rule, h.nd, h.cnt, h.dep, by have := h.sz; omega, h.wk, h.cons⟩
theorem As.ok.app {F : Fr} {n m : Nat} {a b : As} (h : a.ok F n) (g : b.ok F m) (d : ∀ x ∈ a.chs, x ∉ b.chs) : (a.app b).ok F (n + m) :=
  ⟨As.app_fit.mpr ⟨h.fit, g.fit⟩, As.app_rule.mpr ⟨h.rule, g.rule⟩, by rw [As.app_chs, List.nodup_append]; exact ⟨h.nd, g.nd, fun x hx y hy e => d x hx (e ▸ hy)⟩, by rw [As.app_cnt, h.cnt, g.cnt], by rw [As.app_dep]; have := h.dep; have := g.dep; omega, by rw [As.app_sz]; have := h.sz; have := g.sz; omega, by rw [As.app_wk]; have := h.wk; have := g.wk; omega, by
    obtain ⟨x, c, t, s, r, rfl⟩ := h.cons
    exact ⟨_, _, _, _, _, rfl⟩⟩
theorem As.ok.pl {F : Fr} {n : Nat} {rs : As} (h : rs.ok F n) (l : n ≤ 25) : (Sx.alt rs).Pl F 4 126 9 :=
  ⟨h.fit, ⟨h.nd, h.rule⟩, h.cnt, by have := h.dep; simp only [Sx.dep]; omega, by have := h.sz; simp only [Sx.sz]; omega, by have := h.wk; simp only [Sx.wk]; omega⟩
def sp_alt : Sp := fun vs H Q _ => ∃ (a : Ea) (ed : Ed) (cs : List Int) (M : List Addr) (st c : Addr) (ch : Int), vs = [.ref st, .ref a.e, .int ch] ∧ st ∈ M ∧ c ∈ M ∧ StOk st c H ∧ MoS M st c H ∧ EIn a ed H ∧ ed.ok ∧ (∀ x ∈ a.all, x ∉ M) ∧ ch ∈ ed.takes ∧ ed.takes.length ≤ 24 ∧
  ∀ (rs : As) (v : V) (H' : Hp), (Sx.alt rs).In M H' v → (Sx.alt rs).Pl (ed.fr cs) 4 126 9 → (∃ g k t s r, rs = .cons g k t s r) → Kp [st, c] H H' → StOk st c H' → Q v H'
theorem ok_alt (T : Glo K w mg) (D : Dn K mg "_law_alt" s__law_alt p__law_alt) (G__law_draw : Cal P w K mg base "_law_draw" 1 p__law_draw sp_draw) (G__law_target : Cal P w K mg base "_law_target" 4 p__law_target sp_target)
    (G__law_expression : Cal P w K mg base "_law_expression" 7 p__law_expression (sp_expr 3)) (G__law_simple : Cal P w K mg base "_law_simple" 9 p__law_simple (sp_sx 3 5 7)) :
    Cal P w K mg base "_law_alt" 10 p__law_alt sp_alt := by
  refine D.ok sc__law_alt (fun vs H Q E h => ?_) (fun f cdv A outer s H vs Q E hr h => ?_)
  · obtain ⟨_, _, _, _, _, _, _, rfl, _⟩ := h
    rfl
  obtain ⟨a, ed, cs, M, st, c, ch, rfl, m1, m2, so, mo, ei, eo, ma, hc, tl, q⟩ := h
  refine ⟨_, (pss_cons (ps_set (i := 3) sc__law_alt.nd rfl (by first | exact Or.inl rfl | exact Or.inr rfl) (pe_lst (pa_cons (pe_tup (pa_cons pe_non (pa_cons (pv 2) (pa_cons (pe_cal G__law_target (hr.mono (by (first | subst "lev" | fail))) rfl (pa_cons (pv 0) (pa_cons (pv 1) pa_nil))) (pa_cons (pe_cal G__law_simple (hr.mono (by (first | subst "lev" | fail))) rfl (pa_cons (pv 0) (pa_cons (pv 1) pa_nil))) pa_nil))))) pa_nil))) (pss_cons (ps_for PassesOwn.never rfl (pi_list (pe_dget (hu_of hr) (pv 1) pe_str (fun _ _ => rfl))) (pg_name (i := 4) sc__law_alt.nd rfl (by first | exact Or.inl rfl | exact Or.inr rfl)) (pss_one (ps_if (PW.pt (pw_and (pt_cmpR (op_eqA (hu64 hr)) (pe_callB call_lenA rfl T.n_len (by decide +kernel) (pa_cons (pe_lc (own := [("_law_row", 6)]) rfl sc__law_alt.nd (pi_list (pv 3)) (blkOk_by (N := ["_law_state_here", "_law_env_here", "_law_c", "_law_rows", "_law_other", "_law_guard", "_law_row"]) (sc := defScope s__law_alt) (by decide +kernel)) (fun _ _ _ _ _ => (pg_name (i := 6) sc__law_alt.nd rfl (by first | exact Or.inl rfl | exact Or.inr rfl))) (fun _ _ _ _ _ => (pts_one (pt_cmpR (op_eqK (K := K) rfl (hu64 hr)) (pe_ix (ix_seqK (K := K) rfl) (pv 6) pe_int (fun _ _ => rfl)) (pv 4) (nomark _)))) (fun _ _ _ _ _ => (pv 6))) pa_nil)) pe_int (nomark _)) (pw_and1 (pt_cmpR (op_eqA (hu64 hr)) (pe_cal G__law_draw (hr.mono (by (first | subst "lev" | fail))) rfl (pa_cons (pv 0) (pa_cons pe_int pa_nil))) pe_int (nomark _))))) (pss_cons (ps_set (i := 5) sc__law_alt.nd rfl (by first | exact Or.inl rfl | exact Or.inr rfl) (pe_ifExp (pt_cmpR (op_eqA (hu64 hr)) (pe_cal G__law_draw (hr.mono (by (first | subst "lev" | fail))) rfl (pa_cons (pv 0) (pa_cons pe_int pa_nil))) pe_int (nomark _)) pe_non (pe_cal G__law_expression (hr.mono (by (first | subst "lev" | fail))) rfl (pa_cons (pv 0) (pa_cons (pv 1) (pa_cons pe_int pa_nil)))))) (pss_cons (ps_set (i := 6) sc__law_alt.nd rfl (by first | exact Or.inl rfl | exact Or.inr rfl) (pe_tup (pa_cons (pv 5) (pa_cons (pv 4) (pa_cons (pe_cal G__law_target (hr.mono (by (first | subst "lev" | fail))) rfl (pa_cons (pv 0) (pa_cons (pv 1) pa_nil))) (pa_cons (pe_cal G__law_simple (hr.mono (by (first | subst "lev" | fail))) rfl (pa_cons (pv 0) (pa_cons (pv 1) pa_nil))) pa_nil)))))) (pss_one (ps_set (i := 3) sc__law_alt.nd rfl (by first | exact Or.inl rfl | exact Or.inr rfl) (pe_ifExp (pt_cmpR (op_eqA (hu64 hr)) (pe_cal G__law_draw (hr.mono (by (first | subst "lev" | fail))) rfl (pa_cons (pv 0) (pa_cons pe_int pa_nil))) pe_int (nomark _)) (pe_op op_addA (pv 3) (pe_lst (pa_cons (pv 6) pa_nil))) (pe_op op_addA (pe_lst (pa_cons (pv 6) pa_nil)) (pv 3))))))) pss_nil))) (pss_one (ps_ret (pe_tup (pa_cons pe_str (pa_cons (pv 3) pa_nil))))))), ?_⟩
  try dsimp only [cxOf, Cx.nox]
  have ms : ∀ x, x ∈ [st, c] → x ∈ M := fun x hx => by
    simp only [List.mem_cons, List.not_mem_nil, or_false] at hx
    rcases hx with rfl | rfl <;> assumption
  have mb : ∀ x ∈ a.all, x ∉ [st, c] := fun x hx z => ma x hx (ms x z)
  have en : EnvOk (ed.fr cs).W (ed.fr cs).R st c a.e H := ei.env eo mb
  obtain ⟨⟨kvs, g1, g2, g3, g4, g5, g6, g7⟩, gc, gr, gg, gt, gs⟩ := id ei
  have mt : a.ta ∉ [st, c] := mb _ (by simp [Ea.all])
  have me : a.e ∉ [st, c] := mb _ (by simp [Ea.all])
  repeat' (first | specialize "st" | fail)
  rename_i v0 H0 k0 s0 H1 k1 p1 H2 hp1 e1 hn1
  have mp : p ∉ M := MoS.fresh so (by (first | exists "mok" | fail)) (free_back e1 hp)
  refine w_list (xs := ed.takes.map V.int) (fun i σ H' => ∃ (p : Addr) (rs : As) (xs : List V) (x1 x2 x3 : Option V), σ = [some (.ref st), some (.ref a.e), some (.int ch), some (.ref p), x1, x2, x3] ∧ Kp [st, c] H H' ∧ StOk st c H' ∧ H' p = some (.lst xs) ∧ p ∉ M ∧ rs.In M H' xs ∧ rs.ok (ed.fr cs) (i + 1)) ?_ ?_ ?_ ?_
  · exact ⟨p, .cons none ch t sx .nil, _, _, _, _, rfl, by (first | subst "kpx" | fail), by (first | subst "st_ok" | fail), hn, mp, ⟨p1, .non, v0, v, [], rfl, by (first | exists "lift" | fail), rfl, by (first | subst "tm" | fail), by (first | subst "sx" | fail), rfl⟩, As.ok.one trivial hc ok (by omega) sk⟩
  · rintro i σ H' _ ⟨_, _, _, _, _, _, rfl, k, _⟩
    exact sql (k.out _ _ mt gt)
  · rintro i x σ H' hx ⟨p, rs, xs, x1, x2, x3, rfl, k, so, hpo, mp, hrs, okr⟩
    rw [List.getElem?_map] at hx
    obtain ⟨o, ho, rfl⟩ := Option.map_eq_some_iff.mp hx
    have hT : o ∈ ed.takes := List.mem_of_getElem? ho
    have hi : i < 24 := by
      have := (List.getElem?_eq_some_iff.mp ho).1
      omega
    have hl : xs.length ≤ 130 := Nat.le_trans (As.in_len hrs) (Nat.le_trans okr.sz (by omega))
    have en' : EnvOk (ed.fr cs).W (ed.fr cs).R st c a.e H' := env_kp k en
    have mo' : MoS M st c H' := mo.kp k
    have np : p ∉ [st, c] := fun z => mp (ms _ z)
    repeat' (first | specialize "st" | fail)
    intro L hL
    refine lc_list (xs := xs) (fun i H2 => Ex H' H2 ∧ ∃ acc, H2 L = some (.lst acc) ∧ acc.length ≤ i ∧ (acc = [] → ∀ k ∈ rs.chs.take i, k ≠ o)) ?_ ?_ ?_ ?_
    · exact ⟨Ex.mk hL rfl, [], upd_same, Nat.le_refl _, fun _ k h => by simp at h⟩
    · rintro j H2 _ ⟨e, _⟩
      exact sql (e _ _ hpo)
    · rintro j x H2 hx ⟨e, acc, ha, hal, hno⟩
      obtain ⟨q0, u, c1, y, z, rfl, hq, hc1⟩ := As.in_at hrs hx
      have hj : j < xs.length := (List.getElem?_eq_some_iff.mp hx).1
      refine ⟨rfl, ?_⟩
      repeat' (first | specialize "st" | fail)
      · refine ⟨acc, ha, sl1000' (by omega), ?_, acc ++ [.ref q0], upd_same, by rw [List.length_append]; exact Nat.add_le_add_right hal 1, fun z => by simp at z⟩
        intro b u hb
        rw [upd_ne (ne_of_none hb hL)]
        exact e _ _ hb
      · refine ⟨e, acc, ha, by omega, fun z k hk => ?_⟩
        rw [List.take_add_one, hc1] at hk
        rcases List.mem_append.mp hk with hk | hk
        · exact hno z k hk
        · rw [List.mem_singleton.mp hk]
          assumption
    · rintro H2 ⟨e, acc, ha, hal, hno⟩
      rw [← As.chs_len hrs, List.take_length] at hno
      have hl2 : acc.length ≤ 1000 := by omega
      have hcl := okr.cons
      obtain ⟨po, rfl⟩ : ∃ x, x = p := ⟨_, rfl⟩
      clear mo ei gs gc gr gg
      repeat' (first | specialize "st" | fail)
      · rename_i z1 d1 A1 b1 b2 k1 s1 z2 d2 A2 b3 b4 k2 s2 z3 v1 A3 k3 s3 A4 k4 s4 p1 A5 hp1 e1 hn1 A6 k5 z4 p2 A7 hp2 e2 hn2
        have mn : p ∉ M := MoS.fresh (st := st) (c := c) (H := A7) (by (first | subst "st_ok" | fail)) (by (first | exists "mok" | fail)) hp
        have za : acc = [] := List.eq_nil_of_length_eq_zero (by omega)
        exact ⟨p, rs.app (.cons none o t sx .nil), _, _, _, _, rfl, by (first | subst "kpx" | fail), by (first | subst "st_ok" | fail), hn, mn, As.app_in (by (first | subst "as" | fail)) ⟨p1, .non, v1, v, [], rfl, by (first | exists "lift" | fail), rfl, by (first | subst "tm" | fail), by (first | subst "sx" | fail), rfl⟩, okr.app (As.ok.one (g := none) trivial hT ok (by omega) sk) (fun y hy z => hno za y hy (List.mem_singleton.mp z))⟩
      · rename_i z1 d1 A1 b1 b2 k1 s1 z2 d2 A2 b3 b4 k2 s2 z3 v1 A3 k3 s3 A4 k4 s4 p1 A5 hp1 e1 hn1 A6 k5 z4 p2 A7 hp2 e2 hn2
        have mn : p ∉ M := MoS.fresh (st := st) (c := c) (H := A7) (by (first | subst "st_ok" | fail)) (by (first | exists "mok" | fail)) hp
        have za : acc = [] := List.eq_nil_of_length_eq_zero (by omega)
        exact ⟨p, .cons none o t sx rs, _, _, _, _, rfl, by (first | subst "kpx" | fail), by (first | subst "st_ok" | fail), hn, mn, ⟨p1, .non, v1, v, xs, rfl, by (first | exists "lift" | fail), rfl, by (first | subst "tm" | fail), by (first | subst "sx" | fail), by (first | subst "as" | fail)⟩, As.ok.up ((As.ok.one (g := none) trivial hT ok (by omega) sk).app okr (fun y hy z => hno za y z (List.mem_singleton.mp hy))) (by omega)⟩
      · rename_i z1 d1 A1 b1 b2 k1 s1 z2 d2 A2 b3 b4 k2 s2 z3 tg Ag ivg okg kg sg v1 A3 k3 s3 A4 k4 s4 p1 A5 hp1 e1 hn1 A6 k5 z4 p2 A7 hp2 e2 hn2
        have mn : p ∉ M := MoS.fresh (st := st) (c := c) (H := A7) (by (first | subst "st_ok" | fail)) (by (first | exists "mok" | fail)) hp
        have za : acc = [] := List.eq_nil_of_length_eq_zero (by omega)
        exact ⟨p, rs.app (.cons (some tg) o t sx .nil), _, _, _, _, rfl, by (first | subst "kpx" | fail), by (first | subst "st_ok" | fail), hn, mn, As.app_in (by (first | subst "as" | fail)) ⟨p1, x, v1, v, [], rfl, by (first | exists "lift" | fail), by (first | subst "tm" | fail), by (first | subst "tm" | fail), by (first | subst "sx" | fail), rfl⟩, okr.app (As.ok.one (g := (some tg)) ⟨okg, by omega⟩ hT ok (by omega) sk) (fun y hy z => hno za y hy (List.mem_singleton.mp z))⟩
      · rename_i z1 d1 A1 b1 b2 k1 s1 z2 d2 A2 b3 b4 k2 s2 z3 tg Ag ivg okg kg sg v1 A3 k3 s3 A4 k4 s4 p1 A5 hp1 e1 hn1 A6 k5 z4 p2 A7 hp2 e2 hn2
        have mn : p ∉ M := MoS.fresh (st := st) (c := c) (H := A7) (by (first | subst "st_ok" | fail)) (by (first | exists "mok" | fail)) hp
        have za : acc = [] := List.eq_nil_of_length_eq_zero (by omega)
        exact ⟨p, .cons (some tg) o t sx rs, _, _, _, _, rfl, by (first | subst "kpx" | fail), by (first | subst "st_ok" | fail), hn, mn, ⟨p1, x, v1, v, xs, rfl, by (first | exists "lift" | fail), by (first | subst "tm" | fail), by (first | subst "tm" | fail), by (first | subst "sx" | fail), by (first | subst "as" | fail)⟩, As.ok.up ((As.ok.one (g := (some tg)) ⟨okg, by omega⟩ hT ok (by omega) sk).app okr (fun y hy z => hno za y z (List.mem_singleton.mp hy))) (by omega)⟩
      · exact ⟨po, rs, xs, _, _, _, rfl, by (first | subst "kpx" | fail), by (first | subst "st_ok" | fail), by (first | exists "lift" | fail), mp, by (first | subst "as" | fail), okr.up (by omega)⟩
      · exact ⟨po, rs, xs, _, _, _, rfl, by (first | subst "kpx" | fail), by (first | subst "st_ok" | fail), by (first | exists "lift" | fail), mp, by (first | subst "as" | fail), okr.up (by omega)⟩
  · rintro σ H' ⟨p, rs, xs, x1, x2, x3, rfl, k, so, hp, mp, hrs, ok⟩
    obtain ⟨pp, rfl⟩ : ∃ x, x = p := ⟨_, rfl⟩
    repeat' (first | specialize "st" | fail)
    rw [List.length_map] at ok
    exact q rs _ _ ⟨p, pp, xs, rfl, by assumption, by (first | exists "lift" | fail), mp, by (first | subst "as" | fail)⟩ (ok.pl (by omega)) ok.cons (by (first | subst "kp" | fail)) (by (first | subst "st_ok" | fail))
/-! ### frames of the generator: M holds st, c, world, channels and what is under construction -/
abbrev Mw (st c wa ch : Addr) : List Addr := [st, c, wa, ch]
theorem subm_n {M : List Addr} : ∀ x, x ∈ ([] : List Addr) → x ∈ M := fun _ h => absurd h List.not_mem_nil
theorem subm_c {M N : List Addr} {a : Addr} (h : a ∈ M) (t : ∀ x, x ∈ N → x ∈ M) : ∀ x, x ∈ a :: N → x ∈ M := fun x hx => by
  rcases List.mem_cons.mp hx with rfl | hx
  · exact h
  · exact t x hx
theorem MoS.al {M : List Addr} {st c : Addr} {H H' : Hp} (a : Al H H') (h : MoS M st c H) : MoS M st c H' := fun x hx n => by
  obtain ⟨u, hu⟩ := h x hx n
  cases h1 : H' x with
  | none => exact absurd h1 (a x (fsome hu))
  | some o => exact ⟨o, rfl⟩
theorem WIn.al {wa ch : Addr} {d : Wd} {H : Hp} (h : WIn wa ch d H) : H wa ≠ none ∧ H ch ≠ none := by
  obtain ⟨⟨kvs, a, _⟩, b, _⟩ := h
  exact ⟨fsome a, fsome b⟩
theorem al_mw {st c wa ch : Addr} {d : Wd} {H H' : Hp} (k : Kp (Mw st c wa ch) H H') (so : StOk st c H') (wi : WIn wa ch d H') : Al H H' := al_kp k fun x hx => by
  obtain ⟨⟨ns, z, a, b, _⟩, _⟩ := so
  simp only [List.mem_cons, List.not_mem_nil, or_false] at hx
  rcases hx with rfl | rfl | rfl | rfl
  · exact fsome a
  · exact fsome b
  · exact wi.al.1
  · exact wi.al.2
theorem al_one {p : Addr} {H H' : Hp} (k : Kp [p] H H') (h : H' p ≠ none) : Al H H' := al_kp k fun x hx => by rw [List.mem_singleton.mp hx]; exact h
theorem MoS.cons {M : List Addr} {st c p : Addr} {H : Hp} (h : MoS M st c H) (hp : H p ≠ none) : MoS (p :: M) st c H := fun x hx n => by
  rcases List.mem_cons.mp hx with rfl | hx
  · cases h1 : H x with
    | none => exact absurd h1 hp
    | some o => exact ⟨o, rfl⟩
  · exact h x hx n
theorem sx_sub {M N : List Addr} {H H' : Hp} {s : Sx} {v : V} (k : Kp N H H') (n : ∀ x, x ∈ N → x ∈ M) (h : s.In M H v) : s.In M H' v := Sx.In.kp (Kp.sub k n) h
theorem ss_sub {M N : List Addr} {H H' : Hp} {s : Ss} {v : List V} (k : Kp N H H') (n : ∀ x, x ∈ N → x ∈ M) (h : s.In M H v) : s.In M H' v := Ss.In.kp (Kp.sub k n) h
theorem as_sub {M N : List Addr} {H H' : Hp} {s : As} {v : List V} (k : Kp N H H') (n : ∀ x, x ∈ N → x ∈ M) (h : s.In M H v) : s.In M H' v := As.In.kp (Kp.sub k n) h
theorem ps_sub {M N : List Addr} {H H' : Hp} {s : Ps} {v : List V} (k : Kp N H H') (n : ∀ x, x ∈ N → x ∈ M) (h : s.In M H v) : s.In M H' v := Ps.In.kp (Kp.sub k n) h
theorem env_ksub {W R : Int → Prop} {M N : List Addr} {e : Addr} {H H' : Hp} (k : Kp N H H') (n : ∀ x, x ∈ N → x ∈ M) (h : EnvS W R M e H) : EnvS W R M e H' := env_kp (Kp.sub k n) h
theorem EIn.exx {a : Ea} {d : Ed} {H H' : Hp} (k : Ex H H') (h : EIn a d H) : EIn a d H' := h.kp (M := []) k.kp (fun _ _ => by simp)
/-- nothing of the env is in M -/
abbrev Ea.out (a : Ea) (M : List Addr) : Prop := ∀ x ∈ a.all, x ∉ M
theorem EIn.ksub {a : Ea} {d : Ed} {M N : List Addr} {H H' : Hp} (k : Kp N H H') (o : a.out M) (n : ∀ x, x ∈ N → x ∈ M) (h : EIn a d H) : EIn a d H' := h.kp k (fun x hx z => o x hx (n x z))
theorem EIn.live {a : Ea} {d : Ed} {H : Hp} (h : EIn a d H) : ∀ x ∈ a.all, H x ≠ none := by
  obtain ⟨⟨kvs, h1, _⟩, h3, h4, h5, h6, vs, h7, _⟩ := h
  intro x hx
  have hx' : x ∈ [a.e, a.ca, a.ra, a.sa, a.ga, a.ta] := hx
  simp only [List.mem_cons, List.not_mem_nil, or_false] at hx'
  rcases hx' with rfl | rfl | rfl | rfl | rfl | rfl
  · exact fsome h1
  · exact fsome h3
  · exact fsome h4
  · exact fsome h7
  · exact fsome h5
  · exact fsome h6
theorem EIn.more {a : Ea} {d : Ed} {M : List Addr} {p : Addr} {H : Hp} (h : EIn a d H) (o : a.out M) (hp : H p = none) : a.out (p :: M) := fun x hx z => by
  rcases List.mem_cons.mp z with rfl | z
  · exact h.live _ hx hp
  · exact o x hx z
theorem Ea.out.sub {a : Ea} {M N : List Addr} (o : a.out M) (n : ∀ x, x ∈ N → x ∈ M) : a.out N := fun x hx z => o x hx (n x z)
mutual
theorem Sx.In.less {M N : List Addr} (n : ∀ x, x ∈ N → x ∈ M) {H : Hp} : ∀ {s : Sx} {v : V}, s.In M H v → s.In N H v
  | .skip, _, h => h
  | .stop, _, h => h
  | .set _ _, _, h => h
  | .give _ _, _, h => h
  | .take _ _, _, h => h
  | .ife _ _ _, _, ⟨p, x, y, z, e, h, a, b, c⟩ => ⟨p, x, y, z, e, h, a, Sx.In.less n b, Sx.In.less n c⟩
  | .rep _ _ _, _, ⟨p, x, y, e, h, a, b⟩ => ⟨p, x, y, e, h, a, Sx.In.less n b⟩
  | .seq _, _, ⟨p, l, xs, e, h, hl, m, a⟩ => ⟨p, l, xs, e, h, hl, fun z => m (n _ z), Ss.In.less n a⟩
  | .par _, _, ⟨p, l, xs, e, h, hl, m, a⟩ => ⟨p, l, xs, e, h, hl, fun z => m (n _ z), Ps.In.less n a⟩
  | .alt _, _, ⟨p, l, xs, e, h, hl, m, a⟩ => ⟨p, l, xs, e, h, hl, fun z => m (n _ z), As.In.less n a⟩
theorem Ss.In.less {M N : List Addr} (n : ∀ x, x ∈ N → x ∈ M) {H : Hp} : ∀ {s : Ss} {v : List V}, s.In M H v → s.In N H v
  | .nil, _, h => h
  | .cons _ _, _, ⟨x, ys, e, a, b⟩ => ⟨x, ys, e, Sx.In.less n a, Ss.In.less n b⟩
theorem Ps.In.less {M N : List Addr} (n : ∀ x, x ∈ N → x ∈ M) {H : Hp} : ∀ {s : Ps} {v : List V}, s.In M H v → s.In N H v
  | .nil, _, h => h
  | .cons _ _ _, _, ⟨q, x, ys, e, h, a, b⟩ => ⟨q, x, ys, e, h, Sx.In.less n a, Ps.In.less n b⟩
theorem As.In.less {M N : List Addr} (n : ∀ x, x ∈ N → x ∈ M) {H : Hp} : ∀ {s : As} {v : List V}, s.In M H v → s.In N H v
  | .nil, _, h => h
  | .cons _ _ _ _ _, _, ⟨q, u, x, y, ys, e, h, g, a, b, c⟩ => ⟨q, u, x, y, ys, e, h, g, a, Sx.In.less n b, As.In.less n c⟩
end
local macro_rules | `(tactic| subst "mem") => `(tactic| (refine List.mem_cons_of_mem _ ?_; subst "mem"))
local macro_rules | `(tactic| subst "mem") => `(tactic| exact List.mem_cons_self ..)
local macro_rules | `(tactic| subst "mem") => `(tactic| assumption)
local macro_rules | `(tactic| subst "subm") => `(tactic| (refine subm_c ?a ?t; (case a => subst "mem"); (case t => subst "subm")))
local macro_rules | `(tactic| subst "subm") => `(tactic| exact subm_n)
local macro_rules | `(tactic| subst "win") => `(tactic| (refine WIn.kp (by assumption) (by (first | exists "nin" | fail)) (by (first | exists "nin" | fail)) ?_; subst "win"))
local macro_rules | `(tactic| subst "win") => `(tactic| (refine WIn.exx (by assumption) ?_; subst "win"))
local macro_rules | `(tactic| subst "win") => `(tactic| assumption)
theorem WIn.al1 {wa ch : Addr} {d : Wd} {H : Hp} (h : WIn wa ch d H) : H wa ≠ none := h.al.1
local macro_rules | `(tactic| subst "alo") => `(tactic| exact WIn.al1 (by assumption))
local macro_rules | `(tactic| subst "alo") => `(tactic| exact fsome (by assumption))
theorem moS_mw {M : List Addr} {st c wa ch : Addr} {d : Wd} {H H' : Hp} (k : Kp (Mw st c wa ch) H H') (so : StOk st c H') (wi : WIn wa ch d H') (h : MoS M st c H) : MoS M st c H' := h.al (al_mw k so wi)
local macro_rules | `(tactic| exists "mok") => `(tactic| (refine MoS.cons ?_ (by (first | subst "alo" | fail)); exists "mok"))
local macro_rules | `(tactic| exists "mok") => `(tactic| (refine MoS.al (al_one (by assumption) (by (first | subst "alo" | fail))) ?_; exists "mok"))
local macro_rules | `(tactic| exists "mok") => `(tactic| (refine moS_mw (by assumption) (by assumption) (by assumption) ?_; exists "mok"))
local macro_rules | `(tactic| exists "mok") => `(tactic| (refine MoS.kp (by assumption) ?_; exists "mok"))
local macro_rules | `(tactic| exists "mok") => `(tactic| (refine MoS.ex (by assumption) ?_; exists "mok"))
local macro_rules | `(tactic| exists "mok") => `(tactic| assumption)
local macro_rules | `(tactic| exists "nm") => `(tactic| (refine MoS.fresh (st := ?st) (c := ?c) (H := ?hh) ?a ?b ?e; (case e => assumption); (case a => subst "st_ok"); (case b => exists "mok")))
local macro_rules | `(tactic| exists "nm") => `(tactic| assumption)
local macro_rules | `(tactic| subst "sx") => `(tactic| (refine sx_sub (by assumption) (by (first | subst "subm" | fail)) ?_; subst "sx"))
local macro_rules | `(tactic| subst "sx") => `(tactic| (refine sx_ex (by assumption) ?_; subst "sx"))
local macro_rules | `(tactic| subst "sx") => `(tactic| assumption)
local macro_rules | `(tactic| subst "ss") => `(tactic| (refine ss_sub (by assumption) (by (first | subst "subm" | fail)) ?_; subst "ss"))
local macro_rules | `(tactic| subst "ss") => `(tactic| (refine ss_sub (Ex.kp (M := []) (by assumption)) (by (first | subst "subm" | fail)) ?_; subst "ss"))
local macro_rules | `(tactic| subst "ss") => `(tactic| assumption)
local macro_rules | `(tactic| subst "ps") => `(tactic| (refine ps_sub (by assumption) (by (first | subst "subm" | fail)) ?_; subst "ps"))
local macro_rules | `(tactic| subst "ps") => `(tactic| (refine ps_sub (Ex.kp (M := []) (by assumption)) (by (first | subst "subm" | fail)) ?_; subst "ps"))
local macro_rules | `(tactic| subst "ps") => `(tactic| assumption)
local macro_rules | `(tactic| subst "as") => `(tactic| (refine as_sub (by assumption) (by (first | subst "subm" | fail)) ?_; subst "as"))
local macro_rules | `(tactic| subst "as") => `(tactic| (refine as_ex (by assumption) ?_; subst "as"))
local macro_rules | `(tactic| subst "as") => `(tactic| assumption)
local macro_rules | `(tactic| subst "envm") => `(tactic| (refine env_ksub (by assumption) (by (first | subst "subm" | fail)) ?_; subst "envm"))
local macro_rules | `(tactic| subst "envm") => `(tactic| (refine env_ex (by assumption) ?_; subst "envm"))
local macro_rules | `(tactic| subst "envm") => `(tactic| assumption)
local macro_rules | `(tactic| subst "ein") => `(tactic| (refine EIn.ksub (by assumption) (by assumption) (by (first | subst "subm" | fail)) ?_; subst "ein"))
local macro_rules | `(tactic| subst "ein") => `(tactic| (refine EIn.exx (by assumption) ?_; subst "ein"))
local macro_rules | `(tactic| subst "ein") => `(tactic| assumption)
theorem EIn.env2 {M : List Addr} {a : Ea} {d : Ed} {H : Hp} {cs : List Int} {st c : Addr} (h : EIn a d H) (o : d.ok) (m : a.out M) (m1 : st ∈ M) (m2 : c ∈ M) : EnvOk (d.fr cs).W (d.fr cs).R st c a.e H := h.env o (m.sub (subm_c m1 (subm_c m2 subm_n)))
local macro_rules | `(tactic| injection "own") => `(tactic| (refine c_sx (F := ?F) (M := ?M) (c := ?c) ?m1 ?m2 ?a ?b ?d ?_; (case b => exists "mok"); (case m1 => subst "mem"); (case m2 => subst "mem"); (case a => subst "st_ok"); (case d => subst "env"); subst "i_c_sx"))
set_option hygiene false in
local macro_rules | `(tactic| subst "i_c_more") => `(tactic| intro Hn kw wi)
local macro_rules | `(tactic| injection "own") => `(tactic| (refine c_more (ch := ?ch) (d := ?d) ?h ?_; (case h => subst "win"); subst "i_c_more"))
/-! reading and writing the world -/
section
variable {wa ch : Addr} {d : Wd} {H : Hp} {B : V → Prop} {C : Hp → Prop} {z : Int} {b : Bool}
theorem q_wgI {s : Str} {v : V} (h : WIn wa ch d H) (g : ∀ {kvs : List (Key × V)}, valV kvs (Sum.inr "threads") = some (.int d.threads) → valV kvs (Sum.inr "left") = some (.int d.left) → valV kvs (Sum.inr "items") = some (.int d.items) → valV kvs (Sum.inr "cells") = some (.int d.cells) → valV kvs (Sum.inr "alts") = some (.bl d.alts) → valV kvs (Sum.inr "loops") = some (.bl d.loops) → valV kvs (Sum.inr "channels") = some (.ref ch) → valV kvs (Sum.inr s) = some v) (q : B v) : ∃ a v', V.ref wa = .ref a ∧ DGet H a (.str s) (some v') ∧ B v' := by
  obtain ⟨kvs, h0, h1, h2, h3, h4, h5, h6, h7⟩ := h.get
  exact q_dget h0 (g h1 h2 h3 h4 h5 h6 h7) q
theorem q_wgThreads (h : WIn wa ch d H) (q : B (.int d.threads)) : ∃ a v', V.ref wa = .ref a ∧ DGet H a (.str "threads") (some v') ∧ B v' := q_wgI h (fun a _ _ _ _ _ _ => a) q
theorem q_wgLeft (h : WIn wa ch d H) (q : B (.int d.left)) : ∃ a v', V.ref wa = .ref a ∧ DGet H a (.str "left") (some v') ∧ B v' := q_wgI h (fun _ a _ _ _ _ _ => a) q
theorem q_wgItems (h : WIn wa ch d H) (q : B (.int d.items)) : ∃ a v', V.ref wa = .ref a ∧ DGet H a (.str "items") (some v') ∧ B v' := q_wgI h (fun _ _ a _ _ _ _ => a) q
theorem q_wgCells (h : WIn wa ch d H) (q : B (.int d.cells)) : ∃ a v', V.ref wa = .ref a ∧ DGet H a (.str "cells") (some v') ∧ B v' := q_wgI h (fun _ _ _ a _ _ _ => a) q
theorem q_wgAlts (h : WIn wa ch d H) (e : d.alts = b) (q : B (.bl b)) : ∃ a v', V.ref wa = .ref a ∧ DGet H a (.str "alts") (some v') ∧ B v' := q_wgI h (fun _ _ _ _ a _ _ => e ▸ a) q
theorem q_wgLoops (h : WIn wa ch d H) (e : d.loops = b) (q : B (.bl b)) : ∃ a v', V.ref wa = .ref a ∧ DGet H a (.str "loops") (some v') ∧ B v' := q_wgI h (fun _ _ _ _ _ a _ => e ▸ a) q
theorem q_wgChannels (h : WIn wa ch d H) (q : B (.ref ch)) : ∃ a v', V.ref wa = .ref a ∧ DGet H a (.str "channels") (some v') ∧ B v' := q_wgI h (fun _ _ _ _ _ _ a => a) q
theorem q_wpItems (h : WIn wa ch d H) (q : ∀ Hn, Kp [wa] H Hn → WIn wa ch { d with items := z } Hn → C Hn) : ∃ a H', V.ref wa = .ref a ∧ DPut H a (.str "items") (.int z) H' ∧ C H' := by
  obtain ⟨⟨kvs, h0, l, h1, h2, h3, h4, h5, h6, h7⟩, hc, ne⟩ := h
  have hp : valV (putK kvs (Sum.inr "items") (.int z)) (Sum.inr "items") = some (.int z) := vput_eq
  exact q_dputS h0 (by omega) fun Hn k u => q Hn k ⟨⟨_, u, by rw [putK_len h3]; exact l, vput_ne h1 (by decide +kernel), vput_ne h2 (by decide +kernel), hp, vput_ne h4 (by decide +kernel), vput_ne h5 (by decide +kernel), vput_ne h6 (by decide +kernel), vput_ne h7 (by decide +kernel)⟩, k.out _ _ (by simpa using Ne.symm ne) hc, ne⟩
theorem q_wpThreads (h : WIn wa ch d H) (q : ∀ Hn, Kp [wa] H Hn → WIn wa ch { d with threads := z } Hn → C Hn) : ∃ a H', V.ref wa = .ref a ∧ DPut H a (.str "threads") (.int z) H' ∧ C H' := by
  obtain ⟨⟨kvs, h0, l, h1, h2, h3, h4, h5, h6, h7⟩, hc, ne⟩ := h
  have hp : valV (putK kvs (Sum.inr "threads") (.int z)) (Sum.inr "threads") = some (.int z) := vput_eq
  exact q_dputS h0 (by omega) fun Hn k u => q Hn k ⟨⟨_, u, by rw [putK_len h1]; exact l, hp, vput_ne h2 (by decide +kernel), vput_ne h3 (by decide +kernel), vput_ne h4 (by decide +kernel), vput_ne h5 (by decide +kernel), vput_ne h6 (by decide +kernel), vput_ne h7 (by decide +kernel)⟩, k.out _ _ (by simpa using Ne.symm ne) hc, ne⟩
theorem q_wpLeft (h : WIn wa ch d H) (q : ∀ Hn, Kp [wa] H Hn → WIn wa ch { d with left := z } Hn → C Hn) : ∃ a H', V.ref wa = .ref a ∧ DPut H a (.str "left") (.int z) H' ∧ C H' := by
  obtain ⟨⟨kvs, h0, l, h1, h2, h3, h4, h5, h6, h7⟩, hc, ne⟩ := h
  have hp : valV (putK kvs (Sum.inr "left") (.int z)) (Sum.inr "left") = some (.int z) := vput_eq
  exact q_dputS h0 (by omega) fun Hn k u => q Hn k ⟨⟨_, u, by rw [putK_len h2]; exact l, vput_ne h1 (by decide +kernel), hp, vput_ne h3 (by decide +kernel), vput_ne h4 (by decide +kernel), vput_ne h5 (by decide +kernel), vput_ne h6 (by decide +kernel), vput_ne h7 (by decide +kernel)⟩, k.out _ _ (by simpa using Ne.symm ne) hc, ne⟩
end
set_option hygiene false in
local macro_rules | `(tactic| subst "i_wput") => `(tactic| intro Hn kw wi)
local macro_rules | `(tactic| injection "own") => `(tactic| ((with_reducible refine q_wpLeft (ch := ?ch) (d := ?d) ?h ?_); (case h => subst "win"); subst "i_wput"))
local macro_rules | `(tactic| injection "own") => `(tactic| ((with_reducible refine q_wpThreads (ch := ?ch) (d := ?d) ?h ?_); (case h => subst "win"); subst "i_wput"))
local macro_rules | `(tactic| injection "own") => `(tactic| ((with_reducible refine q_wpItems (ch := ?ch) (d := ?d) ?h ?_); (case h => subst "win"); subst "i_wput"))
local macro_rules | `(tactic| injection "own") => `(tactic| ((with_reducible refine q_wgChannels (ch := ?ch) (d := ?d) ?h ?_); (case h => subst "win")))
local macro_rules | `(tactic| injection "own") => `(tactic| ((with_reducible refine q_wgLoops (ch := ?ch) (d := ?d) (b := ?b) ?h ?e ?_); (case h => subst "win"); (case e => assumption)))
local macro_rules | `(tactic| injection "own") => `(tactic| ((with_reducible refine q_wgAlts (ch := ?ch) (d := ?d) (b := ?b) ?h ?e ?_); (case h => subst "win"); (case e => assumption)))
local macro_rules | `(tactic| injection "own") => `(tactic| ((with_reducible refine q_wgCells (ch := ?ch) (d := ?d) ?h ?_); (case h => subst "win")))
local macro_rules | `(tactic| injection "own") => `(tactic| ((with_reducible refine q_wgItems (ch := ?ch) (d := ?d) ?h ?_); (case h => subst "win")))
local macro_rules | `(tactic| injection "own") => `(tactic| ((with_reducible refine q_wgLeft (ch := ?ch) (d := ?d) ?h ?_); (case h => subst "win")))
local macro_rules | `(tactic| injection "own") => `(tactic| ((with_reducible refine q_wgThreads (ch := ?ch) (d := ?d) ?h ?_); (case h => subst "win")))
abbrev s__law_wrapped : Stmt := topS 35
theorem sc__law_wrapped : FnScope ["_law_state_here", "_law_env_here", "_law_world", "_law_part", "_law_turn", "_law_counter", "_law_turns"] ["_law_state_here", "_law_env_here", "_law_world", "_law_part"] (defScope s__law_wrapped) := ⟨rfl, rfl, rfl, by decide +kernel, rfl, by decide +kernel, by decide +kernel⟩
abbrev p__law_wrapped : List Str := ["_law_state_here", "_law_env_here", "_law_world", "_law_part"]
/-- what wraps a part -/
structure Wrap (F0 : Fr) (lo hi : Int) (loops : Bool) (p s : Sx) : Prop where
  fit : ∀ F : Fr, F0.le F → (∀ k, lo ≤ k → k < hi → F.W k ∧ F.R k) → p.fit F → s.fit F
  rule : p.rule → s.rule
  cnt : s.cnt = p.cnt
  num : ∀ t, p.num t → s.num t
  dep : s.dep ≤ p.dep + 4
  sz : s.sz ≤ p.sz + 7
  wk : 0 ≤ p.wk → s.wk ≤ (if loops = true then 2 * p.wk + 11 else p.wk + 2)
def sp_wrap : Sp := fun vs H Q _ => ∃ (a : Ea) (ed : Ed) (cs : List Int) (M : List Addr) (st c wa ch : Addr) (d : Wd) (p : Sx) (pt : V), vs = [.ref st, .ref a.e, .ref wa, pt] ∧ (∀ x, x ∈ Mw st c wa ch → x ∈ M) ∧ MoS M st c H ∧ StOk st c H ∧ WIn wa ch d H ∧ wa ∉ [st, c] ∧ ch ∉ [st, c] ∧ EIn a ed H ∧ ed.ok ∧ a.out M ∧ p.In M H pt ∧
  ∀ (s : Sx) (v : V) (m : Int) (H' : Hp), d.cells ≤ m → m ≤ d.cells + 1 → s.In M H' v → Wrap (ed.fr cs) d.cells m d.loops p s → Kp (Mw st c wa ch) H H' → StOk st c H' → WIn wa ch { d with cells := m } H' → Q v H'
theorem Wrap.refl {F0 : Fr} {lo : Int} {l : Bool} {p : Sx} : Wrap F0 lo lo l p p := ⟨fun _ _ _ h => h, fun h => h, rfl, fun _ h => h, by omega, by omega, fun h => by split <;> omega⟩
theorem Wrap.if1 {F0 : Fr} {lo : Int} {l : Bool} {p s : Sx} {e : Tm} (he : e.fit F0.R) (de : e.deep ≤ 5) (hs : s.Pl F0 1 1 1) : Wrap F0 lo lo l p (.ife e p s) :=
  ⟨fun F le _ h => ⟨he.mono le.r, de, h, hs.fit.mono le⟩, fun h => ⟨h, hs.rule⟩, by simp only [Sx.cnt, hs.cnt]; omega, fun t h => ⟨h, Sx.num0 hs.cnt _⟩, by have := hs.dep; simp only [Sx.dep]; omega, by have := hs.sz; simp only [Sx.sz]; omega, fun h => by have := hs.wk; simp only [Sx.wk]; split <;> omega⟩
theorem Wrap.if2 {F0 : Fr} {lo : Int} {l : Bool} {p s : Sx} {e : Tm} (he : e.fit F0.R) (de : e.deep ≤ 5) (hs : s.Pl F0 1 1 1) : Wrap F0 lo lo l p (.ife e s p) :=
  ⟨fun F le _ h => ⟨he.mono le.r, de, hs.fit.mono le, h⟩, fun h => ⟨hs.rule, h⟩, by simp only [Sx.cnt, hs.cnt]; omega, fun t h => ⟨Sx.num0 hs.cnt _, by rw [hs.cnt]; simpa using h⟩, by have := hs.dep; simp only [Sx.dep]; omega, by have := hs.sz; simp only [Sx.sz]; omega, fun h => by have := hs.wk; simp only [Sx.wk]; split <;> omega⟩
def turns (x : Int) (p : Sx) : Sx := .seq (.cons (.set (.cell x) (.num 0)) (.cons (.rep (.bin .lt (.cell x) (.num 2)) 2 (.seq (.cons p (.cons (.set (.cell x) (.bin .add (.cell x) (.num 1))) .nil)))) .nil))
theorem Wrap.rep {F0 : Fr} {x : Int} {p : Sx} : Wrap F0 x (x + 1) true p (turns x p) := by
  refine ⟨fun F le hn h => ?_, fun h => ⟨trivial, ⟨h, trivial, trivial⟩, trivial⟩, by simp [turns, Sx.cnt, Ss.cnt], fun t h => ⟨trivial, ⟨?_, trivial, trivial⟩, trivial⟩, by simp only [turns, Sx.dep, Ss.dep]; omega, by simp only [turns, Sx.sz, Ss.sz]; omega, fun h => by simp only [turns, Sx.wk, Ss.wk, if_pos]; omega⟩
  · obtain ⟨w, r⟩ := hn x (Int.le_refl x) (by omega)
    exact ⟨⟨w, by simp [Tm.deep], ⟨by decide, by decide⟩, by simp [Tm.deep]⟩, ⟨⟨r, by decide, by decide⟩, by simp [Tm.deep], by decide, by decide, h, ⟨w, by simp [Tm.deep], ⟨r, by decide, by decide⟩, by simp [Tm.deep]⟩, trivial⟩, trivial⟩
  · simpa [Sx.cnt] using h
section
variable {M : List Addr} {H : Hp} {p l : Addr} {x y z v : V} {xs : List V}
theorem tmi_num {k : Int} (h : H p = some (.tup [.str "num", .int k])) : (Tm.num k).In H (.ref p) := ⟨p, rfl, h⟩
theorem tmi_cell {k : Int} (h : H p = some (.tup [.str "cell", .int k])) : (Tm.cell k).In H (.ref p) := ⟨p, rfl, h⟩
theorem tmi_bin {o : Op} {a b : Tm} (h : H p = some (.tup [.str o.str, x, y])) (ha : a.In H x) (hb : b.In H y) : (Tm.bin o a b).In H (.ref p) := ⟨p, x, y, rfl, h, ha, hb⟩
theorem sxi_skip (h : H p = some (.tup [.str "skip"])) : Sx.skip.In M H (.ref p) := ⟨p, rfl, h⟩
theorem sxi_set {a b : Tm} (h : H p = some (.tup [.str "set", x, y])) (ha : a.In H x) (hb : b.In H y) : (Sx.set a b).In M H (.ref p) := ⟨p, x, y, rfl, h, ha, hb⟩
theorem sxi_give {k : Int} {b : Tm} (h : H p = some (.tup [.str "give", .int k, y])) (hb : b.In H y) : (Sx.give k b).In M H (.ref p) := ⟨p, y, rfl, h, hb⟩
theorem sxi_take {k : Int} {b : Tm} (h : H p = some (.tup [.str "take", .int k, y])) (hb : b.In H y) : (Sx.take k b).In M H (.ref p) := ⟨p, y, rfl, h, hb⟩
theorem sxi_ife {e : Tm} {a b : Sx} (h : H p = some (.tup [.str "if", x, y, z])) (he : e.In H x) (ha : a.In M H y) (hb : b.In M H z) : (Sx.ife e a b).In M H (.ref p) := ⟨p, x, y, z, rfl, h, he, ha, hb⟩
theorem sxi_rep {e : Tm} {n : Int} {a : Sx} (h : H p = some (.tup [.str "repeat", x, .int n, y])) (he : e.In H x) (ha : a.In M H y) : (Sx.rep e n a).In M H (.ref p) := ⟨p, x, y, rfl, h, he, ha⟩
theorem sxi_seq {ss : Ss} (h : H p = some (.tup [.str "seq", .ref l])) (hl : H l = some (.lst xs)) (m : l ∉ M) (hs : ss.In M H xs) : (Sx.seq ss).In M H (.ref p) := ⟨p, l, xs, rfl, h, hl, m, hs⟩
theorem sxi_par {ss : Ps} (h : H p = some (.tup [.str "par", .ref l])) (hl : H l = some (.lst xs)) (m : l ∉ M) (hs : ss.In M H xs) : (Sx.par ss).In M H (.ref p) := ⟨p, l, xs, rfl, h, hl, m, hs⟩
theorem sxi_alt {ss : As} (h : H p = some (.tup [.str "alt", .ref l])) (hl : H l = some (.lst xs)) (m : l ∉ M) (hs : ss.In M H xs) : (Sx.alt ss).In M H (.ref p) := ⟨p, l, xs, rfl, h, hl, m, hs⟩
theorem ssi_nil : Ss.nil.In M H [] := rfl
theorem ssi_cons {s : Sx} {r : Ss} (h : s.In M H x) (hr : r.In M H xs) : (Ss.cons s r).In M H (x :: xs) := ⟨x, xs, rfl, h, hr⟩
end
local macro_rules | `(tactic| subst "tmc") => `(tactic| subst "tm")
local macro_rules | `(tactic| subst "tmc") => `(tactic| ((with_reducible refine tmi_bin (x := ?x) (y := ?y) ?h ?a ?b); (case h => exists "lift"); (case a => subst "tmc"); (case b => subst "tmc")))
local macro_rules | `(tactic| subst "tmc") => `(tactic| (with_reducible refine tmi_cell ?_; exists "lift"))
local macro_rules | `(tactic| subst "tmc") => `(tactic| (with_reducible refine tmi_num ?_; exists "lift"))
local macro_rules | `(tactic| subst "sxc") => `(tactic| subst "sx")
local macro_rules | `(tactic| subst "sxc") => `(tactic| ((with_reducible refine sxi_seq (l := ?l) (xs := ?xs) ?h ?hl ?m ?a); (case h => exists "lift"); (case hl => exists "lift"); (case m => exists "nm"); (case a => subst "ssc")))
local macro_rules | `(tactic| subst "sxc") => `(tactic| ((with_reducible refine sxi_rep (x := ?x) (y := ?y) ?h ?e ?a); (case h => exists "lift"); (case e => subst "tmc"); (case a => subst "sxc")))
local macro_rules | `(tactic| subst "sxc") => `(tactic| ((with_reducible refine sxi_ife (x := ?x) (y := ?y) (z := ?z) ?h ?e ?a ?b); (case h => exists "lift"); (case e => subst "tmc"); (case a => subst "sxc"); (case b => subst "sxc")))
local macro_rules | `(tactic| subst "sxc") => `(tactic| ((with_reducible refine sxi_take (y := ?y) ?h ?b); (case h => exists "lift"); (case b => subst "tmc")))
local macro_rules | `(tactic| subst "sxc") => `(tactic| ((with_reducible refine sxi_give (y := ?y) ?h ?b); (case h => exists "lift"); (case b => subst "tmc")))
local macro_rules | `(tactic| subst "sxc") => `(tactic| ((with_reducible refine sxi_set (x := ?x) (y := ?y) ?h ?a ?b); (case h => exists "lift"); (case a => subst "tmc"); (case b => subst "tmc")))
local macro_rules | `(tactic| subst "sxc") => `(tactic| (with_reducible refine sxi_skip ?_; exists "lift"))
local macro_rules | `(tactic| subst "ssc") => `(tactic| ((with_reducible refine ssi_cons ?a ?b); (case a => subst "sxc"); (case b => subst "ssc")))
local macro_rules | `(tactic| subst "ssc") => `(tactic| with_reducible exact ssi_nil)
theorem ok_wrapped (T : Glo K w mg) (D : Dn K mg "_law_wrapped" s__law_wrapped p__law_wrapped) (G__law_draw : Cal P w K mg base "_law_draw" 1 p__law_draw sp_draw) (G__law_more_cells : Cal P w K mg base "_law_more_cells" 1 p__law_more_cells sp_more)
    (G__law_expression : Cal P w K mg base "_law_expression" 7 p__law_expression (sp_expr 3)) (G__law_set : Cal P w K mg base "_law_set" 8 p__law_set (sp_sx 1 1 1)) :
    Cal P w K mg base "_law_wrapped" 9 p__law_wrapped sp_wrap := by
  refine D.ok sc__law_wrapped (fun vs H Q E h => ?_) (fun f cdv A outer s H vs Q E hr h => ?_)
  · obtain ⟨_, _, _, _, _, _, _, _, _, _, _, rfl, _⟩ := h
    rfl
  obtain ⟨a, ed, cs, M, st, c, wa, ch, d, p0, pt, rfl, ms, mo, so, wi, nw, nc, ei, eo, ma, hp0, q⟩ := h
  refine ⟨_, (pss_cons (ps_set (i := 4) sc__law_wrapped.nd rfl (by first | exact Or.inl rfl | exact Or.inr rfl) (pe_cal G__law_draw (hr.mono (by (first | subst "lev" | fail))) rfl (pa_cons (pv 0) (pa_cons pe_int pa_nil)))) (pss_cons (ps_if (pt_cmpR (op_eqA (hu64 hr)) (pv 4) pe_int (nomark _)) (pss_one (ps_ret (pe_tup (pa_cons pe_str (pa_cons (pe_cal G__law_expression (hr.mono (by (first | subst "lev" | fail))) rfl (pa_cons (pv 0) (pa_cons (pv 1) (pa_cons pe_int pa_nil)))) (pa_cons (pv 3) (pa_cons (pe_cal G__law_set (hr.mono (by (first | subst "lev" | fail))) rfl (pa_cons (pv 0) (pa_cons (pv 1) pa_nil))) pa_nil))))))) pss_nil) (pss_cons (ps_if (pt_cmpR (op_eqA (hu64 hr)) (pv 4) pe_int (nomark _)) (pss_one (ps_ret (pe_tup (pa_cons pe_str (pa_cons (pe_tup (pa_cons pe_str (pa_cons (pe_tup (pa_cons pe_str (pa_cons pe_int pa_nil))) (pa_cons (pe_cal G__law_expression (hr.mono (by (first | subst "lev" | fail))) rfl (pa_cons (pv 0) (pa_cons (pv 1) (pa_cons pe_int pa_nil)))) pa_nil)))) (pa_cons (pe_cal G__law_set (hr.mono (by (first | subst "lev" | fail))) rfl (pa_cons (pv 0) (pa_cons (pv 1) pa_nil))) (pa_cons (pv 3) pa_nil))))))) pss_nil) (pss_cons (ps_if (PW.pt (pw_and (pt_cmpR op_lt (pv 4) pe_int (nomark _)) (pw_and (pt_val (pe_dget (hu_of hr) (pv 2) pe_str (fun _ _ => rfl))) (pw_and1 (pt_cmpR op_le (pe_dget (hu_of hr) (pv 2) pe_str (fun _ _ => rfl)) pe_int (nomark _)))))) (pss_cons (ps_set (i := 5) sc__law_wrapped.nd rfl (by first | exact Or.inl rfl | exact Or.inr rfl) (pe_tup (pa_cons pe_str (pa_cons (pe_cal G__law_more_cells (hr.mono (by (first | subst "lev" | fail))) rfl (pa_cons (pv 2) (pa_cons pe_int pa_nil))) pa_nil)))) (pss_cons (ps_set (i := 6) sc__law_wrapped.nd rfl (by first | exact Or.inl rfl | exact Or.inr rfl) (pe_tup (pa_cons pe_str (pa_cons (pe_tup (pa_cons pe_str (pa_cons (pv 5) (pa_cons (pe_tup (pa_cons pe_str (pa_cons pe_int pa_nil))) pa_nil)))) (pa_cons pe_int (pa_cons (pe_tup (pa_cons pe_str (pa_cons (pe_lst (pa_cons (pv 3) (pa_cons (pe_tup (pa_cons pe_str (pa_cons (pv 5) (pa_cons (pe_tup (pa_cons pe_str (pa_cons (pv 5) (pa_cons (pe_tup (pa_cons pe_str (pa_cons pe_int pa_nil))) pa_nil)))) pa_nil)))) pa_nil))) pa_nil))) pa_nil)))))) (pss_one (ps_ret (pe_tup (pa_cons pe_str (pa_cons (pe_lst (pa_cons (pe_tup (pa_cons pe_str (pa_cons (pv 5) (pa_cons (pe_tup (pa_cons pe_str (pa_cons pe_int pa_nil))) pa_nil)))) (pa_cons (pv 6) pa_nil))) pa_nil))))))) pss_nil) (pss_one (ps_ret (pv 3))))))), ?_⟩
  try dsimp only [cxOf, Cx.nox]
  have m1 : st ∈ M := ms _ (by simp)
  have m2 : c ∈ M := ms _ (by simp)
  have m3 : wa ∈ M := ms _ (by simp)
  have m4 : ch ∈ M := ms _ (by simp)
  have en : EnvOk (ed.fr cs).W (ed.fr cs).R st c a.e H := ei.env2 eo ma m1 m2
  rcases Bool.eq_false_or_eq_true d.loops with hlo | hlo
  · (repeat' (first | specialize "st" | fail))
    · exact q (.ife t p0 sx) _ d.cells _ (by omega) (by omega) (by (first | subst "sxc" | fail)) (Wrap.if1 ok (by omega) sk) (by (first | subst "kpx" | fail)) (by (first | subst "st_ok" | fail)) (by (first | subst "win" | fail))
    · exact q (.ife (.bin .lt (.num 1) t) sx p0) _ d.cells _ (by omega) (by omega) (by (first | subst "sxc" | fail)) (Wrap.if2 ⟨⟨by decide, by decide⟩, ok⟩ (by simp only [Tm.deep]; omega) sk) (by (first | subst "kpx" | fail)) (by (first | subst "st_ok" | fail)) (by (first | subst "win" | fail))
    · exact q (turns d.cells p0) _ (d.cells + 1) _ (by omega) (by omega) (by unfold turns; (first | subst "sxc" | fail)) (by rw [hlo]; exact Wrap.rep) (by (first | subst "kpx" | fail)) (by (first | subst "st_ok" | fail)) (by (first | subst "win" | fail))
    · exact q p0 _ d.cells _ (by omega) (by omega) (by (first | subst "sxc" | fail)) Wrap.refl (by (first | subst "kpx" | fail)) (by (first | subst "st_ok" | fail)) (by (first | subst "win" | fail))
    · exact q p0 _ d.cells _ (by omega) (by omega) (by (first | subst "sxc" | fail)) Wrap.refl (by (first | subst "kpx" | fail)) (by (first | subst "st_ok" | fail)) (by (first | subst "win" | fail))
  · (repeat' (first | specialize "st" | fail))
    · exact q (.ife t p0 sx) _ d.cells _ (by omega) (by omega) (by (first | subst "sxc" | fail)) (Wrap.if1 ok (by omega) sk) (by (first | subst "kpx" | fail)) (by (first | subst "st_ok" | fail)) (by (first | subst "win" | fail))
    · exact q (.ife (.bin .lt (.num 1) t) sx p0) _ d.cells _ (by omega) (by omega) (by (first | subst "sxc" | fail)) (Wrap.if2 ⟨⟨by decide, by decide⟩, ok⟩ (by simp only [Tm.deep]; omega) sk) (by (first | subst "kpx" | fail)) (by (first | subst "st_ok" | fail)) (by (first | subst "win" | fail))
    · exact q p0 _ d.cells _ (by omega) (by omega) (by (first | subst "sxc" | fail)) Wrap.refl (by (first | subst "kpx" | fail)) (by (first | subst "st_ok" | fail)) (by (first | subst "win" | fail))
    · exact q p0 _ d.cells _ (by omega) (by omega) (by (first | subst "sxc" | fail)) Wrap.refl (by (first | subst "kpx" | fail)) (by (first | subst "st_ok" | fail)) (by (first | subst "win" | fail))
/-! ### items of a script -/
inductive Itm
  | gt (gv : Bool) (c : Int) (z : Bool)
  | loop (many : Int) (ps : List (Bool × Int)) (x : Int)
  | nest
def gtS (gv : Bool) : Str := if gv = true then "give" else "take"
def zS (z : Bool) : Str := if z = true then "" else "loop"
abbrev Pts (H : Hp) (xs : List V) (ps : List (Bool × Int)) : Prop := Paired (fun v (p : Bool × Int) => ∃ q, v = V.ref q ∧ H q = some (.tup [.str (gtS p.1), .int p.2, .str ""])) xs ps
def Itm.In (M : List Addr) (H : Hp) : Itm → V → Prop
  | .gt gv c z, v => ∃ p, v = .ref p ∧ H p = some (.tup [.str (gtS gv), .int c, .str (zS z)])
  | .loop many ps x, v => ∃ p l xs, v = .ref p ∧ H p = some (.tup [.str "loop", .int many, .ref l, .int x]) ∧ H l = some (.lst xs) ∧ l ∉ M ∧ Pts H xs ps
  | .nest, v => ∃ p, v = .ref p ∧ H p = some (.tup [.str "nest"])
abbrev Its (M : List Addr) (H : Hp) (xs : List V) (its : List Itm) : Prop := Paired (fun v it => Itm.In M H it v) xs its
theorem Pts.up {M : List Addr} {H H' : Hp} (k : Kp M H H') {xs : List V} {ps : List (Bool × Int)} (h : Pts H xs ps) : Pts H' xs ps := Paired.mapP h fun _ _ ⟨q, e, z⟩ => ⟨q, e, k.tup _ _ z⟩
theorem Itm.In.ksub {M N : List Addr} {H H' : Hp} (k : Kp N H H') (n : ∀ x, x ∈ N → x ∈ M) : ∀ {it : Itm} {v : V}, it.In M H v → it.In M H' v
  | .gt _ _ _, _, ⟨p, e, h⟩ => ⟨p, e, k.tup _ _ h⟩
  | .loop _ _ _, _, ⟨p, l, xs, e, h, hl, m, a⟩ => ⟨p, l, xs, e, k.tup _ _ h, k.out _ _ (fun z => m (n _ z)) hl, m, Pts.up k a⟩
  | .nest, _, ⟨p, e, h⟩ => ⟨p, e, k.tup _ _ h⟩
theorem Itm.In.more {M : List Addr} {H : Hp} {p : Addr} (hp : H p = none) : ∀ {it : Itm} {v : V}, it.In M H v → it.In (p :: M) H v
  | .gt _ _ _, _, h => h
  | .loop _ _ _, _, ⟨q, l, xs, e, h, hl, m, a⟩ => ⟨q, l, xs, e, h, hl, fun z => by
    rcases List.mem_cons.mp z with rfl | z
    · rw [hp] at hl; cases hl
    · exact m z, a⟩
  | .nest, _, h => h
theorem Itm.In.less {M N : List Addr} {H : Hp} (n : ∀ x, x ∈ N → x ∈ M) : ∀ {it : Itm} {v : V}, it.In M H v → it.In N H v
  | .gt _ _ _, _, h => h
  | .loop _ _ _, _, ⟨q, l, xs, e, h, hl, m, a⟩ => ⟨q, l, xs, e, h, hl, fun z => m (n _ z), a⟩
  | .nest, _, h => h
theorem its_ksub {M N : List Addr} {H H' : Hp} {xs : List V} {its : List Itm} (k : Kp N H H') (n : ∀ x, x ∈ N → x ∈ M) (h : Its M H xs its) : Its M H' xs its := Paired.mapP h fun _ _ q => q.ksub k n
theorem its_ex {M : List Addr} {H H' : Hp} {xs : List V} {its : List Itm} (k : Ex H H') (h : Its M H xs its) : Its M H' xs its := its_ksub (k.kp (M := [])) subm_n h
theorem its_more {M : List Addr} {H : Hp} {p : Addr} {xs : List V} {its : List Itm} (hp : H p = none) (h : Its M H xs its) : Its (p :: M) H xs its := Paired.mapP h fun _ _ q => q.more hp
theorem pair_at {α β : Type} {F : α → β → Prop} : ∀ {xs : List α} {ys : List β} {i : Nat} {x : α}, Paired F xs ys → xs[i]? = some x → ∃ y, ys[i]? = some y ∧ F x y
  | _, _, 0, _, .cons h _, e => ⟨_, rfl, by simp at e; subst e; exact h⟩
  | _, _, i + 1, _, .cons _ t, e => by
    obtain ⟨y, a, b⟩ := pair_at (i := i) t (by simpa using e)
    exact ⟨y, by simpa using a, b⟩
  | _, _, _, _, .nil, e => by simp at e
theorem pair_app {α β : Type} {F : α → β → Prop} : ∀ {xs ys : List α} {us vs : List β}, Paired F xs us → Paired F ys vs → Paired F (xs ++ ys) (us ++ vs)
  | _, _, _, _, .nil, h => h
  | _, _, _, _, .cons a t, h => .cons a (pair_app t h)
local macro_rules | `(tactic| subst "its") => `(tactic| (refine its_ksub (by assumption) (by (first | subst "subm" | fail)) ?_; subst "its"))
local macro_rules | `(tactic| subst "its") => `(tactic| (refine its_ex (by assumption) ?_; subst "its"))
local macro_rules | `(tactic| subst "its") => `(tactic| assumption)
/-- an item over an env and counters -/
def Itm.fits (ed : Ed) (cs : List Int) : Itm → Prop
  | .gt gv c _ => (gv = true → c ∈ ed.gives) ∧ (gv = false → c ∈ ed.takes)
  | .loop many ps x => 0 ≤ many ∧ many ≤ 3 ∧ x ∈ cs ∧ ps.length ≤ 1000 ∧ ∀ p ∈ ps, (p.1 = true → p.2 ∈ ed.gives) ∧ (p.1 = false → p.2 ∈ ed.takes)
  | .nest => True
/-- q = 1: the parts of a loop; q = 2: no nest; q = 3: any -/
def Itm.alw (q : Nat) : Itm → Prop
  | .gt _ _ z => z = true → 2 ≤ q
  | .loop _ _ _ => 2 ≤ q
  | .nest => 3 ≤ q
structure Wd.ok (d : Wd) : Prop where
  lf0 : 0 ≤ d.left
  it0 : 0 ≤ d.items
  ce0 : 0 ≤ d.cells
  pot : d.cells + 9 * d.left + d.items ≤ 400
  c24 : d.chs.length ≤ 24
/-- how the world goes on: k branches -/
structure Evo (d d' : Wd) (k : Nat) : Prop where
  th : d'.threads = d.threads + k
  lf : d'.left = d.left - k
  lf0 : 0 ≤ d'.left
  it : d'.items ≤ d.items
  it0 : 0 ≤ d'.items
  ce : d.cells ≤ d'.cells
  pot : d'.cells + 9 * d'.left + d'.items ≤ d.cells + 9 * d.left + d.items
  al : d'.alts = d.alts
  lo : d'.loops = d.loops
  ch : ∃ j, d'.chs = d.chs ++ List.replicate j ("inner" : Str)
  c24 : d'.chs.length ≤ 24
theorem Evo.refl {d : Wd} (h : d.ok) : Evo d d 0 := ⟨by omega, by omega, h.lf0, Int.le_refl _, h.it0, Int.le_refl _, Int.le_refl _, rfl, rfl, ⟨0, by simp⟩, h.c24⟩
theorem Evo.trans {d d1 d2 : Wd} {j k : Nat} (a : Evo d d1 j) (b : Evo d1 d2 k) : Evo d d2 (j + k) := by
  obtain ⟨m, em⟩ := a.ch
  obtain ⟨n, en⟩ := b.ch
  have h1 := a.th
  have h2 := b.th
  have h3 := a.lf
  have h4 := b.lf
  have h5 := a.it
  have h6 := b.it
  have h7 := a.ce
  have h8 := b.ce
  have h9 := a.pot
  have h10 := b.pot
  exact ⟨by omega, by omega, b.lf0, by omega, b.it0, by omega, by omega, b.al.trans a.al, b.lo.trans a.lo, ⟨m + n, by rw [en, em, List.append_assoc, List.replicate_append_replicate]⟩, b.c24⟩
theorem Evo.wok {d d' : Wd} {k : Nat} (h : Evo d d' k) (o : d.ok) : d'.ok := ⟨h.lf0, h.it0, by have := h.ce; have := o.ce0; omega, by have := h.pot; have := o.pot; omega, h.c24⟩
theorem Evo.chl {d d' : Wd} {k : Nat} (h : Evo d d' k) : d.chs.length ≤ d'.chs.length := by
  obtain ⟨m, em⟩ := h.ch
  rw [em, List.length_append]
  omega
theorem Evo.item {d : Wd} (h : d.ok) (p : 0 < d.items) : Evo d { d with items := d.items - 1 } 0 := by
  have := h.pot
  have := h.lf0
  have := h.it0
  refine ⟨?_, ?_, h.lf0, ?_, ?_, Int.le_refl _, ?_, rfl, rfl, ⟨0, by simp⟩, h.c24⟩ <;> dsimp only <;> omega
/-- what came new lies in F -/
structure Rg (d d' : Wd) (F : Fr) : Prop where
  c : ∀ k, d.cells ≤ k → k < d'.cells → F.W k ∧ F.R k
  h : ∀ c : Int, (d.chs.length : Int) ≤ c → c < d'.chs.length → F.G c ∧ F.T c
theorem Rg.left {d d1 d2 : Wd} {k : Nat} {F : Fr} (e : Evo d1 d2 k) (r : Rg d d2 F) : Rg d d1 F := ⟨fun k a b => r.c k a (by have := e.ce; omega), fun c a b => r.h c a (by have := e.chl; omega)⟩
theorem Rg.right {d d1 d2 : Wd} {k : Nat} {F : Fr} (e : Evo d d1 k) (r : Rg d d2 F) : Rg d1 d2 F := ⟨fun k a b => r.c k (by have := e.ce; omega) b, fun c a b => r.h c (by have := e.chl; omega) b⟩
def wkb (q : Nat) (l : Bool) (i f : Int) : Int := if q ≤ 1 then 16 * i else if q = 2 ∨ l = false then 64 * i + 9 * f else 128 * i + 18 * f
def depb (q : Nat) (l : Int) : Int := if q ≤ 1 then 4 else 4 * l + 14
theorem depb_mono {q : Nat} {l m : Int} (h : l ≤ m) : depb q l ≤ depb q m := by
  unfold depb
  split <;> omega
theorem depb_4 {q : Nat} {l : Int} (h : 0 ≤ l) : 4 ≤ depb q l := by
  unfold depb
  split <;> omega
theorem depb_q {q : Nat} {l : Int} (h : 2 ≤ q) : depb q l = 4 * l + 14 := by
  unfold depb
  rw [if_neg (by omega)]
/-- the statements that items give -/
structure ItOut (q : Nat) (F0 : Fr) (d d' : Wd) (ss : Ss) : Prop where
  c0 : q ≤ 1 → ss.cnt = 0
  evo : Evo d d' ss.cnt
  fit : ∀ F, F0.le F → Rg d d' F → ss.fit F
  rule : ss.rule
  num : ss.num d.threads
  dep : (ss.dep : Int) ≤ depb q d.left
  sz : (ss.sz : Int) ≤ 140 * (d.items - d'.items) + 7 * (d.left - d'.left)
  wk0 : 0 ≤ ss.wk
  wk : ss.wk ≤ wkb q d.loops (d.items - d'.items) (d.left - d'.left)
theorem wkb_add {q : Nat} {l : Bool} {i j f g : Int} : wkb q l (i + j) (f + g) = wkb q l i f + wkb q l j g := by
  unfold wkb
  split
  · omega
  · split <;> omega
theorem ItOut.refl {q : Nat} {F0 : Fr} {d : Wd} (h : d.ok) : ItOut q F0 d d .nil := ⟨fun _ => rfl, Evo.refl h, fun _ _ _ => trivial, trivial, trivial, by have := @depb_4 q d.left h.lf0; simp only [Ss.dep]; omega, by simp [Ss.sz], by simp [Ss.wk], by
  simp only [Ss.wk, wkb, Int.sub_self]
  split
  · omega
  · split <;> omega⟩
theorem ItOut.trans {q : Nat} {F0 : Fr} {d d1 d2 : Wd} {a b : Ss} (x : ItOut q F0 d d1 a) (y : ItOut q F0 d1 d2 b) : ItOut q F0 d d2 (a.app b) := by
  have e1 := x.evo
  have e2 := y.evo
  refine ⟨fun z => by rw [Ss.app_cnt, x.c0 z, y.c0 z], ?_, fun F l r => Ss.app_fit.mpr ⟨x.fit F l (r.left e2), y.fit F l (r.right e1)⟩, Ss.app_rule.mpr ⟨x.rule, y.rule⟩, Ss.app_num.mpr ⟨x.num, ?_⟩, ?_, ?_, ?_, ?_⟩
  · rw [Ss.app_cnt]
    exact e1.trans e2
  · rw [← e1.th]
    exact y.num
  · have := x.dep
    have := y.dep
    have := e1.lf
    have := @depb_mono q d1.left d.left (by omega)
    rw [Ss.app_dep]
    omega
  · have := x.sz
    have := y.sz
    rw [Ss.app_sz]
    omega
  · have := x.wk0
    have := y.wk0
    rw [Ss.app_wk]
    omega
  · have h1 := x.wk
    have h2 := y.wk
    rw [e1.lo] at h2
    have h3 := @wkb_add q d.loops (d.items - d1.items) (d1.items - d2.items) (d.left - d1.left) (d1.left - d2.left)
    rw [show d.items - d1.items + (d1.items - d2.items) = d.items - d2.items by omega, show d.left - d1.left + (d1.left - d2.left) = d.left - d2.left by omega] at h3
    rw [Ss.app_wk, h3]
    omega
/-- what one item gives, behind a simple statement -/
structure MOut (q : Nat) (F0 : Fr) (d d' : Wd) (ss : Ss) : Prop where
  c0 : q ≤ 1 → ss.cnt = 0
  evo : Evo d d' ss.cnt
  fit : ∀ F, F0.le F → Rg d d' F → ss.fit F
  rule : ss.rule
  num : ss.num d.threads
  dep : (ss.dep : Int) ≤ depb q d.left
  sz : (ss.sz : Int) ≤ 135 + 140 * (d.items - d'.items) + 7 * (d.left - d'.left)
  wk0 : 0 ≤ ss.wk
  wk : ss.wk ≤ (if q ≤ 1 then 9 else 57) + wkb q d.loops (d.items - d'.items) (d.left - d'.left)
/-- none or one simple statement -/
structure Pre (F0 : Fr) (ss : Ss) : Prop where
  fit : ss.fit F0
  rule : ss.rule
  cnt : ss.cnt = 0
  dep : ss.dep ≤ 3
  sz : ss.sz ≤ 5
  wk0 : 0 ≤ ss.wk
  wk : ss.wk ≤ 7
mutual
theorem Sx.wk0 {F : Fr} : ∀ {s : Sx}, s.fit F → 0 ≤ s.wk
  | .skip, _ => by simp [Sx.wk]
  | .stop, _ => by simp [Sx.wk]
  | .set _ _, _ => by simp [Sx.wk]
  | .give _ _, _ => by simp [Sx.wk]
  | .take _ _, _ => by simp [Sx.wk]
  | .ife _ a b, h => by
    have h1 := Sx.wk0 h.2.2.1
    simp only [Sx.wk]
    omega
  | .rep _ n a, h => by
    have h1 := Sx.wk0 h.2.2.2.2
    have h2 : 0 ≤ n * (a.wk + 1) := Int.mul_nonneg h.2.2.1 (by omega)
    simp only [Sx.wk]
    omega
  | .seq ss, h => by
    have h1 := Ss.wk0 (s := ss) h
    simp only [Sx.wk]
    omega
  | .par ss, h => by
    have h1 := Ps.wk0 (s := ss) h
    simp only [Sx.wk]
    omega
  | .alt ss, h => by
    have h1 := As.wk0 (a := ss)
    simp only [Sx.wk]
    omega
theorem Ss.wk0 {F : Fr} : ∀ {s : Ss}, s.fit F → 0 ≤ s.wk
  | .nil, _ => by simp [Ss.wk]
  | .cons a b, h => by
    have h1 := Sx.wk0 h.1
    have h2 := Ss.wk0 h.2
    simp only [Ss.wk]
    omega
theorem Ps.wk0 {F : Fr} : ∀ {s : Ps}, s.fit F → 0 ≤ s.wk
  | .nil, _ => by simp [Ps.wk]
  | .cons _ a b, h => by
    have h1 := Sx.wk0 h.1
    have h2 := Ps.wk0 h.2
    simp only [Ps.wk]
    omega
end
theorem Pre.nil {F0 : Fr} : Pre F0 .nil := ⟨trivial, trivial, rfl, by decide, by decide, by decide, by decide⟩
theorem Pre.one {F0 : Fr} {s : Sx} (h : s.Pl F0 3 5 7) : Pre F0 (.cons s .nil) := ⟨⟨h.fit, trivial⟩, ⟨h.rule, trivial⟩, by simp [Ss.cnt, h.cnt], by have := h.dep; simp only [Ss.dep]; omega, by have := h.sz; simp only [Ss.sz]; omega, by have := Sx.wk0 h.fit; simp only [Ss.wk]; omega, by have := h.wk; simp only [Ss.wk]; omega⟩
theorem MOut.step {q : Nat} {F0 : Fr} {d d2 : Wd} {p m : Ss} (o : d.ok) (hi : 0 < d.items) (hp : Pre F0 p) (h : MOut q F0 { d with items := d.items - 1 } d2 m) : ItOut q F0 d d2 (p.app m) := by
  have e1 := Evo.item o hi
  have e2 := h.evo
  refine ⟨fun z => by rw [Ss.app_cnt, hp.cnt, h.c0 z], ?_, fun F l r => Ss.app_fit.mpr ⟨hp.fit.mono l, h.fit F l (r.right e1)⟩, Ss.app_rule.mpr ⟨hp.rule, h.rule⟩, Ss.app_num.mpr ⟨Ss.num0 hp.cnt _, ?_⟩, ?_, ?_, ?_, ?_⟩
  · rw [Ss.app_cnt, hp.cnt]
    exact e1.trans e2
  · rw [hp.cnt]
    simpa using h.num
  · have h1 := h.dep
    have := hp.dep
    have := @depb_4 q d.left o.lf0
    dsimp only at h1
    rw [Ss.app_dep]
    omega
  · have h1 := h.sz
    have := hp.sz
    dsimp only at h1
    rw [Ss.app_sz]
    omega
  · have := h.wk0
    have := hp.wk0
    rw [Ss.app_wk]
    omega
  · have h1 := h.wk
    have h2 := hp.wk
    dsimp only at h1
    have h3 := @wkb_add q d.loops 1 (d.items - 1 - d2.items) 0 (d.left - d2.left)
    rw [show 1 + (d.items - 1 - d2.items) = d.items - d2.items by omega, Int.zero_add] at h3
    rw [Ss.app_wk, h3]
    have h4 : 7 + (if q ≤ 1 then 9 else 57) ≤ wkb q d.loops 1 0 := by
      unfold wkb
      split
      · decide
      · split <;> decide
    omega
/-- a par that a part gives -/
structure ParOut (dp : Int) (F0 : Fr) (d d' : Wd) (s : Sx) : Prop where
  evo : Evo d d' s.cnt
  fit : ∀ F, F0.le F → Rg d d' F → s.fit F
  rule : s.rule
  num : s.num d.threads
  dep : (s.dep : Int) ≤ 4 * d.left + 8
  sz : (s.sz : Int) ≤ 1 + 140 * (d.items - d'.items) + 7 * (d.left - d'.left)
  wk0 : 0 ≤ s.wk
  wk : s.wk ≤ 1 + wkb (if dp = 0 then 2 else 3) d.loops (d.items - d'.items) (d.left - d'.left)
/-- an env within a world -/
structure EdB (ed : Ed) (d : Wd) : Prop where
  ok : ed.ok
  cn : ed.cells.Nodup
  cb : ∀ k ∈ ed.cells, 0 ≤ k ∧ k < d.cells
  gn : ed.gives.Nodup
  gb : ∀ c ∈ ed.gives, 0 ≤ c ∧ c < (d.chs.length : Int)
  tn : ed.takes.Nodup
  tb : ∀ c ∈ ed.takes, 0 ≤ c ∧ c < (d.chs.length : Int)
  cl : (ed.cells.length : Int) + d.left ≤ 20
  gl : ed.gives.length ≤ 24
  tl : ed.takes.length ≤ 24
theorem EdB.evo {ed : Ed} {d d' : Wd} {k : Nat} (h : EdB ed d) (e : Evo d d' k) : EdB ed d' := ⟨h.ok, h.cn, fun k hk => ⟨(h.cb k hk).1, by have := (h.cb k hk).2; have := e.ce; omega⟩, h.gn, fun c hc => ⟨(h.gb c hc).1, by have := (h.gb c hc).2; have := e.chl; omega⟩, h.tn, fun c hc => ⟨(h.tb c hc).1, by have := (h.tb c hc).2; have := e.chl; omega⟩, by have := h.cl; have := e.lf; omega, h.gl, h.tl⟩
def sp_par (n : Nat) : Sp := fun vs H Q _ => ∃ (a : Ea) (ed : Ed) (M : List Addr) (st c wa ch : Addr) (d : Wd) (dp : Int), vs = [.ref st, .ref a.e, .ref wa, .int dp] ∧ (∀ x, x ∈ Mw st c wa ch → x ∈ M) ∧ MoS M st c H ∧ StOk st c H ∧ WIn wa ch d H ∧ wa ∉ [st, c] ∧ ch ∉ [st, c] ∧ EIn a ed H ∧ a.out M ∧ EdB ed d ∧ d.ok ∧ d.left ≤ 2 * n + 1 ∧ (dp = 0 ∨ dp = 1) ∧
  ∀ (s : Sx) (v : V) (d' : Wd) (H' : Hp), s.In M H' v → ParOut dp (ed.fr []) d d' s → Kp (Mw st c wa ch) H H' → StOk st c H' → WIn wa ch d' H' → Q v H'
def sp_items (q n : Nat) : Sp := fun vs H Q _ => ∃ (a : Ea) (ed : Ed) (cs : List Int) (M : List Addr) (st c wa ch il : Addr) (d : Wd) (xs : List V) (its : List Itm), vs = [.ref st, .ref a.e, .ref wa, .ref il] ∧ (∀ x, x ∈ Mw st c wa ch → x ∈ M) ∧ MoS M st c H ∧ StOk st c H ∧ WIn wa ch d H ∧ wa ∉ [st, c] ∧ ch ∉ [st, c] ∧ EIn a ed H ∧ a.out M ∧ EdB ed d ∧ d.ok ∧ d.left ≤ 2 * n + 1 ∧
  H il = some (.lst xs) ∧ il ∉ M ∧ Its M H xs its ∧ (∀ it ∈ its, it.fits ed cs ∧ it.alw q) ∧
  ∀ (ss : Ss) (l : Addr) (ys : List V) (d' : Wd) (H' : Hp), H' l = some (.lst ys) → l ∉ M → ss.In M H' ys → ItOut q (ed.fr cs) d d' ss → Kp (Mw st c wa ch) H H' → StOk st c H' → WIn wa ch d' H' → Q (.ref l) H'
/-! the statements of one item -/
theorem Fr.nil_le {ed : Ed} {cs : List Int} : (ed.fr []).le (ed.fr cs) := ⟨fun k h => h.elim .inl fun h => h.elim (fun h => .inr (.inl h)) (fun h => by cases h), fun k h => h.elim .inl fun h => h.elim (fun h => .inr (.inl h)) (fun h => by cases h), fun _ h => h, fun _ h => h⟩
theorem wkb_nn {q : Nat} {l : Bool} {i f : Int} (hi : 0 ≤ i) (hf : 0 ≤ f) : 0 ≤ wkb q l i f := by
  unfold wkb
  split
  · omega
  · split <;> omega
/-- a statement without branches -/
theorem MOut.plain {q : Nat} {F0 : Fr} {d : Wd} {s : Sx} {D S : Nat} {k : Int} (o : d.ok) (h : s.Pl F0 D S k) (hD : D ≤ 4) (hS : S ≤ 135) (hk : k ≤ 9) : MOut q F0 d d (.cons s .nil) := by
  have h0 := h.cnt
  have := @depb_4 q d.left o.lf0
  have h1 := h.dep
  have h2 := h.sz
  have h3 := h.wk
  have h4 := Sx.wk0 h.fit
  have h5 := @wkb_nn q d.loops (d.items - d.items) (d.left - d.left) (by omega) (by omega)
  refine ⟨fun _ => by simp only [Ss.cnt, h0], by simp only [Ss.cnt, h0]; exact Evo.refl o, fun F l _ => ⟨h.fit.mono l, trivial⟩, ⟨h.rule, trivial⟩, ⟨Sx.num0 h0 _, trivial⟩, by simp only [Ss.dep]; omega, by simp only [Ss.sz]; omega, by simp only [Ss.wk]; omega, ?_⟩
  simp only [Ss.wk]
  split <;> omega
/-- an alt whose first row ends in a par -/
theorem MOut.alt {q : Nat} {F0 F1 : Fr} {d d' : Wd} {g : Option Tm} {c : Int} {t : Tm} {s s0 : Sx} {r : As} (hq : 2 ≤ q) (hF : F1.le F0) (ha : (Sx.alt (.cons g c t s0 r)).Pl F0 4 126 9) (h : ParOut 0 F1 d d' s) (o : d.ok) : MOut q F0 d d' (.cons (.alt (.cons g c t s r)) .nil) := by
  obtain ⟨af, ar, ac, ad, as, aw⟩ := ha
  have e0 := h.evo
  have hc : s0.cnt + r.cnt = 0 := ac
  have h1 := h.dep
  have h2 := h.sz
  have h3 := h.wk
  have h4 := h.wk0
  have l1 := e0.lf
  have l2 := e0.it
  have l3 := o.lf0
  have w0 := As.wk0 (a := r)
  simp only [Sx.dep, As.dep, Sx.sz, As.sz, Sx.wk, As.wk] at ad as aw
  have hb : (1 : Int) + wkb (if (0 : Int) = 0 then 2 else 3) d.loops (d.items - d'.items) (d.left - d'.left) ≤ 1 + wkb q d.loops (d.items - d'.items) (d.left - d'.left) := by
    unfold wkb
    rw [if_pos rfl, if_neg (by omega), if_pos (.inl rfl), if_neg (by omega)]
    split <;> omega
  refine ⟨fun z => absurd z (by omega), by simp only [Ss.cnt, Sx.cnt, As.cnt]; rw [show s.cnt + r.cnt + 0 = s.cnt by omega]; exact e0, fun F l rg => ⟨⟨(af.1).mono l.r, l.t _ af.2.1, af.2.2.1.mono l.r l.w, af.2.2.2.1, h.fit F (hF.trans l) rg, af.2.2.2.2.2.mono l⟩, trivial⟩, ⟨⟨ar.1, h.rule, ar.2.2⟩, trivial⟩, ⟨⟨h.num, As.num0 (by omega) _⟩, trivial⟩, ?_, ?_, ?_, ?_⟩
  · simp only [Ss.dep, Sx.dep, As.dep]
    rw [depb_q hq]
    omega
  · simp only [Ss.sz, Sx.sz, As.sz]
    omega
  · simp only [Ss.wk, Sx.wk, As.wk]
    omega
  · simp only [Ss.wk, Sx.wk, As.wk]
    rw [if_neg (by omega)]
    omega
/-- a wrapped par -/
theorem ItOut.wrap {q : Nat} {F0 F1 : Fr} {d d' : Wd} {m : Int} {p s : Sx} {pre : Ss} (hq : 3 ≤ q) (hF : F1.le F0) (o : d.ok) (hi : 0 < d.items) (hp : Pre F0 pre) (h : ParOut 0 F1 { d with items := d.items - 1 } d' p) (hw : Wrap F0 d'.cells m d'.loops p s) (m0 : d'.cells ≤ m) (m1 : m ≤ d'.cells + 1) : ItOut q F0 d { d' with cells := m } (pre.app (.cons s .nil)) := by
  have e0 := h.evo
  have h1 := h.dep
  have h2 := h.sz
  have h3 := h.wk
  have h5 := hw.dep
  have h6 := hw.sz
  have h7 := hw.wk h.wk0
  have l1 := e0.lf
  have l2 := e0.it
  have l4 := e0.ce
  have l3 := o.lf0
  have p0 := hp.cnt
  have pd := hp.dep
  have ps := hp.sz
  have pw := hp.wk
  have pw0 := hp.wk0
  have hc := hw.cnt
  have ec := e0.chl
  rw [e0.lo] at h7
  dsimp only at h1 h2 h3 h7 l1 l2 l4 ec
  have wf : ∀ F, F0.le F → Rg d { d' with cells := m } F → s.fit F := fun F l rg => hw.fit F l (fun k a b => rg.c k (by omega) b) (h.fit F (hF.trans l) ⟨fun k a b => rg.c k a (by show k < m; omega), fun c a b => rg.h c a b⟩)
  have w0 : 0 ≤ s.wk := by
    have hz : s.fit ⟨fun _ => True, fun _ => True, fun _ => True, fun _ => True⟩ := wf _ ⟨fun _ _ => trivial, fun _ _ => trivial, fun _ _ => trivial, fun _ _ => trivial⟩ ⟨fun _ _ _ => ⟨trivial, trivial⟩, fun _ _ _ => ⟨trivial, trivial⟩⟩
    exact Sx.wk0 hz
  refine ⟨fun z => absurd z (by omega), ⟨?_, ?_, e0.lf0, ?_, e0.it0, ?_, ?_, e0.al, e0.lo, e0.ch, e0.c24⟩, fun F l rg => Ss.app_fit.mpr ⟨hp.fit.mono l, wf F l rg, trivial⟩, Ss.app_rule.mpr ⟨hp.rule, hw.rule h.rule, trivial⟩, Ss.app_num.mpr ⟨Ss.num0 p0 _, ?_, trivial⟩, ?_, ?_, ?_, ?_⟩
  · have := e0.th
    dsimp only at this
    simp only [Ss.app_cnt, Ss.cnt, p0, hc]
    omega
  · simp only [Ss.app_cnt, Ss.cnt, p0, hc]
    omega
  · show d'.items ≤ d.items
    omega
  · show d.cells ≤ m
    omega
  · have := e0.pot
    dsimp only at this
    show m + 9 * d'.left + d'.items ≤ _
    omega
  · rw [p0]
    simpa using hw.num _ h.num
  · rw [Ss.app_dep, depb_q (by omega)]
    simp only [Ss.dep]
    omega
  · rw [Ss.app_sz]
    simp only [Ss.sz]
    omega
  · rw [Ss.app_wk]
    simp only [Ss.wk]
    omega
  · rw [Ss.app_wk]
    simp only [Ss.wk]
    unfold wkb at h3 ⊢
    rw [if_pos rfl, if_neg (by omega), if_pos (.inl rfl)] at h3
    rw [if_neg (by omega)]
    cases hl : d.loops
    · rw [hl, if_neg (by decide)] at h7
      rw [if_pos (.inr rfl)]
      omega
    · rw [hl, if_pos rfl] at h7
      rw [if_neg (by rintro (z | z); omega; cases z)]
      omega
/-- a loop over its parts -/
theorem MOut.loop {q : Nat} {F0 : Fr} {d d' : Wd} {x m n : Int} {ss : Ss} (hq : 2 ≤ q) (h : ItOut 1 F0 d d' ss) (c0 : ss.cnt = 0) (o : d.ok) (hw : F0.W x) (hr : F0.R x) (n0 : 0 ≤ m) (n1 : m ≤ 3) (k0 : m ≤ n) (k1 : n ≤ m + 1) :
    MOut q F0 d d' (.cons (.set (.cell x) (.num 0)) (.cons (.rep (.bin .lt (.cell x) (.num m)) n (.seq (ss.app (.cons (.set (.cell x) (.bin .add (.cell x) (.num 1))) .nil)))) .nil)) := by
  have e0 := h.evo
  have h1 := h.dep
  have h2 := h.sz
  have h3 := h.wk
  have h4 := h.wk0
  have l1 := e0.lf
  have l2 := e0.it
  have l3 := o.lf0
  rw [c0] at l1
  unfold wkb at h3
  rw [if_pos (Nat.le_refl 1)] at h3
  refine ⟨fun z => absurd z (by omega), ?_, fun F l rg => ⟨⟨l.w _ hw, by simp [Tm.deep], ⟨by decide, by decide⟩, by simp [Tm.deep]⟩, ⟨⟨l.r _ hr, ⟨n0, by omega⟩⟩, by simp [Tm.deep], by omega, by omega, Ss.app_fit.mpr ⟨h.fit F l rg, ⟨l.w _ hw, by simp [Tm.deep], ⟨l.r _ hr, by decide, by decide⟩, by simp [Tm.deep]⟩, trivial⟩⟩, trivial⟩, ⟨trivial, Ss.app_rule.mpr ⟨h.rule, trivial, trivial⟩, trivial⟩, ⟨trivial, Ss.app_num.mpr ⟨Ss.num0 c0 _, trivial, trivial⟩, trivial⟩, ?_, ?_, ?_, ?_⟩
  · simp only [Ss.cnt, Sx.cnt, Ss.app_cnt, c0]
    rw [c0] at e0
    exact e0
  · simp only [Ss.dep, Sx.dep, Ss.app_dep]
    rw [depb_q hq]
    unfold depb at h1
    rw [if_pos (Nat.le_refl 1)] at h1
    omega
  · simp only [Ss.sz, Sx.sz, Ss.app_sz]
    omega
  · simp only [Ss.wk, Sx.wk, Ss.app_wk]
    have : 0 ≤ n * (ss.wk + (1 + 0) + 1 + 1) := Int.mul_nonneg (by omega) (by omega)
    omega
  · simp only [Ss.wk, Sx.wk, Ss.app_wk]
    have hn : n * (ss.wk + (1 + 0) + 1 + 1) ≤ 4 * (ss.wk + 3) := by
      have : n * (ss.wk + (1 + 0) + 1 + 1) ≤ 4 * (ss.wk + (1 + 0) + 1 + 1) := Int.mul_le_mul_of_nonneg_right (by omega) (by omega)
      omega
    rw [if_neg (by omega)]
    unfold wkb
    rw [if_neg (by omega)]
    split <;> omega
abbrev s__law_items : Stmt := topS 36
theorem sc__law_items : FnScope ["_law_state_here", "_law_env_here", "_law_world", "_law_items_here", "_law_found", "_law_item", "_law_row", "_law_counter", "_law_parts", "_law_inner", "_law_part"] ["_law_state_here", "_law_env_here", "_law_world", "_law_items_here"] (defScope s__law_items) := ⟨rfl, rfl, rfl, by decide +kernel, rfl, by decide +kernel, by decide +kernel⟩
abbrev p__law_items : List Str := ["_law_state_here", "_law_env_here", "_law_world", "_law_items_here"]
theorem ifsj {c : TT} {ts us : TS} {nx bk ct : L2.St → Hp → Prop} {rt : VK} {σ : L2.St} {H : Hp} (R : L2.St → Hp → Prop) (h : ∀ nx' : L2.St → Hp → Prop, (∀ σ' H', R σ' H' → nx' σ' H') → tIfS c ts us ⟨nx', rt, bk, ct⟩ σ H) (q : ∀ σ' H', R σ' H' → nx σ' H') : tIfS c ts us ⟨nx, rt, bk, ct⟩ σ H := h nx q
theorem c_alt {a : Ea} {ed : Ed} {cs : List Int} {M : List Addr} {st c : Addr} {ch : Int} {H : Hp} {Q : VK} {E : XK} (m1 : st ∈ M) (m2 : c ∈ M) (so : StOk st c H) (mo : MoS M st c H) (ei : EIn a ed H) (eo : ed.ok) (ma : a.out M) (hc : ch ∈ ed.takes) (tl : ed.takes.length ≤ 24)
    (q : ∀ (rs : As) (v : V) (H' : Hp), (Sx.alt rs).In M H' v → (Sx.alt rs).Pl (ed.fr cs) 4 126 9 → (∃ g k t s r, rs = .cons g k t s r) → Kp [st, c] H H' → StOk st c H' → Q v H') : sp_alt [.ref st, .ref a.e, .int ch] H Q E := ⟨a, ed, cs, M, st, c, ch, rfl, m1, m2, so, mo, ei, eo, ma, hc, tl, q⟩
theorem c_wrap {a : Ea} {ed : Ed} {cs : List Int} {M : List Addr} {st c wa ch : Addr} {d : Wd} {p : Sx} {pt : V} {H : Hp} {Q : VK} {E : XK} (ms : ∀ x, x ∈ Mw st c wa ch → x ∈ M) (mo : MoS M st c H) (so : StOk st c H) (wi : WIn wa ch d H) (nw : wa ∉ [st, c]) (nc : ch ∉ [st, c]) (ei : EIn a ed H) (eo : ed.ok) (ma : a.out M) (hp : p.In M H pt)
    (q : ∀ (s : Sx) (v : V) (m : Int) (H' : Hp), d.cells ≤ m → m ≤ d.cells + 1 → s.In M H' v → Wrap (ed.fr cs) d.cells m d.loops p s → Kp (Mw st c wa ch) H H' → StOk st c H' → WIn wa ch { d with cells := m } H' → Q v H') : sp_wrap [.ref st, .ref a.e, .ref wa, pt] H Q E := ⟨a, ed, cs, M, st, c, wa, ch, d, p, pt, rfl, ms, mo, so, wi, nw, nc, ei, eo, ma, hp, q⟩
theorem c_par {n : Nat} {a : Ea} {ed : Ed} {M : List Addr} {st c wa ch : Addr} {d : Wd} {dp : Int} {H : Hp} {Q : VK} {E : XK} (ms : ∀ x, x ∈ Mw st c wa ch → x ∈ M) (mo : MoS M st c H) (so : StOk st c H) (wi : WIn wa ch d H) (nw : wa ∉ [st, c]) (nc : ch ∉ [st, c]) (ei : EIn a ed H) (ma : a.out M) (eb : EdB ed d) (o : d.ok) (hl : d.left ≤ 2 * n + 1) (hd : dp = 0 ∨ dp = 1)
    (q : ∀ (s : Sx) (v : V) (d' : Wd) (H' : Hp), s.In M H' v → ParOut dp (ed.fr []) d d' s → Kp (Mw st c wa ch) H H' → StOk st c H' → WIn wa ch d' H' → Q v H') : sp_par n [.ref st, .ref a.e, .ref wa, .int dp] H Q E := ⟨a, ed, M, st, c, wa, ch, d, dp, rfl, ms, mo, so, wi, nw, nc, ei, ma, eb, o, hl, hd, q⟩
theorem c_items {q0 n : Nat} {a : Ea} {ed : Ed} {cs : List Int} {M : List Addr} {st c wa ch il : Addr} {d : Wd} {xs : List V} {its : List Itm} {H : Hp} {Q : VK} {E : XK} (ms : ∀ x, x ∈ Mw st c wa ch → x ∈ M) (mo : MoS M st c H) (so : StOk st c H) (wi : WIn wa ch d H) (nw : wa ∉ [st, c]) (nc : ch ∉ [st, c]) (ei : EIn a ed H) (ma : a.out M) (eb : EdB ed d) (o : d.ok) (hl : d.left ≤ 2 * n + 1)
    (hi : H il = some (.lst xs)) (ni : il ∉ M) (ht : Its M H xs its) (hf : ∀ it ∈ its, it.fits ed cs ∧ it.alw q0)
    (q : ∀ (ss : Ss) (l : Addr) (ys : List V) (d' : Wd) (H' : Hp), H' l = some (.lst ys) → l ∉ M → ss.In M H' ys → ItOut q0 (ed.fr cs) d d' ss → Kp (Mw st c wa ch) H H' → StOk st c H' → WIn wa ch d' H' → Q (.ref l) H') : sp_items q0 n [.ref st, .ref a.e, .ref wa, .ref il] H Q E := ⟨a, ed, cs, M, st, c, wa, ch, il, d, xs, its, rfl, ms, mo, so, wi, nw, nc, ei, ma, eb, o, hl, hi, ni, ht, hf, q⟩
theorem cut_toNw (xs : List V) (c : Nat) : cutV xs none (some (c : Int)) = xs.take c := by
  unfold cutV
  rw [HT.sIx_none, HT.sIx_nat, List.drop_zero, Nat.sub_zero]
  by_cases h2 : c ≤ xs.length
  · rw [Nat.min_eq_left h2]
  · rw [Nat.min_eq_right (by omega), List.take_of_length_le (Nat.le_refl _), List.take_of_length_le (by omega)]
theorem cut_fromNw (xs : List V) (c : Nat) : cutV xs (some (c : Int)) none = xs.drop c := by
  unfold cutV
  rw [HT.sIx_none, HT.sIx_nat]
  by_cases h2 : c ≤ xs.length
  · rw [Nat.min_eq_left h2, List.take_of_length_le (by rw [List.length_drop]; omega)]
  · rw [Nat.min_eq_right (show xs.length ≤ c by omega), List.drop_eq_nil_of_le (as := xs) (i := c) (by omega), List.drop_eq_nil_of_le (as := xs) (i := xs.length) (Nat.le_refl _)]
    simp
section
variable {H : Hp} {Q : VK}
theorem q_cutA {p : Addr} {xs ys : List V} {a c : Option Int} (h : H p = some (.lst xs)) (e : cutV xs a c = ys) (q : ∀ p Hn, H p = none → Ex H Hn → Hn p = some (.lst ys) → Q (.ref p) Hn) : rSlA K (.ref p) a c H Q :=
  .inl ⟨p, xs, rfl, sql h, fun l hl => q l _ hl (Ex.mk hl rfl) (by rw [upd_same, e])⟩
theorem q_cutTo {p : Addr} {xs : List V} {c : Nat} {k : Int} (e : k = (c : Nat)) (h : H p = some (.lst xs)) (q : ∀ p Hn, H p = none → Ex H Hn → Hn p = some (.lst (xs.take c)) → Q (.ref p) Hn) : rSlA K (.ref p) none (some k) H Q := q_cutA h (by rw [e, cut_toNw]) q
theorem q_cutFrom {p : Addr} {xs : List V} {c : Nat} {k : Int} (e : k = (c : Nat)) (h : H p = some (.lst xs)) (q : ∀ p Hn, H p = none → Ex H Hn → Hn p = some (.lst (xs.drop c)) → Q (.ref p) Hn) : rSlA K (.ref p) (some k) none H Q := q_cutA h (by rw [e, cut_fromNw]) q
theorem q_cut3 {p : Addr} {a b c d : V} (h : H p = some (.tup [a, b, c, d])) (q : ∀ p Hn, H p = none → Ex H Hn → Hn p = some (.tup [a, b, c]) → Q (.ref p) Hn) : rSlA K (.ref p) none (some 3) H Q :=
  .inr ⟨p, _, rfl, sqt h, (by
    have e : HT.sIx ([a, b, c, d] : List V).length ([a, b, c, d] : List V).length (some ((3 : Nat) : Int)) = 3 := by rw [HT.sIx_nat]; rfl
    intro z
    have z2 := z.2
    rw [show (3 : Int) = ((3 : Nat) : Int) from rfl, e] at z2
    cases z2), fun l hl => q l _ hl (Ex.mk hl rfl) (by rw [upd_same, show (3 : Int) = ((3 : Nat) : Int) from rfl, cut_toNw]; rfl)⟩
theorem q_catT {a b : Addr} {x : V} {xs ys : List V} (h1 : H a = some (.tup (x :: xs))) (h2 : H b = some (.tup ys)) (hz : xs.length + 1 + ys.length ≤ 100000) (q : ∀ p Hn, Ex H Hn → Hn p = some (.tup (x :: xs ++ ys)) → Q (.ref p) Hn) : rAddA K (.ref a) (.ref b) H Q := by
  refine .inr (.inr (.inr ⟨a, b, x :: xs, ys, rfl, rfl, sqt h1, sqt h2, (fun z => by cases z), sl1000 (by rw [List.length_cons]; exact hz), fun e => ?_, fun _ p hp => q p _ (Ex.mk hp rfl) upd_same⟩))
  subst e
  refine q a H (Ex.refl H) ?_
  rw [List.append_nil]
  exact h1
theorem atI_snoc {xs : List V} {x : V} : atI (xs ++ [x]) (-1) = some x := by
  unfold atI ixN
  rw [if_neg (by decide), if_pos (by rw [List.length_append, List.length_singleton]; omega)]
  show (xs ++ [x])[_]? = _
  rw [List.length_append, List.length_singleton]
  rw [show ((-1 : Int) + ((xs.length + 1 : Nat) : Int)).toNat = xs.length by omega]
  simp
theorem ixN_snoc {n : Nat} : ixN (n + 1) (-1) = some n := by
  unfold ixN
  rw [if_neg (by decide), if_pos (by omega)]
  congr 1
  omega
theorem set_snoc {xs : List V} {x y : V} : (xs ++ [x]).set xs.length y = xs ++ [y] := by simp
end
local macro_rules | `(tactic| subst "kp5") => `(tactic| (refine Kp.trans ?_ (Kp.sub (by assumption) (by (first | subst "subm" | fail))); subst "kp5"))
local macro_rules | `(tactic| subst "kp5") => `(tactic| (refine Kp.trans ?_ (Ex.kp (by assumption)); subst "kp5"))
local macro_rules | `(tactic| subst "kp5") => `(tactic| exact Kp.refl _)
local macro_rules | `(tactic| subst "kp5") => `(tactic| assumption)
set_option hygiene false in
local macro_rules | `(tactic| subst "env") => `(tactic| (refine env_sub (M := M5) (subm_c m51 (subm_c m52 subm_n)) ?h; (case h => subst "envm")))
set_option hygiene false in
local macro_rules | `(tactic| subst "i_c_alt") => `(tactic| intro rs v Hn sv sk rc ke so)
set_option hygiene false in
local macro_rules | `(tactic| injection "own") => `(tactic| (refine c_alt (a := a) (ed := ed) (cs := cs) (M := M5) (c := c) m51 m52 ?a ?b ?d eb.ok ma5 ?e eb.tl ?_; (case a => subst "st_ok"); (case b => exists "mok"); (case d => subst "ein"); (case e => assumption); subst "i_c_alt"))
local macro_rules | `(tactic| injection "own") => `(tactic| ((with_reducible refine q_cut3 (a := ?a) (b := ?b) (c := ?c) (d := ?d) ?h ?_); (case h => exists "lift"); subst "i_new"))
theorem gin_kp {M : List Addr} {H H' : Hp} {g : Option Tm} {v : V} (k : Kp M H H') (h : gIn H g v) : gIn H' g v := gIn.up k.tup h
theorem gin_ex {H H' : Hp} {g : Option Tm} {v : V} (k : Ex H H') (h : gIn H g v) : gIn H' g v := gin_kp (M := []) k.kp h
local macro_rules | `(tactic| subst "gin") => `(tactic| (refine gin_kp (by assumption) ?_; subst "gin"))
local macro_rules | `(tactic| subst "gin") => `(tactic| (refine gin_ex (by assumption) ?_; subst "gin"))
local macro_rules | `(tactic| subst "gin") => `(tactic| assumption)
def sp_itemsQ (Qq : Nat → Prop) (n : Nat) : Sp := fun vs H Q E => ∃ q0, Qq q0 ∧ sp_items q0 n vs H Q E
def Spi (q : Nat) (I P : Sp) (n : Nat) : Prop := 2 ≤ q → (∀ vs H Q E, sp_items 1 n vs H Q E → I vs H Q E) ∧ ∀ vs H Q E, sp_par n vs H Q E → P vs H Q E
/-- the loop over the items: found is fl, over M5 = fl :: M -/
structure ItInv (st c ae wa ch il fl : Addr) (M5 : List Addr) (q : Nat) (F0 : Fr) (d : Wd) (G H : Hp) (σ : L2.St) (H' : Hp) : Prop where
  ex : ∃ (x1 x2 x3 x4 x5 x6 : Option V) (d1 : Wd) (ss : Ss) (ys : List V), σ = [some (.ref st), some (.ref ae), some (.ref wa), some (.ref il), some (.ref fl), x1, x2, x3, x4, x5, x6] ∧ H' fl = some (.lst ys) ∧ ss.In M5 H' ys ∧ ItOut q F0 d d1 ss ∧ WIn wa ch d1 H'
  kM : Kp M5 G H'
  kH : Kp (Mw st c wa ch) H H'
  so : StOk st c H'
  mo : MoS M5 st c H'
theorem ItInv.fin {st c ae wa ch il fl : Addr} {M5 : List Addr} {q : Nat} {F0 : Fr} {d d1 d3 : Wd} {G H H3 : Hp} {ss pre mm : Ss} {ys pv mv : List V} {x1 x2 x3 x4 x5 x6 : Option V} (ho : ItOut q F0 d d1 ss) (hm : ItOut q F0 d1 d3 (pre.app mm))
    (hfl : H3 fl = some (.lst (ys ++ pv ++ mv))) (i1 : ss.In M5 H3 ys) (i2 : pre.In M5 H3 pv) (i3 : mm.In M5 H3 mv) (kM : Kp M5 G H3) (kH : Kp (Mw st c wa ch) H H3) (so : StOk st c H3) (wi : WIn wa ch d3 H3) (mo : MoS M5 st c H3) :
    ItInv st c ae wa ch il fl M5 q F0 d G H [some (.ref st), some (.ref ae), some (.ref wa), some (.ref il), some (.ref fl), x1, x2, x3, x4, x5, x6] H3 :=
  ⟨⟨x1, x2, x3, x4, x5, x6, d3, ss.app (pre.app mm), ys ++ (pv ++ mv), rfl, by rw [← List.append_assoc]; exact hfl, Ss.app_in i1 (Ss.app_in i2 i3), ho.trans hm, wi⟩, kM, kH, so, mo⟩
/-- behind the first statement -/
structure ItMid (st c wa ch fl : Addr) (M5 : List Addr) (F0 : Fr) (d2 : Wd) (H H2 : Hp) (ys : List V) (σ0 σ : L2.St) (H' : Hp) : Prop where
  e : σ = σ0
  ex : ∃ (pre : Ss) (pv : List V), H' fl = some (.lst (ys ++ pv)) ∧ pre.In M5 H' pv ∧ Pre F0 pre ∧ pv.length ≤ 1
  kM : Kp M5 H2 H'
  kH : Kp (Mw st c wa ch) H H'
  so : StOk st c H'
  wi : WIn wa ch d2 H'
  mo : MoS M5 st c H'
theorem ok_items (T : Glo K w mg) (D : Dn K mg "_law_items" s__law_items p__law_items) (L : Nat) (hL : 11 ≤ L) (Qq : Nat → Prop) (n : Nat) {sI sP : Sp} (hS0 : ∀ q0, Qq q0 → Spi q0 sI sP n)
    (G__law_draw : Cal P w K mg base "_law_draw" 1 p__law_draw sp_draw) (G__law_expression : Cal P w K mg base "_law_expression" 7 p__law_expression (sp_expr 3)) (G__law_target : Cal P w K mg base "_law_target" 4 p__law_target sp_target)
    (G__law_simple : Cal P w K mg base "_law_simple" 9 p__law_simple (sp_sx 3 5 7)) (G__law_alt : Cal P w K mg base "_law_alt" 10 p__law_alt sp_alt) (G__law_wrapped : Cal P w K mg base "_law_wrapped" 9 p__law_wrapped sp_wrap)
    (G__law_items : Cal P w K mg base "_law_items" L p__law_items sI) {p__law_par : List Str} (G__law_par : Cal P w K mg base "_law_par" L p__law_par sP) :
    Cal P w K mg base "_law_items" (L + 1) p__law_items (sp_itemsQ Qq n) := by
  refine D.ok sc__law_items (fun vs H Q E h => ?_) (fun f cdv A outer s H vs Q E hr h => ?_)
  · obtain ⟨_, _, _, _, _, _, _, _, _, _, _, _, _, _, rfl, _⟩ := h
    rfl
  obtain ⟨q0, hQ, a, ed, cs, M, st, c, wa, ch, il, d, xs, its, rfl, ms, mo, so, wi, nw, nc, ei, ma, eb, dok, hl, hil, ni, hits, hfit, q⟩ := h
  refine ⟨_, (pss_cons (ps_set (i := 4) sc__law_items.nd rfl (by first | exact Or.inl rfl | exact Or.inr rfl) (pe_lst pa_nil)) (pss_cons (ps_for PassesOwn.never rfl (pi_list (pv 3)) (pg_name (i := 5) sc__law_items.nd rfl (by first | exact Or.inl rfl | exact Or.inr rfl)) (pss_one (ps_if (pt_cmpR op_gt (pe_dget (hu_of hr) (pv 2) pe_str (fun _ _ => rfl)) pe_int (nomark _)) (pss_cons (ps_dput (hu_of hr) (pv 2) pe_str (pe_op op_sub (pe_dget (hu_of hr) (pv 2) pe_str (fun _ _ => rfl)) pe_int) rfl) (pss_cons (ps_if (pt_cmpR (op_eqA (hu64 hr)) (pe_cal G__law_draw (hr.mono (by (first | subst "lev" | fail))) rfl (pa_cons (pv 0) (pa_cons pe_int pa_nil))) pe_int (nomark _)) (pss_one (ps_expr (pe_bm PySem.F.plainAttrs_list PySem.F.slot_list_append PySem.F.type_list_append mt_append (pv 4) (pa_cons (pe_cal G__law_simple (hr.mono (by (first | subst "lev" | fail))) rfl (pa_cons (pv 0) (pa_cons (pv 1) pa_nil))) pa_nil)))) pss_nil) (pss_one (ps_if (pt_cmpR (op_eqA (hu64 hr)) (pe_ix ix_seq (pv 5) pe_int (fun _ _ => rfl)) pe_str (nomark _)) (pss_one (ps_expr (pe_bm PySem.F.plainAttrs_list PySem.F.slot_list_append PySem.F.type_list_append mt_append (pv 4) (pa_cons (pe_tup (pa_cons pe_str (pa_cons (pe_ix ix_seq (pv 5) pe_int (fun _ _ => rfl)) (pa_cons (pe_cal G__law_expression (hr.mono (by (first | subst "lev" | fail))) rfl (pa_cons (pv 0) (pa_cons (pv 1) (pa_cons pe_int pa_nil)))) pa_nil)))) pa_nil)))) (pss_one (ps_if (PW.pt (pw_and (pt_cmpR (op_eqA (hu64 hr)) (pe_ix ix_seq (pv 5) pe_int (fun _ _ => rfl)) pe_str (nomark _)) (pw_and (pt_val (pe_dget (hu_of hr) (pv 2) pe_str (fun _ _ => rfl))) (pw_and1 (pt_cmpR (op_eqA (hu64 hr)) (pe_cal G__law_draw (hr.mono (by (first | subst "lev" | fail))) rfl (pa_cons (pv 0) (pa_cons pe_int pa_nil))) pe_int (nomark _)))))) (pss_cons (ps_expr (pe_bm PySem.F.plainAttrs_list PySem.F.slot_list_append PySem.F.type_list_append mt_append (pv 4) (pa_cons (pe_cal G__law_alt (hr.mono (by (first | subst "lev" | fail))) rfl (pa_cons (pv 0) (pa_cons (pv 1) (pa_cons (pe_ix ix_seq (pv 5) pe_int (fun _ _ => rfl)) pa_nil)))) pa_nil))) (pss_one (ps_if (PW.pt (pw_and (pt_cmpR (op_eqA (hu64 hr)) (pe_ix ix_seq (pv 5) (pe_un un_neg pe_int) (fun _ _ => rfl)) pe_str (nomark _)) (pw_and1 (pt_cmpR (op_eqA (hu64 hr)) (pe_cal G__law_draw (hr.mono (by (first | subst "lev" | fail))) rfl (pa_cons (pv 0) (pa_cons pe_int pa_nil))) pe_int (nomark _))))) (pss_cons (ps_set (i := 6) sc__law_items.nd rfl (by first | exact Or.inl rfl | exact Or.inr rfl) (pe_ix ix_seq (pe_ix ix_seq (pe_ix ix_seq (pv 4) (pe_un un_neg pe_int) (fun _ _ => rfl)) pe_int (fun _ _ => rfl)) pe_int (fun _ _ => rfl))) (pss_one (ps_asg (pe_tup (pa_cons pe_str (pa_cons (pe_op op_addA (pe_lst (pa_cons (pe_op op_addA (pe_slice sl_any (pv 6) po_none (po_some pe_int)) (pe_tup (pa_cons (pe_cal G__law_par (hr.mono (by (first | subst "lev" | fail))) rfl (pa_cons (pv 0) (pa_cons (pv 1) (pa_cons (pv 2) (pa_cons pe_int pa_nil))))) pa_nil))) pa_nil)) (pe_slice sl_any (pe_ix ix_seq (pe_ix ix_seq (pv 4) (pe_un un_neg pe_int) (fun _ _ => rfl)) pe_int (fun _ _ => rfl)) (po_some pe_int) po_none)) pa_nil))) (pg_sub (pv 4) (pe_un un_neg pe_int) set_list)))) pss_nil))) (pss_one (ps_if (pt_cmpR (op_eqA (hu64 hr)) (pe_ix ix_seq (pv 5) pe_int (fun _ _ => rfl)) pe_str (nomark _)) (pss_one (ps_expr (pe_bm PySem.F.plainAttrs_list PySem.F.slot_list_append PySem.F.type_list_append mt_append (pv 4) (pa_cons (pe_tup (pa_cons pe_str (pa_cons (pe_ix ix_seq (pv 5) pe_int (fun _ _ => rfl)) (pa_cons (pe_cal G__law_target (hr.mono (by (first | subst "lev" | fail))) rfl (pa_cons (pv 0) (pa_cons (pv 1) pa_nil))) pa_nil)))) pa_nil)))) (pss_one (ps_if (pt_cmpR (op_eqA (hu64 hr)) (pe_ix ix_seq (pv 5) pe_int (fun _ _ => rfl)) pe_str (nomark _)) (pss_cons (ps_set (i := 7) sc__law_items.nd rfl (by first | exact Or.inl rfl | exact Or.inr rfl) (pe_tup (pa_cons pe_str (pa_cons (pe_ix ix_seq (pv 5) pe_int (fun _ _ => rfl)) pa_nil)))) (pss_cons (ps_setLc (i := 8) (own := [("_law_part", 10)]) (tt := tYes) rfl sc__law_items.nd rfl rfl (sw_true rfl rfl rfl (by decide +kernel)) (pi_list (pe_ix ix_seq (pv 5) pe_int (fun _ _ => rfl))) (blkOk_by (N := ["_law_state_here", "_law_env_here", "_law_world", "_law_items_here", "_law_found", "_law_item", "_law_row", "_law_counter", "_law_parts", "_law_inner", "_law_part"]) (sc := defScope s__law_items) (by decide +kernel)) (fun _ _ _ _ _ => (pg_name (i := 10) sc__law_items.nd rfl (by first | exact Or.inl rfl | exact Or.inr rfl))) (fun _ _ _ _ _ => pts_nil) (fun _ _ _ _ _ => (pe_tup (pa_cons (pe_ix (ix_seqK (K := K) rfl) (pv 10) pe_int (fun _ _ => rfl)) (pa_cons (pe_ix (ix_seqK (K := K) rfl) (pv 10) pe_int (fun _ _ => rfl)) (pa_cons pe_str pa_nil)))))) (pss_cons (ps_set (i := 9) sc__law_items.nd rfl (by first | exact Or.inl rfl | exact Or.inr rfl) (pe_op op_addA (pe_cal G__law_items (hr.mono (by (first | subst "lev" | fail))) rfl (pa_cons (pv 0) (pa_cons (pv 1) (pa_cons (pv 2) (pa_cons (pv 8) pa_nil))))) (pe_lst (pa_cons (pe_tup (pa_cons pe_str (pa_cons (pv 7) (pa_cons (pe_tup (pa_cons pe_str (pa_cons (pv 7) (pa_cons (pe_tup (pa_cons pe_str (pa_cons pe_int pa_nil))) pa_nil)))) pa_nil)))) pa_nil)))) (pss_cons (ps_expr (pe_bm PySem.F.plainAttrs_list PySem.F.slot_list_append PySem.F.type_list_append mt_append (pv 4) (pa_cons (pe_tup (pa_cons pe_str (pa_cons (pv 7) (pa_cons (pe_tup (pa_cons pe_str (pa_cons pe_int pa_nil))) pa_nil)))) pa_nil))) (pss_one (ps_expr (pe_bm PySem.F.plainAttrs_list PySem.F.slot_list_append PySem.F.type_list_append mt_append (pv 4) (pa_cons (pe_tup (pa_cons pe_str (pa_cons (pe_tup (pa_cons pe_str (pa_cons (pv 7) (pa_cons (pe_tup (pa_cons pe_str (pa_cons (pe_ix ix_seq (pv 5) pe_int (fun _ _ => rfl)) pa_nil))) pa_nil)))) (pa_cons (pe_op op_addA (pe_ix ix_seq (pv 5) pe_int (fun _ _ => rfl)) (pe_cal G__law_draw (hr.mono (by (first | subst "lev" | fail))) rfl (pa_cons (pv 0) (pa_cons pe_int pa_nil)))) (pa_cons (pe_tup (pa_cons pe_str (pa_cons (pv 9) pa_nil))) pa_nil))))) pa_nil)))))))) (pss_one (ps_expr (pe_bm PySem.F.plainAttrs_list PySem.F.slot_list_append PySem.F.type_list_append mt_append (pv 4) (pa_cons (pe_cal G__law_wrapped (hr.mono (by (first | subst "lev" | fail))) rfl (pa_cons (pv 0) (pa_cons (pv 1) (pa_cons (pv 2) (pa_cons (pe_cal G__law_par (hr.mono (by (first | subst "lev" | fail))) rfl (pa_cons (pv 0) (pa_cons (pv 1) (pa_cons (pv 2) (pa_cons pe_int pa_nil))))) pa_nil))))) pa_nil)))))))))))))) pss_nil))) (pss_one (ps_ret (pv 4))))), ?_⟩
  try dsimp only [cxOf, Cx.nox]
  repeat' (first | specialize "st" | fail)
  have hS := hS0 q0 hQ
  obtain ⟨fl, rfl⟩ : ∃ x, x = p := ⟨_, rfl⟩
  obtain ⟨M5, e5⟩ : ∃ M5, M5 = fl :: M := ⟨_, rfl⟩
  have nfM : fl ∉ M := mo.fresh so hp
  have nf : fl ∉ Mw st c wa ch := fun z => nfM (ms _ z)
  have nfs : fl ∉ [st, c] := fun z => nf (by
    simp only [List.mem_cons, List.not_mem_nil, or_false] at z ⊢
    rcases z with z | z <;> simp [z])
  have nfw : wa ≠ fl := fun z => nf (by simp [z])
  have nfc : ch ≠ fl := fun z => nf (by simp [z])
  have nfi : il ≠ fl := ne_of_none hil hp
  have m51 : st ∈ M5 := e5 ▸ List.mem_cons_of_mem _ (ms _ (by simp))
  have m52 : c ∈ M5 := e5 ▸ List.mem_cons_of_mem _ (ms _ (by simp))
  have m53 : wa ∈ M5 := e5 ▸ List.mem_cons_of_mem _ (ms _ (by simp))
  have m54 : ch ∈ M5 := e5 ▸ List.mem_cons_of_mem _ (ms _ (by simp))
  have m55 : fl ∈ M5 := e5 ▸ List.mem_cons_self ..
  have ms5 : ∀ x, x ∈ Mw st c wa ch → x ∈ M5 := fun x hx => e5 ▸ List.mem_cons_of_mem _ (ms _ hx)
  have ml5 : ∀ x, x ∈ M → x ∈ M5 := fun x hx => e5 ▸ List.mem_cons_of_mem _ hx
  have ma5 : a.out M5 := e5 ▸ ei.more ma hp
  have mo5 : MoS M5 st c Hn := by
    rw [e5]
    exact (mo.ex ke).cons (fsome hn)
  have ni5 : il ∉ M5 := fun z => by
    rw [e5] at z
    rcases List.mem_cons.mp z with z | z
    · exact nfi z
    · exact ni z
  have hits5 : Its M5 Hn xs its := by
    rw [e5]
    exact its_ksub ke.kp (fun _ h => h) (its_more hp hits)
  have ei5 : EIn a ed Hn := ei.exx ke
  have wi5 : WIn wa ch d Hn := wi.exx ke
  have so5 : StOk st c Hn := st_ex ke so
  have hil5 := ke _ _ hil
  have k05 : Kp (Mw st c wa ch) H Hn := ke.kp
  obtain ⟨G, rfl⟩ : ∃ x, x = Hn := ⟨_, rfl⟩
  have hpf : H fl = none := hp
  clear hil hits wi so mo ei ke ni ma
  refine w_list (xs := xs) (fun _ σ H' => ItInv st c a.e wa ch il fl M5 q0 (ed.fr cs) d G H σ H') ?_ ?_ ?_ ?_
  · exact ⟨⟨_, _, _, _, _, _, d, .nil, [], rfl, hn, rfl, ItOut.refl dok, wi5⟩, Kp.refl _, k05, so5, mo5⟩
  · rintro i σ H' _ ⟨⟨_, _, _, _, _, _, _, _, _, rfl, _⟩, kM, _⟩
    exact sql (kM.out _ _ ni5 hil5)
  · rintro i x σ H' hx ⟨⟨x1, x2, x3, x4, x5, x6, d1, ss, ys, rfl, hfl, hss, ho, wi⟩, kM, kH, so, mo⟩
    obtain ⟨it, hit, hix⟩ := pair_at hits5 hx
    have hix := hix.ksub kM (fun _ h => h)
    have hf := hfit it (List.mem_of_getElem? hit)
    have ei : EIn a ed H' := ei5.ksub kM ma5 (fun _ h => h)
    have en : EnvS (ed.fr cs).W (ed.fr cs).R M5 a.e H' := ei.env eb.ok ma5
    have dok1 := ho.evo.wok dok
    have eb1 := eb.evo ho.evo
    have hl1 : d1.left ≤ 2 * n + 1 := by
      have := ho.evo.lf
      omega
    have hlen : ys.length ≤ 60000 := by
      have h1 := Ss.in_len hss
      have h2 := ho.sz
      have h3 := dok.pot
      have h4 := dok1.lf0
      have h5 := dok1.it0
      have h6 := dok.ce0
      have h7 := dok.lf0
      have h8 := dok.it0
      omega
    clear hits5 ei5 wi5 so5 hil5 mo5 hn hp hx ni5
    have kG : True ∧ Kp M5 G H' ∧ Kp (Mw st c wa ch) H H' := ⟨trivial, kM, kH⟩
    clear kM kH
    iterate 25 ((first | specialize "st" | fail))
    · rename_i hi
      obtain ⟨H2, rfl⟩ : ∃ x, x = Hn := ⟨_, rfl⟩
      obtain ⟨d2, e2⟩ : ∃ x, x = { d1 with items := d1.items - 1 } := ⟨_, rfl⟩
      rw [← e2] at wi
      have so2 : StOk st c H2 := st_kpx kw (alln_c nw alln_n) so
      have mo2 : MoS M5 st c H2 := mo.al (al_one kw wi.al1)
      have kw5 : Kp M5 H' H2 := kw.sub (subm_c m53 subm_n)
      have kwH : Kp (Mw st c wa ch) H H2 := kG.2.2.trans (kw.sub (subm_c (by simp) subm_n))
      have kwM : Kp M5 G H2 := kG.2.1.trans kw5
      have hfl2 : H2 fl = some (.lst ys) := kw.out _ _ (nin_c (Ne.symm nfw) List.not_mem_nil) hfl
      have hss2 : ss.In M5 H2 ys := hss.kp kw5
      have ei2 : EIn a ed H2 := ei.ksub kw5 ma5 (fun _ h => h)
      have en2 : EnvS (ed.fr cs).W (ed.fr cs).R M5 a.e H2 := env_kp kw5 en
      have hix2 := hix.ksub kw5 (fun _ h => h)
      have dok2 : d2.ok := by
        rw [e2]
        exact (Evo.item dok1 hi).wok dok1
      have eb2 : EdB ed d2 := by
        rw [e2]
        exact eb1.evo (Evo.item dok1 hi)
      have hl2 : d2.left ≤ 2 * n + 1 := by
        rw [e2]
        exact hl1
      have kG2 : True ∧ Kp M5 G H2 ∧ Kp (Mw st c wa ch) H H2 := ⟨trivial, kwM, kwH⟩
      clear hfl so mo hss ei en hix kw5 kwM kwH kG kw
      rename_i wi'
      clear wi'
      refine ifsj (ItMid st c wa ch fl M5 (ed.fr cs) d2 H H2 ys [some (.ref st), some (.ref a.e), some (.ref wa), some (.ref il), some (.ref fl), some x, x2, x3, x4, x5, x6]) (fun nx' hn' => ?_) (fun σ' H3 hR => ?_)
      · repeat' (first | specialize "st" | fail)
        · have kH := kG2.2.2
          exact hn' _ _ ⟨rfl, ⟨.cons sx .nil, [v], hu, ⟨v, [], rfl, by (first | subst "sx" | fail), rfl⟩, Pre.one sk, Nat.le_refl 1⟩, by (first | subst "kp5" | fail), by (first | subst "kpx" | fail), by (first | subst "st_ok" | fail), by (first | subst "win" | fail), by (first | exists "mok" | fail)⟩
        · have kH := kG2.2.2
          exact hn' _ _ ⟨rfl, ⟨.nil, [], by rw [List.append_nil]; (first | exists "lift" | fail), rfl, Pre.nil, Nat.zero_le 1⟩, by (first | subst "kp5" | fail), by (first | subst "kpx" | fail), by (first | subst "st_ok" | fail), by (first | subst "win" | fail), by (first | exists "mok" | fail)⟩
      · obtain ⟨rfl, ⟨pre, pv, hfl, hpre, hpp, hpl⟩, kM3, kH3, so, wi, mo⟩ := hR
        have hss : ss.In M5 H3 ys := hss2.kp kM3
        have ei : EIn a ed H3 := ei2.ksub kM3 ma5 (fun _ h => h)
        have en : EnvS (ed.fr cs).W (ed.fr cs).R M5 a.e H3 := env_kp kM3 en2
        have hix := hix2.ksub kM3 (fun _ h => h)
        have kG : True ∧ Kp M5 G H3 ∧ Kp (Mw st c wa ch) H H3 := ⟨trivial, kG2.2.1.trans kM3, kH3⟩
        clear hfl2 so2 mo2 hss2 ei2 en2 hix2 kG2 kM3 kH3
        rename_i wi'
        clear wi'
        have hlen2 : (ys ++ pv).length ≤ 60001 := by
          rw [List.length_append]
          omega
        obtain ⟨yp, eyp⟩ : ∃ yp, yp = ys ++ pv := ⟨_, rfl⟩
        rw [← eyp] at hfl hlen2
        cases it with
        | nest =>
          have hq3 : 3 ≤ q0 := hf.2
          obtain ⟨p0, rfl, hp0⟩ := hix
          repeat' (first | specialize "st" | fail)
          refine (hS (by omega)).2 _ _ _ _ (c_par ms5 mo so wi nw nc ei ma5 eb2 dok2 hl2 (.inl rfl) ?_)
          intro s1 v1 d3 H4 hs1 po kp4 so4 wi4
          have mo4 : MoS M5 st c H4 := moS_mw kp4 so4 wi4 mo
          have ei4 : EIn a ed H4 := ei.ksub kp4 ma5 ms5
          repeat' (first | specialize "st" | fail)
          refine c_wrap (cs := cs) ms5 mo4 so4 wi4 nw nc ei4 eb2.ok ma5 hs1 ?_
          intro s2 v2 m5 H5 m0 m1 hs2 hw kp5 so5 wi5
          have mo5 : MoS M5 st c H5 := moS_mw kp5 so5 wi5 mo4
          have hfl5 : H5 fl = some (.lst yp) := kp5.out _ _ nf (kp4.out _ _ nf hfl)
          clear wi wi4 so so4
          repeat' (first | specialize "st" | fail)
          have kM := kG.2.1
          have kH := kG.2.2
          refine ItInv.fin (pre := pre) (pv := pv) (mm := .cons s2 .nil) (mv := [v2]) ho (ItOut.wrap (pre := pre) hq3 Fr.nil_le dok1 hi hpp (by rw [← e2]; exact po) hw m0 m1) (by rw [← eyp]; exact hu) (by (first | subst "ss" | fail)) (by (first | subst "ss" | fail)) ⟨v2, [], rfl, by (first | subst "sx" | fail), rfl⟩ (by (first | subst "kp5" | fail)) (by (first | subst "kpx" | fail)) (by (first | subst "st_ok" | fail)) (by (first | subst "win" | fail)) (by (first | exists "mok" | fail))
        | loop m ps x0 =>
          obtain ⟨p0, l0, xl, rfl, hp0, hl0, nl0, hpts⟩ := hix
          have hq2 : 2 ≤ q0 := hf.2
          obtain ⟨hm0, hm1, hxc, hpl0, hpf0⟩ := hf.1
          have hxl : xl.length ≤ 1000 := by
            rw [Paired.length hpts]
            exact hpl0
          repeat' (first | specialize "st" | fail)
          obtain ⟨H5, rfl⟩ : ∃ x, x = Hn := ⟨_, rfl⟩
          have so5 : StOk st c H5 := by (first | subst "st_ok" | fail)
          have mo5 : MoS M5 st c H5 := by (first | exists "mok" | fail)
          have wi5 : WIn wa ch d2 H5 := by (first | subst "win" | fail)
          have ei5 : EIn a ed H5 := by (first | subst "ein" | fail)
          have hl5 : H5 l0 = some (.lst xl) := by (first | exists "lift" | fail)
          have hpt5 : Pts H5 xl ps := Pts.up (M := []) (by (first | subst "kpx" | fail)) hpts
          have hfl5 : H5 fl = some (.lst yp) := by (first | exists "lift" | fail)
          obtain ⟨pc, rfl⟩ : ∃ x, x = p := ⟨_, rfl⟩
          intro D hD
          have nDM : D ∉ M5 := mo5.fresh so5 hD
          refine lc_list (xs := xl) (fun i H2 => Ex H5 H2 ∧ ∃ ts, H2 D = some (.lst ts) ∧ Paired (fun v (p : Bool × Int) => ∃ q, v = V.ref q ∧ H2 q = some (.tup [.str (gtS p.1), .int p.2, .str "loop"])) ts (ps.take i)) ?_ ?_ ?_ ?_
          · exact ⟨Ex.mk hD rfl, [], upd_same, .nil⟩
          · rintro i H2 _ ⟨e, _⟩
            exact sql (e _ _ hl5)
          · rintro i x H2 hx ⟨e, ts, hts, hpr⟩
            obtain ⟨p1, hp1, q1, rfl, hq1⟩ := pair_at hpt5 hx
            have hq1 := e _ _ hq1
            have hlt : ts.length ≤ 1000 := by
              rw [Paired.length hpr, List.length_take]
              omega
            refine ⟨rfl, ?_⟩
            repeat' (first | specialize "st" | fail)
            have hD2 := ke _ _ hts
            refine ⟨ts, hD2, sl1000' (by omega), ?_⟩
            generalize hu9 : upd Hn D _ = H9
            have k9 : Kp [D] Hn H9 := kp_upd hD2 hu9
            refine ⟨fun b u hb => k9.out _ _ (nin_c (ne_of_none hb hD) List.not_mem_nil) (ke _ _ (e _ _ hb)), ts ++ [.ref p], at_new hu9, ?_⟩
            rw [List.take_add_one, hp1]
            exact pair_app (Paired.mapP hpr fun _ _ ⟨q, e1, z⟩ => ⟨q, e1, k9.tup _ _ (ke _ _ z)⟩) (.cons ⟨p, rfl, k9.tup _ _ hn⟩ .nil)
          · rintro H2 ⟨e, ts, hts, hpr⟩
            rw [Paired.length hpt5, List.take_length] at hpr
            have so6 : StOk st c H2 := st_ex e so5
            have mo6 : MoS M5 st c H2 := mo5.ex e
            have wi6 : WIn wa ch d2 H2 := wi5.exx e
            have ei6 : EIn a ed H2 := ei5.exx e
            have hits6 : Its M5 H2 ts (ps.map fun p => .gt p.1 p.2 false) := by
              clear hpt5 hpts
              have key : ∀ {ts : List V} {ps : List (Bool × Int)}, Paired (fun v (p : Bool × Int) => ∃ q, v = V.ref q ∧ H2 q = some (.tup [.str (gtS p.1), .int p.2, .str "loop"])) ts ps → Its M5 H2 ts (ps.map fun p => .gt p.1 p.2 false) := by
                intro ts ps h
                induction h with
                | nil => exact .nil
                | cons a _ ih => exact .cons a ih
              exact key hpr
            repeat' (first | specialize "st" | fail)
            refine (hS hq2).1 _ _ _ _ (c_items (cs := cs) (xs := ts) (its := ps.map fun p => .gt p.1 p.2 false) ms5 mo6 so6 wi6 nw nc ei6 ma5 eb2 dok2 hl2 hts nDM hits6 (fun it hit => ?_) ?_)
            · obtain ⟨p1, hp1, rfl⟩ := List.mem_map.mp hit
              exact ⟨hpf0 p1 hp1, fun z => by cases z⟩
            intro ss1 l1 ys1 d3 H4 hl1' nl1 hs1 po kp4 so4 wi4
            have mo4 : MoS M5 st c H4 := moS_mw kp4 so4 wi4 mo6
            have hfl4 := kp4.out _ _ nf (e _ _ hfl5)
            have hys : ys1.length ≤ 60000 := by
              have h1 := Ss.in_len hs1
              have h2 := po.sz
              have h3 := dok2.pot
              have h4 := po.evo.lf0
              have h5 := po.evo.it0
              have h6 := dok2.ce0
              have h7 := dok2.lf0
              have h8 := dok2.it0
              omega
            have nl1w : l1 ∉ [st, c] := fun z => nl1 (by
              simp only [List.mem_cons, List.not_mem_nil, or_false] at z
              rcases z with z | z <;> rw [z] <;> assumption)
            have nl1f : l1 ≠ fl := fun z => nl1 (z ▸ m55)
            repeat' (first | specialize "st" | fail)
            have hm : ItOut q0 (ed.fr cs) d1 d3 (pre.app (.cons (.set (.cell x0) (.num 0)) (.cons (.rep (.bin .lt (.cell x0) (.num m)) (m + dn) (.seq (ss1.app (.cons (.set (.cell x0) (.bin .add (.cell x0) (.num 1))) .nil)))) .nil))) := MOut.step dok1 hi hpp (by
              rw [← e2]
              exact MOut.loop hq2 po (po.c0 (Nat.le_refl 1)) dok2 (.inr (.inr hxc)) (.inr (.inr hxc)) hm0 hm1 (by omega) (by omega))
            rename_i b9 A12 hb9 cb9 nb9 b8 A11 hb8 cb8 nb8 b7 A10 hb7 cb7 nb7 b6 A9 hb6 cb6 nb6 b5 A8 hb5 cb5 nb5 b4 A7 hb4 cb4 nb4 b3 A6 hb3 cb3 nb3 A5 kub hub b2 A4 hb2 cb2 nb2 b1 A3 hb1 cb1 nb1 A2 kb2 b0 A1 hb0 cb0 nb0 A0
            have nm5 : b5 ∉ M5 := MoS.fresh (st := st) (c := c) (H := A9) (by (first | subst "st_ok" | fail)) (by (first | exists "mok" | fail)) hb5
            have nm5f : b5 ≠ fl := fun z => nm5 (z ▸ m55)
            have nm5s : b5 ∉ [st, c] := fun z => nm5 (by
              simp only [List.mem_cons, List.not_mem_nil, or_false] at z
              rcases z with z | z <;> rw [z] <;> assumption)
            have hx5 : Hn b5 = some (.lst (ys1 ++ [.ref b7])) := by (first | exists "lift" | fail)
            have kM := kG.2.1
            have kH := kG.2.2
            exact ItInv.fin (pre := pre) (pv := pv) (mm := .cons (.set (.cell x0) (.num 0)) (.cons (.rep (.bin .lt (.cell x0) (.num m)) (m + dn) (.seq (ss1.app (.cons (.set (.cell x0) (.bin .add (.cell x0) (.num 1))) .nil)))) .nil)) (mv := [.ref b3, .ref p]) ho hm (by rw [← eyp, hu, List.append_assoc]; rfl) (by (first | subst "ss" | fail)) (by (first | subst "ss" | fail))
              ⟨_, _, rfl, by (first | subst "sxc" | fail), _, [], rfl, sxi_rep (x := .ref b1) (y := .ref b0) (by (first | exists "lift" | fail)) (by (first | subst "tmc" | fail)) (sxi_seq (l := b5) (by (first | exists "lift" | fail)) hx5 nm5 (Ss.app_in (by (first | subst "ss" | fail)) ⟨_, [], rfl, by (first | subst "sxc" | fail), rfl⟩)), rfl⟩ (by (first | subst "kp5" | fail)) (by (first | subst "kpx" | fail)) (by (first | subst "st_ok" | fail)) (by (first | subst "win" | fail)) (by (first | exists "mok" | fail))
        | gt gv c1 z =>
          obtain ⟨p0, rfl, hp0⟩ := hix
          have hk := hf.1
          cases gv
          · have hct : c1 ∈ ed.takes := hk.2 rfl
            cases z
            · have hp0 : H3 p0 = some (.tup [.str "take", .int c1, .str "loop"]) := hp0
              rcases Bool.eq_false_or_eq_true d2.alts with hal2 | hal2
              · (repeat' (first | specialize "st" | fail))
                · skip
                  have kM := kG.2.1
                  have kH := kG.2.2
                  have hm : ItOut q0 (ed.fr cs) d1 d2 (pre.app (.cons (.alt rs) .nil)) := MOut.step dok1 hi hpp (by
                    rw [← e2]
                    exact MOut.plain dok2 sk (by decide) (by decide) (by decide))
                  exact ItInv.fin (pre := pre) (pv := pv) (mm := .cons (.alt rs) .nil) (mv := [v]) ho hm (by rw [← eyp]; exact hu) (by (first | subst "ss" | fail)) (by (first | subst "ss" | fail)) ⟨v, [], rfl, by (first | subst "sx" | fail), rfl⟩ (by (first | subst "kp5" | fail)) (by (first | subst "kpx" | fail)) (by (first | subst "st_ok" | fail)) (by (first | subst "win" | fail)) (by (first | exists "mok" | fail))
                · skip
                  have kM := kG.2.1
                  have kH := kG.2.2
                  have hm : ItOut q0 (ed.fr cs) d1 d2 (pre.app (.cons (.take c1 t) .nil)) := MOut.step dok1 hi hpp (by
                    rw [← e2]
                    exact MOut.plain (D := 1) (S := 1) (k := 2) dok2 ⟨⟨hct, ok, by omega⟩, trivial, rfl, by simp [Sx.dep], by simp [Sx.sz], by simp [Sx.wk]⟩ (by decide) (by decide) (by decide))
                  exact ItInv.fin (pre := pre) (pv := pv) (mm := .cons (.take c1 t) .nil) (mv := [_]) ho hm (by rw [← eyp]; exact hu) (by (first | subst "ss" | fail)) (by (first | subst "ss" | fail)) ⟨_, [], rfl, by (first | subst "sxc" | fail), rfl⟩ (by (first | subst "kp5" | fail)) (by (first | subst "kpx" | fail)) (by (first | subst "st_ok" | fail)) (by (first | subst "win" | fail)) (by (first | exists "mok" | fail))
              · (repeat' (first | specialize "st" | fail))
                have kM := kG.2.1
                have kH := kG.2.2
                have hm : ItOut q0 (ed.fr cs) d1 d2 (pre.app (.cons (.take c1 t) .nil)) := MOut.step dok1 hi hpp (by
                  rw [← e2]
                  exact MOut.plain (D := 1) (S := 1) (k := 2) dok2 ⟨⟨hct, ok, by omega⟩, trivial, rfl, by simp [Sx.dep], by simp [Sx.sz], by simp [Sx.wk]⟩ (by decide) (by decide) (by decide))
                exact ItInv.fin (pre := pre) (pv := pv) (mm := .cons (.take c1 t) .nil) (mv := [_]) ho hm (by rw [← eyp]; exact hu) (by (first | subst "ss" | fail)) (by (first | subst "ss" | fail)) ⟨_, [], rfl, by (first | subst "sxc" | fail), rfl⟩ (by (first | subst "kp5" | fail)) (by (first | subst "kpx" | fail)) (by (first | subst "st_ok" | fail)) (by (first | subst "win" | fail)) (by (first | exists "mok" | fail))
            · have hp0 : H3 p0 = some (.tup [.str "take", .int c1, .str ""]) := hp0
              rcases Bool.eq_false_or_eq_true d2.alts with hal2 | hal2
              · iterate 100 ((first | specialize "st" | fail))
                · obtain ⟨ga, ka, ta, sa, ra, rfl⟩ := rc
                  have hq2 : 2 ≤ q0 := hf.2 rfl
                  have sk0 := sk
                  obtain ⟨pa, la, xa, rfl, hpa, hla, nla, hra⟩ := sv
                  obtain ⟨qa, ua, xv, yv, xr, rfl, hqa, hga, hta, hsa, hrr⟩ := hra
                  have hxr : xr.length ≤ 1000 := by
                    have h1 := As.in_len hrr
                    have h2 := sk.sz
                    simp only [Sx.sz, As.sz] at h2
                    omega
                  have nlf : la ≠ fl := fun z => nla (z ▸ m55)
                  have nls : la ∉ [st, c] := fun z => nla (by
                    simp only [List.mem_cons, List.not_mem_nil, or_false] at z
                    rcases z with z | z <;> rw [z] <;> assumption)
                  have nlw : la ∉ Mw st c wa ch := fun z => nla (ms5 _ z)
                  refine q_ixL (sql (by (first | exists "lift" | fail))) atI_snoc ?_
                  repeat' (first | specialize "st" | fail)
                  have so5 : StOk st c Hn := by (first | subst "st_ok" | fail)
                  have mo5 : MoS M5 st c Hn := by (first | exists "mok" | fail)
                  have wi5 : WIn wa ch d2 Hn := by (first | subst "win" | fail)
                  have ei5 : EIn a ed Hn := by (first | subst "ein" | fail)
                  have hfl5 : Hn fl = some (.lst (yp ++ [.ref pa])) := by (first | exists "lift" | fail)
                  have hla5 : Hn la = some (.lst (.ref qa :: xr)) := by (first | exists "lift" | fail)
                  refine (hS hq2).2 _ _ _ _ (c_par ms5 mo5 so5 wi5 nw nc ei5 ma5 eb2 dok2 hl2 (.inl rfl) ?_)
                  intro s1 v1 d3 H4 hs1 po kp4 so4 wi4
                  have mo4 : MoS M5 st c H4 := moS_mw kp4 so4 wi4 mo5
                  have hfl4 := kp4.out _ _ nf hfl5
                  have hla4 := kp4.out _ _ nlw hla5
                  obtain ⟨psl, rfl⟩ : ∃ x, x = p := ⟨_, rfl⟩
                  iterate 2 ((first | specialize "st" | fail))
                  refine q_catT (x := ua) (xs := [.int ka, xv]) (ys := [v1]) (by (first | exists "lift" | fail)) (by (first | exists "lift" | fail)) (by simp) (fun p5 H6 e6 h6 => ?_)
                  repeat' (first | specialize "st" | fail)
                  refine q_ixL (sql (by (first | exists "lift" | fail))) atI_snoc ?_
                  repeat' (first | specialize "st" | fail)
                  refine q_setLN (xs := yp ++ [.ref pa]) (j := yp.length) (by (first | exists "lift" | fail)) (by rw [List.length_append, List.length_singleton]; exact ixN_snoc) ?_
                  intro Hn ku hu
                  rw [set_snoc] at hu
                  repeat' (first | specialize "st" | fail)
                  have hm : ItOut q0 (ed.fr cs) d1 d3 (pre.app (.cons (.alt (.cons ga ka ta s1 ra)) .nil)) := MOut.step dok1 hi hpp (by
                    rw [← e2]
                    exact MOut.alt hq2 Fr.nil_le sk0 po dok2)
                  have kM := kG.2.1
                  have kH := kG.2.2
                  exact ItInv.fin (pre := pre) (pv := pv) (mm := .cons (.alt (.cons ga ka ta s1 ra)) .nil) (mv := [_]) ho hm (by rw [← eyp]; exact hu) (by (first | subst "ss" | fail)) (by (first | subst "ss" | fail)) ⟨_, [], rfl, ⟨_, _, _, rfl, by (first | exists "lift" | fail), by (first | exists "lift" | fail), by (first | exists "nm" | fail), ⟨p5, ua, xv, v1, xr, rfl, by (first | exists "lift" | fail), by (first | subst "gin" | fail), by (first | subst "tm" | fail), by (first | subst "sx" | fail), by (first | subst "as" | fail)⟩⟩, rfl⟩ (by (first | subst "kp5" | fail)) (by (first | subst "kpx" | fail)) (by (first | subst "st_ok" | fail)) (by (first | subst "win" | fail)) (by (first | exists "mok" | fail))
                · (repeat' (first | specialize "st" | fail))
                  have kM := kG.2.1
                  have kH := kG.2.2
                  have hm : ItOut q0 (ed.fr cs) d1 d2 (pre.app (.cons (.alt rs) .nil)) := MOut.step dok1 hi hpp (by
                    rw [← e2]
                    exact MOut.plain dok2 sk (by decide) (by decide) (by decide))
                  exact ItInv.fin (pre := pre) (pv := pv) (mm := .cons (.alt rs) .nil) (mv := [v]) ho hm (by rw [← eyp]; (first | exists "lift" | fail)) (by (first | subst "ss" | fail)) (by (first | subst "ss" | fail)) ⟨v, [], rfl, by (first | subst "sx" | fail), rfl⟩ (by (first | subst "kp5" | fail)) (by (first | subst "kpx" | fail)) (by (first | subst "st_ok" | fail)) (by (first | subst "win" | fail)) (by (first | exists "mok" | fail))
                · (repeat' (first | specialize "st" | fail))
                  have kM := kG.2.1
                  have kH := kG.2.2
                  have hm : ItOut q0 (ed.fr cs) d1 d2 (pre.app (.cons (.take c1 t) .nil)) := MOut.step dok1 hi hpp (by
                    rw [← e2]
                    exact MOut.plain (D := 1) (S := 1) (k := 2) dok2 ⟨⟨hct, ok, by omega⟩, trivial, rfl, by simp [Sx.dep], by simp [Sx.sz], by simp [Sx.wk]⟩ (by decide) (by decide) (by decide))
                  exact ItInv.fin (pre := pre) (pv := pv) (mm := .cons (.take c1 t) .nil) (mv := [_]) ho hm (by rw [← eyp]; exact hu) (by (first | subst "ss" | fail)) (by (first | subst "ss" | fail)) ⟨_, [], rfl, by (first | subst "sxc" | fail), rfl⟩ (by (first | subst "kp5" | fail)) (by (first | subst "kpx" | fail)) (by (first | subst "st_ok" | fail)) (by (first | subst "win" | fail)) (by (first | exists "mok" | fail))
              · (repeat' (first | specialize "st" | fail))
                have kM := kG.2.1
                have kH := kG.2.2
                have hm : ItOut q0 (ed.fr cs) d1 d2 (pre.app (.cons (.take c1 t) .nil)) := MOut.step dok1 hi hpp (by
                  rw [← e2]
                  exact MOut.plain (D := 1) (S := 1) (k := 2) dok2 ⟨⟨hct, ok, by omega⟩, trivial, rfl, by simp [Sx.dep], by simp [Sx.sz], by simp [Sx.wk]⟩ (by decide) (by decide) (by decide))
                exact ItInv.fin (pre := pre) (pv := pv) (mm := .cons (.take c1 t) .nil) (mv := [_]) ho hm (by rw [← eyp]; exact hu) (by (first | subst "ss" | fail)) (by (first | subst "ss" | fail)) ⟨_, [], rfl, by (first | subst "sxc" | fail), rfl⟩ (by (first | subst "kp5" | fail)) (by (first | subst "kpx" | fail)) (by (first | subst "st_ok" | fail)) (by (first | subst "win" | fail)) (by (first | exists "mok" | fail))
          · have hcg : c1 ∈ ed.gives := hk.1 rfl
            have hp0 : H3 p0 = some (.tup [.str "give", .int c1, .str (zS z)]) := hp0
            repeat' (first | specialize "st" | fail)
            have kM := kG.2.1
            have kH := kG.2.2
            have hm : ItOut q0 (ed.fr cs) d1 d2 (pre.app (.cons (.give c1 t) .nil)) := MOut.step dok1 hi hpp (by
              rw [← e2]
              exact MOut.plain (D := 1) (S := 1) (k := 2) dok2 ⟨⟨hcg, ok, by omega⟩, trivial, rfl, by simp [Sx.dep], by simp [Sx.sz], by simp [Sx.wk]⟩ (by decide) (by decide) (by decide))
            exact ItInv.fin (pre := pre) (pv := pv) (mm := .cons (.give c1 t) .nil) (mv := [_]) ho hm (by rw [← eyp]; exact hu) (by (first | subst "ss" | fail)) (by (first | subst "ss" | fail)) ⟨_, [], rfl, by (first | subst "sxc" | fail), rfl⟩ (by (first | subst "kp5" | fail)) (by (first | subst "kpx" | fail)) (by (first | subst "st_ok" | fail)) (by (first | subst "win" | fail)) (by (first | exists "mok" | fail))
    · (repeat' (first | specialize "st" | fail))
      exact ⟨⟨_, _, _, _, _, _, d1, ss, ys, rfl, hfl, hss, ho, wi⟩, kG.2.1, kG.2.2, so, mo⟩
  · rintro σ H' ⟨⟨_, _, _, _, _, _, d1, ss, ys, rfl, hfl, hss, ho, wi⟩, kM, kH, so, mo⟩
    repeat' (first | specialize "st" | fail)
    exact q ss fl ys d1 H' hfl nfM (Ss.In.less ml5 hss) ho kH so wi
abbrev s__law_faulty : Stmt := topS 39
theorem sc__law_faulty : FnScope ["_law_state_here", "_law_script", "_law_at"] ["_law_state_here", "_law_script"] (defScope s__law_faulty) := ⟨rfl, rfl, rfl, by decide +kernel, rfl, by decide +kernel, by decide +kernel⟩
abbrev p__law_faulty : List Str := ["_law_state_here", "_law_script"]
theorem pair_take {α β : Type} {F : α → β → Prop} : ∀ {xs : List α} {ys : List β} (n : Nat), Paired F xs ys → Paired F (xs.take n) (ys.take n)
  | _, _, 0, _ => by simp only [List.take_zero]; exact .nil
  | _, _, n + 1, .nil => by simp only [List.take_nil]; exact .nil
  | _, _, n + 1, .cons a t => by simp only [List.take_succ_cons]; exact .cons a (pair_take n t)
theorem pair_drop {α β : Type} {F : α → β → Prop} : ∀ {xs : List α} {ys : List β} (n : Nat), Paired F xs ys → Paired F (xs.drop n) (ys.drop n)
  | _, _, 0, h => by simpa using h
  | _, _, n + 1, .nil => by simp only [List.drop_nil]; exact .nil
  | _, _, n + 1, .cons a t => by simp only [List.drop_succ_cons]; exact pair_drop n t
def sp_faulty : Sp := fun vs H Q _ => ∃ (M : List Addr) (st c sa : Addr) (xs : List V) (its : List Itm) (P : Itm → Prop), vs = [.ref st, .ref sa] ∧ st ∈ M ∧ c ∈ M ∧ MoS M st c H ∧ StOk st c H ∧ H sa = some (.lst xs) ∧ sa ∉ M ∧ Its M H xs its ∧ (∀ it ∈ its, P it) ∧ its.length ≤ 1000 ∧
  ∀ (l : Addr) (ys : List V) (its' : List Itm) (H' : Hp), H' l = some (.lst ys) → l ∉ M → Its M H' ys its' → (∀ it ∈ its', P it) → its'.length ≤ its.length → Kp [st, c] H H' → StOk st c H' → Q (.ref l) H'
theorem ok_faulty (T : Glo K w mg) (D : Dn K mg "_law_faulty" s__law_faulty p__law_faulty) (G__law_draw : Cal P w K mg base "_law_draw" 1 p__law_draw sp_draw) :
    Cal P w K mg base "_law_faulty" 2 p__law_faulty sp_faulty := by
  refine D.ok sc__law_faulty (fun vs H Q E h => ?_) (fun f cdv A outer s H vs Q E hr h => ?_)
  · obtain ⟨_, _, _, _, _, _, _, rfl, _⟩ := h
    rfl
  obtain ⟨M, st, c, sa, xs, its, Pp, rfl, m1, m2, mo, so, hsa, ns, hits, hP, hlen, q⟩ := h
  refine ⟨_, (pss_cons (ps_if (PW.pt (pw_and (pt_cmpR op_gt (pe_callB call_lenA rfl T.n_len (by decide +kernel) (pa_cons (pv 1) pa_nil)) pe_int (nomark _)) (pw_and1 (pt_cmpR (op_eqA (hu64 hr)) (pe_cal G__law_draw (hr.mono (by (first | subst "lev" | fail))) rfl (pa_cons (pv 0) (pa_cons pe_int pa_nil))) pe_int (nomark _))))) (pss_cons (ps_set (i := 2) sc__law_faulty.nd rfl (by first | exact Or.inl rfl | exact Or.inr rfl) (pe_cal G__law_draw (hr.mono (by (first | subst "lev" | fail))) rfl (pa_cons (pv 0) (pa_cons (pe_op op_sub (pe_callB call_lenA rfl T.n_len (by decide +kernel) (pa_cons (pv 1) pa_nil)) pe_int) pa_nil)))) (pss_one (ps_ret (pe_op op_addA (pe_op op_addA (pe_slice sl_any (pv 1) po_none (po_some (pv 2))) (pe_lst (pa_cons (pe_ix ix_seq (pv 1) (pe_op op_addA (pv 2) pe_int) (fun _ _ => rfl)) (pa_cons (pe_ix ix_seq (pv 1) (pv 2) (fun _ _ => rfl)) pa_nil)))) (pe_slice sl_any (pv 1) (po_some (pe_op op_addA (pv 2) pe_int)) po_none))))) pss_nil) (pss_cons (ps_if (PW.pt (pw_and (pt_cmpR op_gt (pe_callB call_lenA rfl T.n_len (by decide +kernel) (pa_cons (pv 1) pa_nil)) pe_int (nomark _)) (pw_and1 (pt_cmpR (op_eqA (hu64 hr)) (pe_cal G__law_draw (hr.mono (by (first | subst "lev" | fail))) rfl (pa_cons (pv 0) (pa_cons pe_int pa_nil))) pe_int (nomark _))))) (pss_cons (ps_set (i := 2) sc__law_faulty.nd rfl (by first | exact Or.inl rfl | exact Or.inr rfl) (pe_cal G__law_draw (hr.mono (by (first | subst "lev" | fail))) rfl (pa_cons (pv 0) (pa_cons (pe_callB call_lenA rfl T.n_len (by decide +kernel) (pa_cons (pv 1) pa_nil)) pa_nil)))) (pss_one (ps_ret (pe_op op_addA (pe_slice sl_any (pv 1) po_none (po_some (pv 2))) (pe_slice sl_any (pv 1) (po_some (pe_op op_addA (pv 2) pe_int)) po_none))))) pss_nil) (pss_one (ps_ret (pv 1))))), ?_⟩
  try dsimp only [cxOf, Cx.nox]
  have hl2 := Paired.length hits
  have hxl : xs.length ≤ 1000 := by omega
  have nss : sa ∉ [st, c] := fun z => ns (by
    simp only [List.mem_cons, List.not_mem_nil, or_false] at z
    rcases z with z | z <;> rw [z] <;> assumption)
  repeat' (first | specialize "st" | fail)
  · refine q_cutTo (xs := xs) (c := dn.toNat) (by omega) (by (first | exists "lift" | fail)) (fun l1 H1 f1 e1 h1 => ?_)
    obtain ⟨v1, hv1, a1⟩ := at_i (xs := xs) (n := dn + 1) (by omega) (by omega)
    obtain ⟨v0, hv0, a0⟩ := at_i (xs := xs) (n := dn) (by omega) (by omega)
    rw [show (dn + 1).toNat = dn.toNat + 1 by omega] at hv1
    obtain ⟨kn, hkn⟩ : ∃ kn, kn = dn.toNat := ⟨_, rfl⟩
    rw [← hkn] at h1 hv1 hv0
    obtain ⟨b1, hb1, r1⟩ := pair_at hits hv1
    obtain ⟨b0, hb0, r0⟩ := pair_at hits hv0
    repeat' (first | specialize "st" | fail)
    refine q_cutFrom (xs := xs) (c := kn + 2) (by omega) (by (first | exists "lift" | fail)) (fun l2 H2 f2 e2 h2 => ?_)
    refine q_catN (by (first | exists "lift" | fail)) h2 (by simp only [List.length_append, List.length_take, List.length_drop, List.length_cons, List.length_nil]; omega) (fun p Hn hp ke hn => ?_)
    have hN : Its M Hn xs its := by (first | subst "its" | fail)
    obtain ⟨c1, hc1, r1⟩ := pair_at hN hv1
    obtain ⟨c0, hc0, r0⟩ := pair_at hN hv0
    have hkl : kn + 1 < its.length := by
      have := (List.getElem?_eq_some_iff.mp hc1).1
      omega
    refine q p _ (its.take kn ++ [c1, c0] ++ its.drop (kn + 2)) _ hn (by (first | exists "nm" | fail)) (pair_app (pair_app (pair_take kn hN) (.cons r1 (.cons r0 .nil))) (pair_drop (kn + 2) hN)) (fun it hit => ?_) ?_ (by (first | subst "kpx" | fail)) (by (first | subst "st_ok" | fail))
    · rcases List.mem_append.mp hit with hit | hit
      · rcases List.mem_append.mp hit with hit | hit
        · exact hP it (List.mem_of_mem_take hit)
        · simp only [List.mem_cons, List.not_mem_nil, or_false] at hit
          rcases hit with rfl | rfl
          · exact hP _ (List.mem_of_getElem? hc1)
          · exact hP _ (List.mem_of_getElem? hc0)
      · exact hP it (List.mem_of_mem_drop hit)
    · simp only [List.length_append, List.length_take, List.length_drop, List.length_cons, List.length_nil]
      omega
  · refine q_cutTo (xs := xs) (c := dn.toNat) (by omega) (by (first | exists "lift" | fail)) (fun l1 H1 f1 e1 h1 => ?_)
    obtain ⟨kn, hkn⟩ : ∃ kn, kn = dn.toNat := ⟨_, rfl⟩
    rw [← hkn] at h1
    repeat' (first | specialize "st" | fail)
    refine q_cutFrom (xs := xs) (c := kn + 1) (by omega) (by (first | exists "lift" | fail)) (fun l2 H2 f2 e2 h2 => ?_)
    refine q_catN (by (first | exists "lift" | fail)) h2 (by simp only [List.length_append, List.length_take, List.length_drop, List.length_cons, List.length_nil]; omega) (fun p Hn hp ke hn => ?_)
    have hN : Its M Hn xs its := by (first | subst "its" | fail)
    have hkl : kn < its.length := by omega
    refine q p _ (its.take kn ++ its.drop (kn + 1)) _ hn (by (first | exists "nm" | fail)) (pair_app (pair_take kn hN) (pair_drop (kn + 1) hN)) (fun it hit => ?_) ?_ (by (first | subst "kpx" | fail)) (by (first | subst "st_ok" | fail))
    · rcases List.mem_append.mp hit with hit | hit
      · exact hP it (List.mem_of_mem_take hit)
      · exact hP it (List.mem_of_mem_drop hit)
    · simp only [List.length_append, List.length_take, List.length_drop]
      omega
  · exact q sa xs its _ (by (first | exists "lift" | fail)) ns (by (first | subst "its" | fail)) hP (Nat.le_refl _) (by (first | subst "kpx" | fail)) (by (first | subst "st_ok" | fail))
  · refine q_cutTo (xs := xs) (c := dn.toNat) (by omega) (by (first | exists "lift" | fail)) (fun l1 H1 f1 e1 h1 => ?_)
    obtain ⟨kn, hkn⟩ : ∃ kn, kn = dn.toNat := ⟨_, rfl⟩
    rw [← hkn] at h1
    repeat' (first | specialize "st" | fail)
    refine q_cutFrom (xs := xs) (c := kn + 1) (by omega) (by (first | exists "lift" | fail)) (fun l2 H2 f2 e2 h2 => ?_)
    refine q_catN (by (first | exists "lift" | fail)) h2 (by simp only [List.length_append, List.length_take, List.length_drop, List.length_cons, List.length_nil]; omega) (fun p Hn hp ke hn => ?_)
    have hN : Its M Hn xs its := by (first | subst "its" | fail)
    have hkl : kn < its.length := by omega
    refine q p _ (its.take kn ++ its.drop (kn + 1)) _ hn (by (first | exists "nm" | fail)) (pair_app (pair_take kn hN) (pair_drop (kn + 1) hN)) (fun it hit => ?_) ?_ (by (first | subst "kpx" | fail)) (by (first | subst "st_ok" | fail))
    · rcases List.mem_append.mp hit with hit | hit
      · exact hP it (List.mem_of_mem_take hit)
      · exact hP it (List.mem_of_mem_drop hit)
    · simp only [List.length_append, List.length_take, List.length_drop]
      omega
  · exact q sa xs its _ (by (first | exists "lift" | fail)) ns (by (first | subst "its" | fail)) hP (Nat.le_refl _) (by (first | subst "kpx" | fail)) (by (first | subst "st_ok" | fail))
  · exact q sa xs its _ (by (first | exists "lift" | fail)) ns (by (first | subst "its" | fail)) hP (Nat.le_refl _) (by (first | subst "kpx" | fail)) (by (first | subst "st_ok" | fail))
/-! ### branches under construction: envs ea with data ed, scripts la with items scr -/
def Ea.tg (a : Ea) (τ : Tau) (k : Nat) : Prop := τ a.e = some (20, k) ∧ τ a.ca = some (21, k) ∧ τ a.ra = some (22, k) ∧ τ a.sa = some (23, k) ∧ τ a.ga = some (24, k) ∧ τ a.ta = some (25, k)
theorem Ea.tg.le {a : Ea} {τ τ' : Tau} {k : Nat} (h : a.tg τ k) (l : TgLe τ τ') : a.tg τ' k := ⟨l _ _ h.1, l _ _ h.2.1, l _ _ h.2.2.1, l _ _ h.2.2.2.1, l _ _ h.2.2.2.2.1, l _ _ h.2.2.2.2.2⟩
theorem Ea.tg.all {a : Ea} {τ : Tau} {k : Nat} (h : a.tg τ k) : ∀ x ∈ a.all, ∃ f, 20 ≤ f ∧ f ≤ 25 ∧ τ x = some (f, k) := by
  obtain ⟨h1, h2, h3, h4, h5, h6⟩ := h
  intro x hx
  have hx' : x ∈ [a.e, a.ca, a.ra, a.sa, a.ga, a.ta] := hx
  simp only [List.mem_cons, List.not_mem_nil, or_false] at hx'
  rcases hx' with rfl | rfl | rfl | rfl | rfl | rfl
  · exact ⟨_, by decide, by decide, h1⟩
  · exact ⟨_, by decide, by decide, h2⟩
  · exact ⟨_, by decide, by decide, h3⟩
  · exact ⟨_, by decide, by decide, h4⟩
  · exact ⟨_, by decide, by decide, h5⟩
  · exact ⟨_, by decide, by decide, h6⟩
def Itm.InT (τ : Tau) (B : Nat) (H : Hp) : Itm → V → Prop
  | .gt gv c z, v => ∃ p, v = .ref p ∧ H p = some (.tup [.str (gtS gv), .int c, .str (zS z)])
  | .loop many ps x, v => ∃ p l xs, v = .ref p ∧ H p = some (.tup [.str "loop", .int many, .ref l, .int x]) ∧ H l = some (.lst xs) ∧ (∃ j, τ l = some (30, j) ∧ j < B) ∧ Pts H xs ps
  | .nest, v => ∃ p, v = .ref p ∧ H p = some (.tup [.str "nest"])
abbrev ItsT (τ : Tau) (B : Nat) (H : Hp) (xs : List V) (its : List Itm) : Prop := Paired (fun v it => Itm.InT τ B H it v) xs its
theorem Itm.InT.up {τ τ' : Tau} {B B' : Nat} {N : List Addr} {H H' : Hp} (k : Kp N H H') (l : TgLe τ τ') (b : B ≤ B') (n : ∀ x ∈ N, ∀ j, τ x = some (30, j) → B ≤ j) : ∀ {it : Itm} {v : V}, it.InT τ B H v → it.InT τ' B' H' v
  | .gt _ _ _, _, ⟨p, e, h⟩ => ⟨p, e, k.tup _ _ h⟩
  | .loop _ _ _, _, ⟨p, l0, xs, e, h, hl, ⟨j, m, mb⟩, a⟩ => ⟨p, l0, xs, e, k.tup _ _ h, k.out _ _ (fun z => by have := n _ z j m; omega) hl, ⟨j, l _ _ m, by omega⟩, Pts.up k a⟩
  | .nest, _, ⟨p, e, h⟩ => ⟨p, e, k.tup _ _ h⟩
theorem Itm.InT.out {τ : Tau} {B : Nat} {M : List Addr} {H : Hp} (n : ∀ x j, τ x = some (30, j) → x ∉ M) : ∀ {it : Itm} {v : V}, it.InT τ B H v → it.In M H v
  | .gt _ _ _, _, h => h
  | .loop _ _ _, _, ⟨p, l0, xs, e, h, hl, ⟨j, m, _⟩, a⟩ => ⟨p, l0, xs, e, h, hl, n _ _ m, a⟩
  | .nest, _, h => h
def gset {α : Type} (a : Nat → α) (i : Nat) (p : α) : Nat → α := fun k => if k = i then p else a k
theorem gset_eq {α : Type} {a : Nat → α} {i : Nat} {p : α} : gset a i p i = p := if_pos rfl
theorem gset_ne {α : Type} {a : Nat → α} {i k : Nat} {p : α} (h : k ≠ i) : gset a i p k = a k := if_neg h
structure GS (st c wa ch SA EA : Addr) (n : Nat) (ea : Nat → Ea) (la : Nat → Addr) (ed : Nat → Ed) (scr : Nat → List Itm) (τ : Tau) (B : Nat) (H0 H : Hp) (d : Wd) : Prop where
  kp : Kp (Mw st c wa ch) H0 H
  so : StOk st c H
  wi : WIn wa ch d H
  tg : TgOk τ H
  fr : ∀ x t, τ x = some t → 20 ≤ t.1 → H0 x = none
  t1 : τ st = some (7, 0)
  t2 : τ c = some (7, 1)
  t3 : τ wa = some (8, 0)
  t4 : τ ch = some (8, 1)
  tS : τ SA = some (28, 0)
  tE : τ EA = some (28, 1)
  hS : H SA = some (.lst (frow la n))
  hE : H EA = some (.lst (frow (fun k => (ea k).e) n))
  te : ∀ k, k < n → (ea k).tg τ k
  ee : ∀ k, k < n → EIn (ea k) (ed k) H
  tl : ∀ k, k < n → τ (la k) = some (26, k)
  ll : ∀ k, k < n → ∃ xs, H (la k) = some (.lst xs) ∧ ItsT τ B H xs (scr k)
section
variable {st c wa ch SA EA : Addr} {n : Nat} {ea : Nat → Ea} {la : Nat → Addr} {ed : Nat → Ed} {scr : Nat → List Itm} {τ τ' : Tau} {B : Nat} {H0 H H' : Hp} {d d' : Wd}
theorem GS.mwt (g : GS st c wa ch SA EA n ea la ed scr τ B H0 H d) : ∀ x ∈ Mw st c wa ch, ∃ t, τ x = some t ∧ t.1 < 20 := fun x hx => by
  simp only [List.mem_cons, List.not_mem_nil, or_false] at hx
  rcases hx with rfl | rfl | rfl | rfl
  · exact ⟨_, g.t1, by decide⟩
  · exact ⟨_, g.t2, by decide⟩
  · exact ⟨_, g.t3, by decide⟩
  · exact ⟨_, g.t4, by decide⟩
/-- what may change without the branches -/
def Loose (τ : Tau) (B : Nat) (st c wa ch : Addr) (N : List Addr) : Prop := ∀ x ∈ N, x ∈ Mw st c wa ch ∨ ∃ t, τ x = some t ∧ (t.1 = 31 ∨ t.1 = 30 ∧ B ≤ t.2)
theorem GS.loose (g : GS st c wa ch SA EA n ea la ed scr τ B H0 H d) {N : List Addr} (l : Loose τ B st c wa ch N) {x : Addr} {t : Nat × Nat} (hx : τ x = some t) (h1 : 20 ≤ t.1) (h2 : t.1 ≠ 31) (h3 : t.1 = 30 → t.2 < B) : x ∉ N := fun z => by
  rcases l x z with q | ⟨u, hu, q⟩
  · obtain ⟨v, hv, q⟩ := g.mwt x q
    rw [hx] at hv
    cases hv
    omega
  · rw [hx] at hu
    cases hu
    rcases q with q | ⟨q, r⟩
    · exact h2 q
    · have := h3 q
      omega
theorem GS.frame (g : GS st c wa ch SA EA n ea la ed scr τ B H0 H d) {N : List Addr} (k : Kp N H H') (a : Al H H') (so' : StOk st c H') (wi' : WIn wa ch d' H') (l : Loose τ B st c wa ch N) : GS st c wa ch SA EA n ea la ed scr τ B H0 H' d' :=
  ⟨kp_fresh g.kp k (fun x hx => by
    rcases l x hx with q | ⟨t, ht, q⟩
    · exact .inl q
    · exact .inr (g.fr x t ht (by omega))), so', wi', g.tg.al a, g.fr, g.t1, g.t2, g.t3, g.t4, g.tS, g.tE, k.out _ _ (g.loose l g.tS (by simp) (by simp) (by simp)) g.hS, k.out _ _ (g.loose l g.tE (by simp) (by simp) (by simp)) g.hE, g.te,
    fun j hj => (g.ee j hj).kp k fun x hx => by
      obtain ⟨f, f0, f1, hf⟩ := (g.te j hj).all x hx
      exact g.loose l hf f0 (by dsimp only; omega) (by dsimp only; omega), g.tl, fun j hj => by
      obtain ⟨xs, hl, hi⟩ := g.ll j hj
      refine ⟨xs, k.out _ _ (g.loose l (g.tl j hj) (by simp) (by simp) (by simp)) hl, Paired.mapP hi fun v it q => q.up k (TgLe.refl _) (Nat.le_refl _) fun x hx j' hj' => ?_⟩
      rcases l x hx with q | ⟨t, ht, q⟩
      · obtain ⟨v, hv, q⟩ := g.mwt x q
        rw [hj'] at hv
        cases hv
        exact absurd q (by simp)
      · rw [hj'] at ht
        cases ht
        rcases q with q | ⟨q, r⟩
        · exact absurd q (by simp)
        · exact r⟩
theorem GS.retag (g : GS st c wa ch SA EA n ea la ed scr τ B H0 H d) (l : TgLe τ τ') (tg : TgOk τ' H) (fr : ∀ x t, τ' x = some t → 20 ≤ t.1 → H0 x = none) : GS st c wa ch SA EA n ea la ed scr τ' B H0 H d :=
  ⟨g.kp, g.so, g.wi, tg, fr, l _ _ g.t1, l _ _ g.t2, l _ _ g.t3, l _ _ g.t4, l _ _ g.tS, l _ _ g.tE, g.hS, g.hE, fun k hk => (g.te k hk).le l, g.ee, fun k hk => l _ _ (g.tl k hk), fun k hk => by
    obtain ⟨xs, hl, hi⟩ := g.ll k hk
    exact ⟨xs, hl, Paired.mapP hi fun v it q => q.up (N := []) (Kp.refl _) l (Nat.le_refl _) (fun x hx => by cases hx)⟩⟩
theorem GS.more (g : GS st c wa ch SA EA n ea la ed scr τ B H0 H d) {B' : Nat} (b : B ≤ B') : GS st c wa ch SA EA n ea la ed scr τ B' H0 H d :=
  ⟨g.kp, g.so, g.wi, g.tg, g.fr, g.t1, g.t2, g.t3, g.t4, g.tS, g.tE, g.hS, g.hE, g.te, g.ee, g.tl, fun k hk => by
    obtain ⟨xs, hl, hi⟩ := g.ll k hk
    exact ⟨xs, hl, Paired.mapP hi fun v it q => q.up (N := []) (Kp.refl _) (TgLe.refl _) b (fun x hx => by cases hx)⟩⟩
/-- a new object gets a tag -/
theorem GS.new (g : GS st c wa ch SA EA n ea la ed scr τ B H0 H d) (e : Ex H H') {p : Addr} (hp : H p = none) (hn : H' p ≠ none) (t : Nat × Nat) : ∃ τ', TgLe τ τ' ∧ τ' p = some t ∧ GS st c wa ch SA EA n ea la ed scr τ' B H0 H' d := by
  have g' : GS st c wa ch SA EA n ea la ed scr τ B H0 H' d := g.frame (e.kp (M := [])) (al_ex e) (st_ex e g.so) (g.wi.exx e) (fun x hx => by cases hx)
  have h0 : H0 p = none := free_backK g.kp (fun z => by
    obtain ⟨t, ht, _⟩ := g.mwt p z
    exact g.tg p t ht hp) hp
  refine ⟨fun x => if x = p then some t else τ x, fun x u h => ?_, if_pos rfl, g'.retag (fun x u h => ?_) (fun x u h => ?_) (fun x u h h2 => ?_)⟩
  · show (if x = p then some t else τ x) = some u
    rw [if_neg (fun z => g.tg x u h (by rw [z]; exact hp))]
    exact h
  · show (if x = p then some t else τ x) = some u
    rw [if_neg (fun z => g.tg x u h (by rw [z]; exact hp))]
    exact h
  · have h' : (if x = p then some t else τ x) = some u := h
    by_cases z : x = p
    · rw [z]; exact hn
    · rw [if_neg z] at h'
      exact g'.tg x u h'
  · have h' : (if x = p then some t else τ x) = some u := h
    by_cases z : x = p
    · rw [z]; exact h0
    · rw [if_neg z] at h'
      exact g.fr x u h' h2
theorem GS.ex (g : GS st c wa ch SA EA n ea la ed scr τ B H0 H d) (e : Ex H H') : GS st c wa ch SA EA n ea la ed scr τ B H0 H' d := g.frame (e.kp (M := [])) (al_ex e) (st_ex e g.so) (g.wi.exx e) (fun x hx => by cases hx)
theorem GS.nw (g : GS st c wa ch SA EA n ea la ed scr τ B H0 H d) : wa ∉ [st, c] ∧ ch ∉ [st, c] := by
  constructor <;>
  · intro z
    simp only [List.mem_cons, List.not_mem_nil, or_false] at z
    have t1 := g.t1
    have t2 := g.t2
    have t3 := g.t3
    have t4 := g.t4
    rcases z with rfl | rfl <;> simp_all
theorem GS.draw (g : GS st c wa ch SA EA n ea la ed scr τ B H0 H d) (k : Kp [st, c] H H') (so : StOk st c H') : GS st c wa ch SA EA n ea la ed scr τ B H0 H' d := g.frame k (al_st k so) so (g.wi.kp k g.nw.1 g.nw.2) (fun x hx => .inl (by
    simp only [List.mem_cons, List.not_mem_nil, or_false] at hx ⊢
    rcases hx with h | h <;> simp [h]))
theorem GS.nin (g : GS st c wa ch SA EA n ea la ed scr τ B H0 H d) {x : Addr} {t : Nat × Nat} (hx : τ x = some t) (h : 20 ≤ t.1) : st ∉ [x] ∧ c ∉ [x] ∧ wa ∉ [x] ∧ ch ∉ [x] := by
  have t1 := g.t1
  have t2 := g.t2
  have t3 := g.t3
  have t4 := g.t4
  refine ⟨?_, ?_, ?_, ?_⟩ <;>
  · intro z
    have z' := List.mem_singleton.mp z
    subst z'
    first
    | (rw [t1] at hx; cases hx; simp at h)
    | (rw [t2] at hx; cases hx; simp at h)
    | (rw [t3] at hx; cases hx; simp at h)
    | (rw [t4] at hx; cases hx; simp at h)
/-- a loose object changes -/
theorem GS.one (g : GS st c wa ch SA EA n ea la ed scr τ B H0 H d) {x : Addr} {t : Nat × Nat} (k : Kp [x] H H') (hn : H' x ≠ none) (hx : τ x = some t) (h : t.1 = 31 ∨ t.1 = 30 ∧ B ≤ t.2) : GS st c wa ch SA EA n ea la ed scr τ B H0 H' d := by
  obtain ⟨n1, n2, n3, n4⟩ := g.nin hx (by omega)
  refine g.frame k (al_one k hn) (st_out k g.so n1 n2) (g.wi.kp k n3 n4) (fun y hy => ?_)
  rw [List.mem_singleton.mp hy]
  exact .inr ⟨t, hx, h⟩
/-- the world changes -/
theorem GS.world (g : GS st c wa ch SA EA n ea la ed scr τ B H0 H d) (k : Kp [wa] H H') (wi' : WIn wa ch d' H') : GS st c wa ch SA EA n ea la ed scr τ B H0 H' d' := by
  refine g.frame k (al_one k wi'.al.1) (st_kpx k (alln_c g.nw.1 alln_n) g.so) wi' (fun y hy => ?_)
  rw [List.mem_singleton.mp hy]
  exact .inl (by simp)
theorem GS.chan (g : GS st c wa ch SA EA n ea la ed scr τ B H0 H d) (k : Kp [ch] H H') (wi' : WIn wa ch d' H') : GS st c wa ch SA EA n ea la ed scr τ B H0 H' d' := by
  refine g.frame k (al_one k wi'.al.2) (st_kpx k (alln_c g.nw.2 alln_n) g.so) wi' (fun y hy => ?_)
  rw [List.mem_singleton.mp hy]
  exact .inl (by simp)
/-- one list of the env j changes -/
theorem GS.env (g : GS st c wa ch SA EA n ea la ed scr τ B H0 H d) {x : Addr} {f j : Nat} {e' : Ed} (hj : j < n) (k : Kp [x] H H') (hn : H' x ≠ none) (hx : τ x = some (f, j)) (h0 : 20 ≤ f) (h1 : f ≤ 25) (he : EIn (ea j) e' H') : GS st c wa ch SA EA n ea la (gset ed j e') scr τ B H0 H' d := by
  obtain ⟨n1, n2, n3, n4⟩ := g.nin hx h0
  have ne : ∀ y t, τ y = some t → t ≠ (f, j) → y ∉ [x] := fun y t hy q z => by
    rw [List.mem_singleton.mp z, hx] at hy
    exact q (Option.some.inj hy).symm
  refine ⟨kp_fresh g.kp k (fun y hy => ?_), st_out k g.so n1 n2, g.wi.kp k n3 n4, g.tg.al (al_one k hn), g.fr, g.t1, g.t2, g.t3, g.t4, g.tS, g.tE, k.out _ _ (ne _ _ g.tS (by intro z; cases z; omega)) g.hS, k.out _ _ (ne _ _ g.tE (by intro z; cases z; omega)) g.hE, g.te, fun i hi => ?_, g.tl, fun i hi => ?_⟩
  · rw [List.mem_singleton.mp hy]
    exact .inr (g.fr x _ hx h0)
  · by_cases q : i = j
    · subst q
      rw [gset_eq]
      exact he
    · rw [gset_ne q]
      refine (g.ee i hi).kp k fun y hy => ?_
      obtain ⟨f', f0, f1, hf⟩ := (g.te i hi).all y hy
      exact ne y _ hf (fun z => q (Prod.mk.inj z).2)
  · obtain ⟨xs, hl, hi2⟩ := g.ll i hi
    refine ⟨xs, k.out _ _ (ne _ _ (g.tl i hi) (by intro z; cases z; omega)) hl, Paired.mapP hi2 fun v it q => q.up k (TgLe.refl _) (Nat.le_refl _) fun y hy j' hj' => ?_⟩
    rw [List.mem_singleton.mp hy, hx] at hj'
    cases hj'
    omega
/-- one script grows -/
theorem GS.script (g : GS st c wa ch SA EA n ea la ed scr τ B H0 H d) {j B' : Nat} {ys : List V} {its : List Itm} (hj : j < n) (b : B ≤ B') (k : Kp [la j] H H') (hl : H' (la j) = some (.lst ys)) (hi : ItsT τ B' H' ys its) : GS st c wa ch SA EA n ea la ed (gset scr j its) τ B' H0 H' d := by
  have hx := g.tl j hj
  obtain ⟨n1, n2, n3, n4⟩ := g.nin hx (by simp)
  have ne : ∀ y t, τ y = some t → t ≠ (26, j) → y ∉ [la j] := fun y t hy q z => by
    rw [List.mem_singleton.mp z, hx] at hy
    exact q (Option.some.inj hy).symm
  refine ⟨kp_fresh g.kp k (fun y hy => ?_), st_out k g.so n1 n2, g.wi.kp k n3 n4, g.tg.al (al_one k (fsome hl)), g.fr, g.t1, g.t2, g.t3, g.t4, g.tS, g.tE, k.out _ _ (ne _ _ g.tS (by intro z; cases z)) g.hS, k.out _ _ (ne _ _ g.tE (by intro z; cases z)) g.hE, g.te, fun i hi => ?_, g.tl, fun i hi2 => ?_⟩
  · rw [List.mem_singleton.mp hy]
    exact .inr (g.fr _ _ hx (by simp))
  · refine (g.ee i hi).kp k fun y hy => ?_
    obtain ⟨f', f0, f1, hf⟩ := (g.te i hi).all y hy
    exact ne y _ hf (fun z => by have := (Prod.mk.inj z).1; omega)
  · by_cases q : i = j
    · subst q
      rw [gset_eq]
      exact ⟨ys, hl, hi⟩
    · rw [gset_ne q]
      obtain ⟨xs, hl3, hi3⟩ := g.ll i hi2
      refine ⟨xs, k.out _ _ (ne _ _ (g.tl i hi2) (fun z => q (Prod.mk.inj z).2)) hl3, Paired.mapP hi3 fun v it q => q.up k (TgLe.refl _) b fun y hy j' hj' => ?_⟩
      rw [List.mem_singleton.mp hy, hx] at hj'
      cases hj'
end
section
variable {a : Ea} {τ : Tau} {k : Nat} {e : Ed} {H H' : Hp}
theorem ea_ne {x : Addr} {y : Addr} {f f' : Nat} (hx : τ x = some (f, k)) (hy : τ y = some (f', k)) (n : f ≠ f') : x ∉ [y] := fun z => by
  rw [List.mem_singleton.mp z, hy] at hx
  exact n ((Prod.mk.inj (Option.some.inj hx)).1).symm
theorem EIn.gives (h : EIn a e H) (t : a.tg τ k) (kp : Kp [a.ga] H H') {cs : List Int} (hn : H' a.ga = some (.lst (cs.map V.int))) : EIn a { e with gives := cs } H' := by
  obtain ⟨⟨kvs, h1, h2⟩, h3, h4, h5, h6, vs, h7, h8⟩ := h
  obtain ⟨t1, t2, t3, t4, t5, t6⟩ := t
  exact ⟨⟨kvs, kp.out _ _ (ea_ne t1 t5 (by decide)) h1, h2⟩, kp.out _ _ (ea_ne t2 t5 (by decide)) h3, kp.out _ _ (ea_ne t3 t5 (by decide)) h4, hn, kp.out _ _ (ea_ne t6 t5 (by decide)) h6, vs, kp.out _ _ (ea_ne t4 t5 (by decide)) h7, Paired.mapP h8 fun _ _ ⟨q, e, z⟩ => ⟨q, e, kp.tup _ _ z⟩⟩
theorem EIn.takes (h : EIn a e H) (t : a.tg τ k) (kp : Kp [a.ta] H H') {cs : List Int} (hn : H' a.ta = some (.lst (cs.map V.int))) : EIn a { e with takes := cs } H' := by
  obtain ⟨⟨kvs, h1, h2⟩, h3, h4, h5, h6, vs, h7, h8⟩ := h
  obtain ⟨t1, t2, t3, t4, t5, t6⟩ := t
  exact ⟨⟨kvs, kp.out _ _ (ea_ne t1 t6 (by decide)) h1, h2⟩, kp.out _ _ (ea_ne t2 t6 (by decide)) h3, kp.out _ _ (ea_ne t3 t6 (by decide)) h4, kp.out _ _ (ea_ne t5 t6 (by decide)) h5, hn, vs, kp.out _ _ (ea_ne t4 t6 (by decide)) h7, Paired.mapP h8 fun _ _ ⟨q, e, z⟩ => ⟨q, e, kp.tup _ _ z⟩⟩
theorem EIn.cells (h : EIn a e H) (t : a.tg τ k) (kp : Kp [a.ca] H H') {cs : List Int} (hn : H' a.ca = some (.lst (cs.map V.int))) : EIn a { e with cells := cs } H' := by
  obtain ⟨⟨kvs, h1, h2⟩, h3, h4, h5, h6, vs, h7, h8⟩ := h
  obtain ⟨t1, t2, t3, t4, t5, t6⟩ := t
  exact ⟨⟨kvs, kp.out _ _ (ea_ne t1 t2 (by decide)) h1, h2⟩, hn, kp.out _ _ (ea_ne t3 t2 (by decide)) h4, kp.out _ _ (ea_ne t5 t2 (by decide)) h5, kp.out _ _ (ea_ne t6 t2 (by decide)) h6, vs, kp.out _ _ (ea_ne t4 t2 (by decide)) h7, Paired.mapP h8 fun _ _ ⟨q, e, z⟩ => ⟨q, e, kp.tup _ _ z⟩⟩
theorem EIn.reads (h : EIn a e H) (t : a.tg τ k) (kp : Kp [a.ra] H H') {cs : List Int} (hn : H' a.ra = some (.lst (cs.map V.int))) : EIn a { e with reads := cs } H' := by
  obtain ⟨⟨kvs, h1, h2⟩, h3, h4, h5, h6, vs, h7, h8⟩ := h
  obtain ⟨t1, t2, t3, t4, t5, t6⟩ := t
  exact ⟨⟨kvs, kp.out _ _ (ea_ne t1 t3 (by decide)) h1, h2⟩, kp.out _ _ (ea_ne t2 t3 (by decide)) h3, hn, kp.out _ _ (ea_ne t5 t3 (by decide)) h5, kp.out _ _ (ea_ne t6 t3 (by decide)) h6, vs, kp.out _ _ (ea_ne t4 t3 (by decide)) h7, Paired.mapP h8 fun _ _ ⟨q, e, z⟩ => ⟨q, e, kp.tup _ _ z⟩⟩
end
/-! the data of branches, apart from each other -/
def ctr1 : Itm → List Int
  | .loop _ _ x => [x]
  | _ => []
def ctr (its : List Itm) : List Int := its.flatMap ctr1
def bfr (ed : Nat → Ed) (scr : Nat → List Itm) (k : Nat) : Fr := (ed k).fr (ctr (scr k))
structure Sep (n : Nat) (ed : Nat → Ed) (scr : Nat → List Itm) (P C D : Int → Prop) : Prop where
  ap : ∀ i j, i < n → j < n → i ≠ j → (bfr ed scr i).apart (bfr ed scr j)
  rb : ∀ i, i < n → ∀ x, (bfr ed scr i).R x → P x
  gb : ∀ i, i < n → ∀ x ∈ (ed i).gives, C x
  tb : ∀ i, i < n → ∀ x ∈ (ed i).takes, D x
  cr : ∀ i, i < n → ∀ k ∈ (ed i).cells, k ∈ (ed i).reads
  sp : ∀ i, i < n → ∀ p ∈ (ed i).spans, 0 < p.2 ∧ p.2 < 5
  cn : ∀ i, i < n → (ed i).cells.Nodup
  gn : ∀ i, i < n → (ed i).gives.Nodup
  tn : ∀ i, i < n → (ed i).takes.Nodup
  fits : ∀ i, i < n → ∀ it ∈ scr i, it.fits (ed i) (ctr (scr i)) ∧ it.alw 2
theorem Itm.fits.mono {e e' : Ed} {cs cs' : List Int} (g : ∀ c ∈ e.gives, c ∈ e'.gives) (t : ∀ c ∈ e.takes, c ∈ e'.takes) (s : ∀ c ∈ cs, c ∈ cs') : ∀ {it : Itm}, it.fits e cs → it.fits e' cs'
  | .gt _ _ _, h => ⟨fun z => g _ (h.1 z), fun z => t _ (h.2 z)⟩
  | .loop _ _ _, h => ⟨h.1, h.2.1, s _ h.2.2.1, h.2.2.2.1, fun p hp => ⟨fun z => g _ ((h.2.2.2.2 p hp).1 z), fun z => t _ ((h.2.2.2.2 p hp).2 z)⟩⟩
  | .nest, _ => trivial
theorem Fr.apart.symm {a b : Fr} (wr : ∀ k, a.W k → a.R k) (h : a.apart b) : b.apart a := ⟨fun k x => ⟨fun y => (h.w k y).1 x, fun y => h.r k x y⟩, fun k x y => (h.w k x).2 y, fun k x y => h.g k y x, fun k x y => h.t k y x⟩
theorem Sep.mono {n : Nat} {ed : Nat → Ed} {scr : Nat → List Itm} {P C D P' C' D' : Int → Prop} (s : Sep n ed scr P C D) (p : ∀ x, P x → P' x) (q : ∀ x, C x → C' x) (r : ∀ x, D x → D' x) : Sep n ed scr P' C' D' := ⟨s.ap, fun i hi x h => p x (s.rb i hi x h), fun i hi x h => q x (s.gb i hi x h), fun i hi x h => r x (s.tb i hi x h), s.cr, s.sp, s.cn, s.gn, s.tn, s.fits⟩
section
variable {n j : Nat} {ed : Nat → Ed} {scr : Nat → List Itm} {P C D : Int → Prop} {c x : Int}
theorem nodup_snoc {xs : List Int} (h : xs.Nodup) (n : c ∉ xs) : (xs ++ [c]).Nodup := by
  rw [List.nodup_append]
  exact ⟨h, by simp, fun a ha b hb e => n (by rw [List.mem_singleton.mp hb] at e; exact e ▸ ha)⟩
theorem mem_snoc {xs : List Int} {y : Int} (h : y ∈ xs ++ [c]) : y ∈ xs ∨ y = c := by
  rcases List.mem_append.mp h with h | h
  · exact .inl h
  · exact .inr (List.mem_singleton.mp h)
theorem Sep.wr (s : Sep n ed scr P C D) {i : Nat} (hi : i < n) : ∀ k, (bfr ed scr i).W k → (bfr ed scr i).R k := fun k h => h.elim (fun h => .inl (s.cr i hi k h)) .inr
theorem Sep.give1 (s : Sep n ed scr P C D) (hj : j < n) (hc : C c) (nc : ∀ i, i < n → c ∉ (ed i).gives) : Sep n (gset ed j { ed j with gives := (ed j).gives ++ [c] }) scr P C D := by
  have key : ∀ {Pr : Nat → Ed → Prop}, (∀ i, i < n → Pr i (ed i)) → Pr j { ed j with gives := (ed j).gives ++ [c] } → ∀ i, i < n → Pr i (gset ed j { ed j with gives := (ed j).gives ++ [c] } i) := fun {Pr} h h' i hi => by
    by_cases q : i = j
    · subst q; rw [gset_eq]; exact h'
    · rw [gset_ne q]; exact h i hi
  have hW : ∀ i y, (bfr (gset ed j { ed j with gives := (ed j).gives ++ [c] }) scr i).W y → (bfr ed scr i).W y := fun i y h => by
    by_cases q : i = j
    · subst q; unfold bfr at h; rw [gset_eq] at h; exact h
    · unfold bfr at h; rw [gset_ne q] at h; exact h
  have hR : ∀ i y, (bfr (gset ed j { ed j with gives := (ed j).gives ++ [c] }) scr i).R y → (bfr ed scr i).R y := fun i y h => by
    by_cases q : i = j
    · subst q; unfold bfr at h; rw [gset_eq] at h; exact h
    · unfold bfr at h; rw [gset_ne q] at h; exact h
  have hT : ∀ i y, (bfr (gset ed j { ed j with gives := (ed j).gives ++ [c] }) scr i).T y → (bfr ed scr i).T y := fun i y h => by
    by_cases q : i = j
    · subst q; unfold bfr at h; rw [gset_eq] at h; exact h
    · unfold bfr at h; rw [gset_ne q] at h; exact h
  have hG : ∀ i y, i < n → (bfr (gset ed j { ed j with gives := (ed j).gives ++ [c] }) scr i).G y → (bfr ed scr i).G y ∨ i = j ∧ y = c := fun i y hi h => by
    by_cases q : i = j
    · subst q
      unfold bfr at h
      rw [gset_eq] at h
      exact (mem_snoc h).imp id fun e => ⟨rfl, e⟩
    · unfold bfr at h; rw [gset_ne q] at h; exact .inl h
  refine ⟨fun i k hi hk ne => ⟨fun y h => ⟨fun z => ((s.ap i k hi hk ne).w y (hW _ _ h)).1 (hW _ _ z), fun z => ((s.ap i k hi hk ne).w y (hW _ _ h)).2 (hR _ _ z)⟩, fun y h z => (s.ap i k hi hk ne).r y (hW _ _ h) (hR _ _ z), fun y h z => ?_, fun y h z => (s.ap i k hi hk ne).t y (hT _ _ h) (hT _ _ z)⟩, fun i hi y h => s.rb i hi y (hR _ _ h), ?_, ?_, ?_, ?_, ?_, ?_, ?_, ?_⟩
  · rcases hG _ _ hi h with h | ⟨e1, e2⟩ <;> rcases hG _ _ hk z with z | ⟨e3, e4⟩
    · exact (s.ap i k hi hk ne).g y h z
    · exact nc i hi (by rw [e4] at h; exact h)
    · exact nc k hk (by rw [e2] at z; exact z)
    · exact ne (e1.trans e3.symm)
  · exact key (Pr := fun _ e => ∀ x ∈ e.gives, C x) s.gb fun y hy => (mem_snoc hy).elim (s.gb j hj y) (fun e => e ▸ hc)
  · exact key (Pr := fun _ e => ∀ x ∈ e.takes, D x) s.tb (s.tb j hj)
  · exact key (Pr := fun _ e => ∀ k ∈ e.cells, k ∈ e.reads) s.cr (s.cr j hj)
  · exact key (Pr := fun _ e => ∀ p ∈ e.spans, 0 < p.2 ∧ p.2 < 5) s.sp (s.sp j hj)
  · exact key (Pr := fun _ e => e.cells.Nodup) s.cn (s.cn j hj)
  · exact key (Pr := fun _ e => e.gives.Nodup) s.gn (nodup_snoc (s.gn j hj) (nc j hj))
  · exact key (Pr := fun _ e => e.takes.Nodup) s.tn (s.tn j hj)
  · exact key (Pr := fun i e => ∀ it ∈ scr i, it.fits e (ctr (scr i)) ∧ it.alw 2) s.fits fun it hit => ⟨Itm.fits.mono (e := ed j) (e' := { ed j with gives := (ed j).gives ++ [c] }) (cs' := ctr (scr j)) (fun c h => List.mem_append_left _ h) (fun _ h => h) (fun _ h => h) (s.fits j hj it hit).1, (s.fits j hj it hit).2⟩
theorem Sep.take1 (s : Sep n ed scr P C D) (hj : j < n) (hc : D c) (nc : ∀ i, i < n → c ∉ (ed i).takes) : Sep n (gset ed j { ed j with takes := (ed j).takes ++ [c] }) scr P C D := by
  have key : ∀ {Pr : Nat → Ed → Prop}, (∀ i, i < n → Pr i (ed i)) → Pr j { ed j with takes := (ed j).takes ++ [c] } → ∀ i, i < n → Pr i (gset ed j { ed j with takes := (ed j).takes ++ [c] } i) := fun {Pr} h h' i hi => by
    by_cases q : i = j
    · subst q; rw [gset_eq]; exact h'
    · rw [gset_ne q]; exact h i hi
  have hW : ∀ i y, (bfr (gset ed j { ed j with takes := (ed j).takes ++ [c] }) scr i).W y → (bfr ed scr i).W y := fun i y h => by
    by_cases q : i = j
    · subst q; unfold bfr at h; rw [gset_eq] at h; exact h
    · unfold bfr at h; rw [gset_ne q] at h; exact h
  have hR : ∀ i y, (bfr (gset ed j { ed j with takes := (ed j).takes ++ [c] }) scr i).R y → (bfr ed scr i).R y := fun i y h => by
    by_cases q : i = j
    · subst q; unfold bfr at h; rw [gset_eq] at h; exact h
    · unfold bfr at h; rw [gset_ne q] at h; exact h
  have hG : ∀ i y, (bfr (gset ed j { ed j with takes := (ed j).takes ++ [c] }) scr i).G y → (bfr ed scr i).G y := fun i y h => by
    by_cases q : i = j
    · subst q; unfold bfr at h; rw [gset_eq] at h; exact h
    · unfold bfr at h; rw [gset_ne q] at h; exact h
  have hT : ∀ i y, i < n → (bfr (gset ed j { ed j with takes := (ed j).takes ++ [c] }) scr i).T y → (bfr ed scr i).T y ∨ i = j ∧ y = c := fun i y hi h => by
    by_cases q : i = j
    · subst q
      unfold bfr at h
      rw [gset_eq] at h
      exact (mem_snoc h).imp id fun e => ⟨rfl, e⟩
    · unfold bfr at h; rw [gset_ne q] at h; exact .inl h
  refine ⟨fun i k hi hk ne => ⟨fun y h => ⟨fun z => ((s.ap i k hi hk ne).w y (hW _ _ h)).1 (hW _ _ z), fun z => ((s.ap i k hi hk ne).w y (hW _ _ h)).2 (hR _ _ z)⟩, fun y h z => (s.ap i k hi hk ne).r y (hW _ _ h) (hR _ _ z), fun y h z => (s.ap i k hi hk ne).g y (hG _ _ h) (hG _ _ z), fun y h z => ?_⟩, fun i hi y h => s.rb i hi y (hR _ _ h), ?_, ?_, ?_, ?_, ?_, ?_, ?_, ?_⟩
  · rcases hT _ _ hi h with h | ⟨e1, e2⟩ <;> rcases hT _ _ hk z with z | ⟨e3, e4⟩
    · exact (s.ap i k hi hk ne).t y h z
    · exact nc i hi (by rw [e4] at h; exact h)
    · exact nc k hk (by rw [e2] at z; exact z)
    · exact ne (e1.trans e3.symm)
  · exact key (Pr := fun _ e => ∀ x ∈ e.gives, C x) s.gb (s.gb j hj)
  · exact key (Pr := fun _ e => ∀ x ∈ e.takes, D x) s.tb fun y hy => (mem_snoc hy).elim (s.tb j hj y) (fun e => e ▸ hc)
  · exact key (Pr := fun _ e => ∀ k ∈ e.cells, k ∈ e.reads) s.cr (s.cr j hj)
  · exact key (Pr := fun _ e => ∀ p ∈ e.spans, 0 < p.2 ∧ p.2 < 5) s.sp (s.sp j hj)
  · exact key (Pr := fun _ e => e.cells.Nodup) s.cn (s.cn j hj)
  · exact key (Pr := fun _ e => e.gives.Nodup) s.gn (s.gn j hj)
  · exact key (Pr := fun _ e => e.takes.Nodup) s.tn (nodup_snoc (s.tn j hj) (nc j hj))
  · exact key (Pr := fun i e => ∀ it ∈ scr i, it.fits e (ctr (scr i)) ∧ it.alw 2) s.fits fun it hit => ⟨Itm.fits.mono (e := ed j) (e' := { ed j with takes := (ed j).takes ++ [c] }) (cs' := ctr (scr j)) (fun _ h => h) (fun c h => List.mem_append_left _ h) (fun _ h => h) (s.fits j hj it hit).1, (s.fits j hj it hit).2⟩
/-- a script grows by items over its env, with counters cs that no one touches -/
theorem Sep.scr1 (s : Sep n ed scr P C D) (hj : j < n) {more : List Itm} (hf : ∀ it ∈ more, it.fits (ed j) (ctr (scr j ++ more)) ∧ it.alw 2) (hp : ∀ y ∈ ctr more, P y) (hn : ∀ i, i < n → i ≠ j → ∀ y ∈ ctr more, ¬ (bfr ed scr i).R y) : Sep n ed (gset scr j (scr j ++ more)) P C D := by
  have ec : ctr (scr j ++ more) = ctr (scr j) ++ ctr more := List.flatMap_append
  have hW : ∀ i y, (bfr ed (gset scr j (scr j ++ more)) i).W y → (bfr ed scr i).W y ∨ i = j ∧ y ∈ ctr more := fun i y h => by
    by_cases q : i = j
    · subst q
      unfold bfr at h
      rw [gset_eq, ec] at h
      rcases h with h | h | h
      · exact .inl (.inl h)
      · exact .inl (.inr (.inl h))
      · rcases List.mem_append.mp h with h | h
        · exact .inl (.inr (.inr h))
        · exact .inr ⟨rfl, h⟩
    · unfold bfr at h; rw [gset_ne q] at h; exact .inl h
  have hR : ∀ i y, (bfr ed (gset scr j (scr j ++ more)) i).R y → (bfr ed scr i).R y ∨ i = j ∧ y ∈ ctr more := fun i y h => by
    by_cases q : i = j
    · subst q
      unfold bfr at h
      rw [gset_eq, ec] at h
      rcases h with h | h | h
      · exact .inl (.inl h)
      · exact .inl (.inr (.inl h))
      · rcases List.mem_append.mp h with h | h
        · exact .inl (.inr (.inr h))
        · exact .inr ⟨rfl, h⟩
    · unfold bfr at h; rw [gset_ne q] at h; exact .inl h
  have hG : ∀ i y, (bfr ed (gset scr j (scr j ++ more)) i).G y → (bfr ed scr i).G y := fun i y h => h
  have hT : ∀ i y, (bfr ed (gset scr j (scr j ++ more)) i).T y → (bfr ed scr i).T y := fun i y h => h
  refine ⟨fun i k hi hk ne => ⟨fun y h => ⟨fun z => ?_, fun z => ?_⟩, fun y h z => ?_, fun y h z => (s.ap i k hi hk ne).g y (hG _ _ h) (hG _ _ z), fun y h z => (s.ap i k hi hk ne).t y (hT _ _ h) (hT _ _ z)⟩, fun i hi y h => (hR _ _ h).elim (s.rb i hi y) (fun ⟨_, q⟩ => hp y q), s.gb, s.tb, s.cr, s.sp, s.cn, s.gn, s.tn, fun i hi => ?_⟩
  · rcases hW _ _ h with h | ⟨e1, e2⟩ <;> rcases hW _ _ z with z | ⟨e3, e4⟩
    · exact ((s.ap i k hi hk ne).w y h).1 z
    · exact hn i hi (fun q => ne (q.trans e3.symm)) y e4 (s.wr hi y h)
    · exact hn k hk (fun q => ne (e1.trans q.symm)) y e2 (s.wr hk y z)
    · exact ne (e1.trans e3.symm)
  · rcases hW _ _ h with h | ⟨e1, e2⟩ <;> rcases hR _ _ z with z | ⟨e3, e4⟩
    · exact ((s.ap i k hi hk ne).w y h).2 z
    · exact hn i hi (fun q => ne (q.trans e3.symm)) y e4 (s.wr hi y h)
    · exact hn k hk (fun q => ne (e1.trans q.symm)) y e2 z
    · exact ne (e1.trans e3.symm)
  · rcases hW _ _ h with h | ⟨e1, e2⟩ <;> rcases hR _ _ z with z | ⟨e3, e4⟩
    · exact (s.ap i k hi hk ne).r y h z
    · exact hn k hk (fun q => ne (e3.trans q.symm)) y e4 (s.wr hk y h)
    · exact hn i hi (fun q => ne (q.trans e1.symm)) y e2 z
    · exact ne (e3.trans e1.symm)
  · by_cases q : i = j
    · subst q
      rw [gset_eq]
      intro it hit
      rcases List.mem_append.mp hit with hit | hit
      · exact ⟨(s.fits i hi it hit).1.mono (fun _ h => h) (fun _ h => h) (fun c h => by rw [ec]; exact List.mem_append_left _ h), (s.fits i hi it hit).2⟩
      · exact hf it hit
    · rw [gset_ne q]
      exact s.fits i hi
/-- an env may read one more cell, that no other writes -/
theorem Sep.read1 (s : Sep n ed scr P C D) (hj : j < n) (hx : P x) (nx : ∀ i, i < n → i ≠ j → ¬ (bfr ed scr i).W x) : Sep n (gset ed j { ed j with reads := (ed j).reads ++ [x] }) scr P C D := by
  have key : ∀ {Pr : Nat → Ed → Prop}, (∀ i, i < n → Pr i (ed i)) → Pr j { ed j with reads := (ed j).reads ++ [x] } → ∀ i, i < n → Pr i (gset ed j { ed j with reads := (ed j).reads ++ [x] } i) := fun {Pr} h h' i hi => by
    by_cases q : i = j
    · subst q; rw [gset_eq]; exact h'
    · rw [gset_ne q]; exact h i hi
  have hW : ∀ i y, (bfr (gset ed j { ed j with reads := (ed j).reads ++ [x] }) scr i).W y → (bfr ed scr i).W y := fun i y h => by
    by_cases q : i = j
    · subst q; unfold bfr at h; rw [gset_eq] at h; exact h
    · unfold bfr at h; rw [gset_ne q] at h; exact h
  have hR : ∀ i y, (bfr (gset ed j { ed j with reads := (ed j).reads ++ [x] }) scr i).R y → (bfr ed scr i).R y ∨ i = j ∧ y = x := fun i y h => by
    by_cases q : i = j
    · subst q
      unfold bfr at h
      rw [gset_eq] at h
      rcases h with h | h
      · exact (mem_snoc h).imp .inl fun e => ⟨rfl, e⟩
      · exact .inl (.inr h)
    · unfold bfr at h; rw [gset_ne q] at h; exact .inl h
  have hG : ∀ i y, (bfr (gset ed j { ed j with reads := (ed j).reads ++ [x] }) scr i).G y → (bfr ed scr i).G y := fun i y h => by
    by_cases q : i = j
    · subst q; unfold bfr at h; rw [gset_eq] at h; exact h
    · unfold bfr at h; rw [gset_ne q] at h; exact h
  have hT : ∀ i y, (bfr (gset ed j { ed j with reads := (ed j).reads ++ [x] }) scr i).T y → (bfr ed scr i).T y := fun i y h => by
    by_cases q : i = j
    · subst q; unfold bfr at h; rw [gset_eq] at h; exact h
    · unfold bfr at h; rw [gset_ne q] at h; exact h
  refine ⟨fun i k hi hk ne => ⟨fun y h => ⟨fun z => ((s.ap i k hi hk ne).w y (hW _ _ h)).1 (hW _ _ z), fun z => ?_⟩, fun y h z => ?_, fun y h z => (s.ap i k hi hk ne).g y (hG _ _ h) (hG _ _ z), fun y h z => (s.ap i k hi hk ne).t y (hT _ _ h) (hT _ _ z)⟩, fun i hi y h => (hR _ _ h).elim (s.rb i hi y) (fun ⟨_, q⟩ => q ▸ hx), ?_, ?_, ?_, ?_, ?_, ?_, ?_, ?_⟩
  · rcases hR _ _ z with z | ⟨e3, e4⟩
    · exact ((s.ap i k hi hk ne).w y (hW _ _ h)).2 z
    · exact nx i hi (fun q => ne (q.trans e3.symm)) (by rw [e4] at h; exact hW _ _ h)
  · rcases hR _ _ z with z | ⟨e3, e4⟩
    · exact (s.ap i k hi hk ne).r y (hW _ _ h) z
    · exact nx k hk (fun q => ne (e3.trans q.symm)) (by rw [e4] at h; exact hW _ _ h)
  · exact key (Pr := fun _ e => ∀ x ∈ e.gives, C x) s.gb (s.gb j hj)
  · exact key (Pr := fun _ e => ∀ x ∈ e.takes, D x) s.tb (s.tb j hj)
  · exact key (Pr := fun _ e => ∀ k ∈ e.cells, k ∈ e.reads) s.cr (fun k hk => List.mem_append_left _ (s.cr j hj k hk))
  · exact key (Pr := fun _ e => ∀ p ∈ e.spans, 0 < p.2 ∧ p.2 < 5) s.sp (s.sp j hj)
  · exact key (Pr := fun _ e => e.cells.Nodup) s.cn (s.cn j hj)
  · exact key (Pr := fun _ e => e.gives.Nodup) s.gn (s.gn j hj)
  · exact key (Pr := fun _ e => e.takes.Nodup) s.tn (s.tn j hj)
  · exact key (Pr := fun i e => ∀ it ∈ scr i, it.fits e (ctr (scr i)) ∧ it.alw 2) s.fits fun it hit => ⟨Itm.fits.mono (e := ed j) (fun _ h => h) (fun _ h => h) (fun _ h => h) (s.fits j hj it hit).1, (s.fits j hj it hit).2⟩
/-- an env may write one more cell, that it reads and no other touches -/
theorem Sep.cell1 (s : Sep n ed scr P C D) (hj : j < n) (hr : x ∈ (ed j).reads) (hc : x ∉ (ed j).cells) (nx : ∀ i, i < n → i ≠ j → ¬ (bfr ed scr i).R x) : Sep n (gset ed j { ed j with cells := (ed j).cells ++ [x] }) scr P C D := by
  have key : ∀ {Pr : Nat → Ed → Prop}, (∀ i, i < n → Pr i (ed i)) → Pr j { ed j with cells := (ed j).cells ++ [x] } → ∀ i, i < n → Pr i (gset ed j { ed j with cells := (ed j).cells ++ [x] } i) := fun {Pr} h h' i hi => by
    by_cases q : i = j
    · subst q; rw [gset_eq]; exact h'
    · rw [gset_ne q]; exact h i hi
  have hW : ∀ i y, (bfr (gset ed j { ed j with cells := (ed j).cells ++ [x] }) scr i).W y → (bfr ed scr i).W y ∨ i = j ∧ y = x := fun i y h => by
    by_cases q : i = j
    · subst q
      unfold bfr at h
      rw [gset_eq] at h
      rcases h with h | h
      · exact (mem_snoc h).imp .inl fun e => ⟨rfl, e⟩
      · exact .inl (.inr h)
    · unfold bfr at h; rw [gset_ne q] at h; exact .inl h
  have hR : ∀ i y, (bfr (gset ed j { ed j with cells := (ed j).cells ++ [x] }) scr i).R y → (bfr ed scr i).R y := fun i y h => by
    by_cases q : i = j
    · subst q; unfold bfr at h; rw [gset_eq] at h; exact h
    · unfold bfr at h; rw [gset_ne q] at h; exact h
  have hG : ∀ i y, (bfr (gset ed j { ed j with cells := (ed j).cells ++ [x] }) scr i).G y → (bfr ed scr i).G y := fun i y h => by
    by_cases q : i = j
    · subst q; unfold bfr at h; rw [gset_eq] at h; exact h
    · unfold bfr at h; rw [gset_ne q] at h; exact h
  have hT : ∀ i y, (bfr (gset ed j { ed j with cells := (ed j).cells ++ [x] }) scr i).T y → (bfr ed scr i).T y := fun i y h => by
    by_cases q : i = j
    · subst q; unfold bfr at h; rw [gset_eq] at h; exact h
    · unfold bfr at h; rw [gset_ne q] at h; exact h
  refine ⟨fun i k hi hk ne => ⟨fun y h => ⟨fun z => ?_, fun z => ?_⟩, fun y h z => ?_, fun y h z => (s.ap i k hi hk ne).g y (hG _ _ h) (hG _ _ z), fun y h z => (s.ap i k hi hk ne).t y (hT _ _ h) (hT _ _ z)⟩, fun i hi y h => s.rb i hi y (hR _ _ h), ?_, ?_, ?_, ?_, ?_, ?_, ?_, ?_⟩
  · rcases hW _ _ h with h | ⟨e1, e2⟩ <;> rcases hW _ _ z with z | ⟨e3, e4⟩
    · exact ((s.ap i k hi hk ne).w y h).1 z
    · exact nx i hi (fun q => ne (q.trans e3.symm)) (by rw [e4] at h; exact s.wr hi _ h)
    · exact nx k hk (fun q => ne (e1.trans q.symm)) (by rw [e2] at z; exact s.wr hk _ z)
    · exact ne (e1.trans e3.symm)
  · rcases hW _ _ h with h | ⟨e1, e2⟩
    · exact ((s.ap i k hi hk ne).w y h).2 (hR _ _ z)
    · exact nx k hk (fun q => ne (e1.trans q.symm)) (by rw [e2] at z; exact hR _ _ z)
  · rcases hW _ _ h with h | ⟨e1, e2⟩
    · exact (s.ap i k hi hk ne).r y h (hR _ _ z)
    · exact nx i hi (fun q => ne (q.trans e1.symm)) (by rw [e2] at z; exact hR _ _ z)
  · exact key (Pr := fun _ e => ∀ x ∈ e.gives, C x) s.gb (s.gb j hj)
  · exact key (Pr := fun _ e => ∀ x ∈ e.takes, D x) s.tb (s.tb j hj)
  · exact key (Pr := fun _ e => ∀ k ∈ e.cells, k ∈ e.reads) s.cr (fun k hk => (mem_snoc hk).elim (s.cr j hj k) (fun e => e ▸ hr))
  · exact key (Pr := fun _ e => ∀ p ∈ e.spans, 0 < p.2 ∧ p.2 < 5) s.sp (s.sp j hj)
  · exact key (Pr := fun _ e => e.cells.Nodup) s.cn (nodup_snoc (s.cn j hj) hc)
  · exact key (Pr := fun _ e => e.gives.Nodup) s.gn (s.gn j hj)
  · exact key (Pr := fun _ e => e.takes.Nodup) s.tn (s.tn j hj)
  · exact key (Pr := fun i e => ∀ it ∈ scr i, it.fits e (ctr (scr i)) ∧ it.alw 2) s.fits fun it hit => ⟨Itm.fits.mono (e := ed j) (fun _ h => h) (fun _ h => h) (fun _ h => h) (s.fits j hj it hit).1, (s.fits j hj it hit).2⟩
end
abbrev s__law_meetings : Stmt := topS 37
theorem sc__law_meetings : FnScope ["_law_state_here", "_law_world", "_law_scripts", "_law_envs", "_law_known", "_law_group", "_law_many", "_law_parts", "_law_k", "_law_giver", "_law_taker", "_law_script"] ["_law_state_here", "_law_world", "_law_scripts", "_law_envs"] (defScope s__law_meetings) := ⟨rfl, rfl, rfl, by decide +kernel, rfl, by decide +kernel, by decide +kernel⟩
abbrev p__law_meetings : List Str := ["_law_state_here", "_law_world", "_law_scripts", "_law_envs"]
theorem r_dnewT {σ : L2.St} {H : Hp} {Q : VK} (q : ∀ p Hn, H p = none → Ex H Hn → Hn p = some (.dT []) → Q (.ref p) Hn) : tDNewT σ H Q := fun p hp => q p _ hp (Ex.mk hp rfl) upd_same
local macro_rules | `(tactic| injection "own") => `(tactic| (with_reducible refine r_dnewT ?_; subst "i_new"))
theorem r_dnin {σ : L2.St} {H : Hp} {Q : VK} {ty td : TE} (q : ty σ H fun y H1 => td σ H1 fun x H2 => ∃ a o, x = .ref a ∧ DGet H2 a y o ∧ Q (.bl (!o.isSome)) H2) : tDNotIn ty td σ H Q := q
theorem r_din {σ : L2.St} {H : Hp} {Q : VK} {ty td : TE} (q : ty σ H fun y H1 => td σ H1 fun x H2 => ∃ a o, x = .ref a ∧ DGet H2 a y o ∧ Q (.bl o.isSome) H2) : tDIn ty td σ H Q := q
local macro_rules | `(tactic| injection "own") => `(tactic| with_reducible refine r_din ?_)
local macro_rules | `(tactic| injection "own") => `(tactic| with_reducible refine r_dnin ?_)
def kk2 (p : Int × Int) : List Key := [Sum.inl p.1, Sum.inl p.2]
structure MEv (d d' : Wd) : Prop where
  th : d'.threads = d.threads
  lf : d'.left = d.left
  it : d'.items = d.items
  al : d'.alts = d.alts
  lo : d'.loops = d.loops
  ce : d.cells ≤ d'.cells
  ch : ∃ j, d'.chs = d.chs ++ List.replicate j ("inner" : Str)
  c24 : d'.chs.length ≤ 24
structure MB (st c wa ch SA EA KA : Addr) (n : Nat) (ea : Nat → Ea) (la : Nat → Addr) (ed0 ed : Nat → Ed) (scr : Nat → List Itm) (τ : Tau) (B L clo : Nat) (lo m : Int) (H0 H : Hp) (d0 d : Wd) : Prop where
  gs : GS st c wa ch SA EA n ea la ed scr τ B H0 H d
  sep : Sep n ed scr (fun x => lo ≤ x ∧ x < d.cells) (fun x => (clo : Int) ≤ x ∧ x < d.chs.length) (fun x => (clo : Int) ≤ x ∧ x < d.chs.length)
  ev : MEv d0 d
  ce : d.cells ≤ d0.cells + m
  sm : ∀ k, k < n → (ed k).cells = (ed0 k).cells ∧ (ed k).reads = (ed0 k).reads ∧ (ed k).spans = (ed0 k).spans
  sl : ∀ k, k < n → (scr k).length ≤ L
  tK : τ KA = some (31, 0)
  kn : ∃ kvs : List (List Key × V), H KA = some (.dT kvs) ∧ kvs.length + clo ≤ d.chs.length ∧ ∀ (g t : Nat) (v : V), g < n → t < n → valV kvs (kk2 (g, t)) = some v → ∃ x, v = .int x ∧ x ∈ (ed g).gives ∧ x ∈ (ed t).takes
structure PB (PA : Addr) (pa : Nat → Addr) (n : Nat) (pps : Nat → List (Bool × Int)) (ed : Nat → Ed) (τ : Tau) (B L : Nat) (H : Hp) : Prop where
  tP : τ PA = some (31, 1)
  hP : H PA = some (.lst (frow pa n))
  tp : ∀ k, k < n → τ (pa k) = some (30, B + k)
  hp : ∀ k, k < n → ∃ xs, H (pa k) = some (.lst xs) ∧ Pts H xs (pps k)
  fp : ∀ k, k < n → ∀ p ∈ pps k, (p.1 = true → p.2 ∈ (ed k).gives) ∧ (p.1 = false → p.2 ∈ (ed k).takes)
  lp : ∀ k, k < n → (pps k).length ≤ L
section
variable {st c wa ch SA EA KA PA : Addr} {n : Nat} {ea : Nat → Ea} {la pa : Nat → Addr} {ed0 ed ed' : Nat → Ed} {scr : Nat → List Itm} {pps : Nat → List (Bool × Int)} {τ τ' : Tau} {B L L' L2 clo : Nat} {lo m : Int} {H0 H H' : Hp} {d0 d : Wd} {N : List Addr}
theorem MB.frame (b : MB st c wa ch SA EA KA n ea la ed0 ed scr τ B L clo lo m H0 H d0 d) (k : Kp N H H') (a : Al H H') (so' : StOk st c H') (wi' : WIn wa ch d H') (l : Loose τ B st c wa ch N) (nk : KA ∉ N) : MB st c wa ch SA EA KA n ea la ed0 ed scr τ B L clo lo m H0 H' d0 d := by
  obtain ⟨kvs, h1, h2, h3⟩ := b.kn
  exact ⟨b.gs.frame k a so' wi' l, b.sep, b.ev, b.ce, b.sm, b.sl, b.tK, kvs, k.out _ _ nk h1, h2, h3⟩
theorem MB.ex (b : MB st c wa ch SA EA KA n ea la ed0 ed scr τ B L clo lo m H0 H d0 d) (e : Ex H H') : MB st c wa ch SA EA KA n ea la ed0 ed scr τ B L clo lo m H0 H' d0 d :=
  b.frame (e.kp (M := [])) (al_ex e) (st_ex e b.gs.so) (b.gs.wi.exx e) (fun x hx => by cases hx) List.not_mem_nil
theorem MB.ns (b : MB st c wa ch SA EA KA n ea la ed0 ed scr τ B L clo lo m H0 H d0 d) {x : Addr} {t : Nat × Nat} (hx : τ x = some t) (h : 20 ≤ t.1) : x ∉ [st, c] := fun z => by
  have t1 := b.gs.t1
  have t2 := b.gs.t2
  simp only [List.mem_cons, List.not_mem_nil, or_false] at z
  rcases z with rfl | rfl
  · rw [t1] at hx; cases hx; simp at h
  · rw [t2] at hx; cases hx; simp at h
theorem MB.draw (b : MB st c wa ch SA EA KA n ea la ed0 ed scr τ B L clo lo m H0 H d0 d) (k : Kp [st, c] H H') (so : StOk st c H') : MB st c wa ch SA EA KA n ea la ed0 ed scr τ B L clo lo m H0 H' d0 d :=
  b.frame k (al_st k so) so (b.gs.wi.kp k b.gs.nw.1 b.gs.nw.2) (fun x hx => .inl (by
    simp only [List.mem_cons, List.not_mem_nil, or_false] at hx ⊢
    rcases hx with h | h <;> simp [h])) (b.ns b.tK (by simp))
theorem MB.one (b : MB st c wa ch SA EA KA n ea la ed0 ed scr τ B L clo lo m H0 H d0 d) {x : Addr} {t : Nat × Nat} (k : Kp [x] H H') (hn : H' x ≠ none) (hx : τ x = some t) (h : t.1 = 31 ∧ t.2 ≠ 0 ∨ t.1 = 30 ∧ B ≤ t.2) : MB st c wa ch SA EA KA n ea la ed0 ed scr τ B L clo lo m H0 H' d0 d := by
  obtain ⟨kvs, h1, h2, h3⟩ := b.kn
  refine ⟨b.gs.one k hn hx (h.imp And.left id), b.sep, b.ev, b.ce, b.sm, b.sl, b.tK, kvs, k.out _ _ (fun z => ?_) h1, h2, h3⟩
  have := b.tK
  rw [List.mem_singleton.mp z, hx] at this
  cases this
  simp at h
theorem MB.retag (b : MB st c wa ch SA EA KA n ea la ed0 ed scr τ B L clo lo m H0 H d0 d) (g : GS st c wa ch SA EA n ea la ed scr τ' B H0 H' d) (l : TgLe τ τ') (e : Ex H H') : MB st c wa ch SA EA KA n ea la ed0 ed scr τ' B L clo lo m H0 H' d0 d := by
  obtain ⟨kvs, h1, h2, h3⟩ := b.kn
  exact ⟨g, b.sep, b.ev, b.ce, b.sm, b.sl, l _ _ b.tK, kvs, e _ _ h1, h2, h3⟩
theorem MB.more (b : MB st c wa ch SA EA KA n ea la ed0 ed scr τ B L clo lo m H0 H d0 d) {B' : Nat} (h : B ≤ B') : MB st c wa ch SA EA KA n ea la ed0 ed scr τ B' L clo lo m H0 H d0 d := ⟨b.gs.more h, b.sep, b.ev, b.ce, b.sm, b.sl, b.tK, b.kn⟩
theorem PB.frame (b : PB PA pa n pps ed τ B L H) (k : Kp N H H') (nP : PA ∉ N) (np : ∀ j, j < n → pa j ∉ N) : PB PA pa n pps ed τ B L H' :=
  ⟨b.tP, k.out _ _ nP b.hP, b.tp, fun j hj => by
    obtain ⟨xs, h1, h2⟩ := b.hp j hj
    exact ⟨xs, k.out _ _ (np j hj) h1, Pts.up k h2⟩, b.fp, b.lp⟩
theorem PB.ex (b : PB PA pa n pps ed τ B L H) (e : Ex H H') : PB PA pa n pps ed τ B L H' := b.frame (e.kp (M := [])) List.not_mem_nil (fun _ _ => List.not_mem_nil)
theorem PB.le (b : PB PA pa n pps ed τ B L H) (l : TgLe τ τ') : PB PA pa n pps ed τ' B L H := ⟨l _ _ b.tP, b.hP, fun j hj => l _ _ (b.tp j hj), b.hp, b.fp, b.lp⟩
theorem PB.draw (b : PB PA pa n pps ed τ B L2 H) (g : MB st c wa ch SA EA KA n ea la ed0 ed' scr τ B' L clo lo m H0 H d0 d) (k : Kp [st, c] H H') : PB PA pa n pps ed τ B L2 H' := b.frame k (g.ns b.tP (by simp)) (fun j hj => g.ns (b.tp j hj) (by simp))
/-- an object of another tag changes -/
theorem PB.one (b : PB PA pa n pps ed τ B L H) {x : Addr} {t : Nat × Nat} (k : Kp [x] H H') (hx : τ x = some t) (h : t.1 ≠ 30) (h1 : t ≠ (31, 1)) : PB PA pa n pps ed τ B L H' := by
  refine b.frame k (fun z => ?_) (fun j hj z => ?_)
  · have := b.tP
    rw [List.mem_singleton.mp z, hx] at this
    exact h1 (Option.some.inj this)
  · have := b.tp j hj
    rw [List.mem_singleton.mp z, hx] at this
    cases this
    simp at h
/-- one of the parts grows -/
theorem PB.app (b : PB PA pa n pps ed τ B L H) {j : Nat} {q : Addr} {xs : List V} {p : Bool × Int} (hj : j < n) (e : Kp [pa j] H H') (hx : H (pa j) = some (.lst xs)) (hx2 : Pts H xs (pps j)) (hn : H' (pa j) = some (.lst (xs ++ [.ref q]))) (hq : H q = some (.tup [.str (gtS p.1), .int p.2, .str ""])) (hf : (p.1 = true → p.2 ∈ (ed j).gives) ∧ (p.1 = false → p.2 ∈ (ed j).takes)) :
    PB PA pa n (gset pps j (pps j ++ [p])) ed τ B (L + 1) H' := by
  refine ⟨b.tP, e.out _ _ (fun z => ?_) b.hP, b.tp, fun i hi => ?_, fun i hi => ?_, fun i hi => ?_⟩
  · have := b.tP
    rw [List.mem_singleton.mp z, b.tp j hj] at this
    cases this
  · by_cases w : i = j
    · subst w
      rw [gset_eq]
      exact ⟨_, hn, pair_app (Pts.up e hx2) (.cons ⟨q, rfl, e.tup _ _ hq⟩ .nil)⟩
    · rw [gset_ne w]
      obtain ⟨ys, h1, h2⟩ := b.hp i hi
      refine ⟨ys, e.out _ _ (fun z => ?_) h1, Pts.up e h2⟩
      have := b.tp i hi
      rw [List.mem_singleton.mp z, b.tp j hj] at this
      have := (Prod.mk.inj (Option.some.inj this)).2
      omega
  · by_cases w : i = j
    · subst w
      rw [gset_eq]
      intro p' hp'
      rcases List.mem_append.mp hp' with hp' | hp'
      · exact b.fp i hi p' hp'
      · rw [List.mem_singleton.mp hp']
        exact hf
    · rw [gset_ne w]
      exact b.fp i hi
  · by_cases w : i = j
    · subst w
      rw [gset_eq, List.length_append, List.length_singleton]
      exact Nat.add_le_add_right (b.lp i hi) 1
    · rw [gset_ne w]
      exact Nat.le_trans (b.lp i hi) (Nat.le_succ _)
end
theorem tk_ne {n : Nat} {g e : Int} (h2 : 2 ≤ n) (h4 : n ≤ 4) (g0 : 0 ≤ g) (g1 : g < n) (e0 : 0 ≤ e) (e1 : e < (n : Int) - 1) : 0 ≤ (g + 1 + e) % (n : Int) ∧ (g + 1 + e) % (n : Int) < n ∧ (g + 1 + e) % (n : Int) ≠ g := by
  have : n = 2 ∨ n = 3 ∨ n = 4 := by omega
  rcases this with rfl | rfl | rfl <;> omega
def chan2 (ed : Nat → Ed) (g t : Nat) (c : Int) : Nat → Ed := gset (gset ed g { ed g with gives := (ed g).gives ++ [c] }) t { gset ed g { ed g with gives := (ed g).gives ++ [c] } t with takes := (gset ed g { ed g with gives := (ed g).gives ++ [c] } t).takes ++ [c] }
theorem chan2_sm {ed : Nat → Ed} {g t : Nat} {c : Int} (k : Nat) : (chan2 ed g t c k).cells = (ed k).cells ∧ (chan2 ed g t c k).reads = (ed k).reads ∧ (chan2 ed g t c k).spans = (ed k).spans := by
  unfold chan2 gset
  by_cases q : k = t
  · subst q
    by_cases r : k = g
    · subst r; simp
    · simp [r]
  · by_cases r : k = g
    · subst r; simp [q]
    · simp [q, r]
theorem chan2_g {ed : Nat → Ed} {g t : Nat} {c x : Int} (k : Nat) (h : x ∈ (ed k).gives) : x ∈ (chan2 ed g t c k).gives := by
  unfold chan2 gset
  by_cases q : k = t
  · subst q
    by_cases r : k = g
    · subst r; simp [h]
    · simp [r, h]
  · by_cases r : k = g
    · subst r; simp [q, h]
    · simp [q, r, h]
theorem chan2_t {ed : Nat → Ed} {g t : Nat} {c x : Int} (k : Nat) (h : x ∈ (ed k).takes) : x ∈ (chan2 ed g t c k).takes := by
  unfold chan2 gset
  by_cases q : k = t
  · subst q
    by_cases r : k = g
    · subst r; simp [h]
    · simp [r, h]
  · by_cases r : k = g
    · subst r; simp [q, h]
    · simp [q, r, h]
theorem chan2_gn {ed : Nat → Ed} {g t : Nat} {c : Int} (ne : g ≠ t) : c ∈ (chan2 ed g t c g).gives := by
  unfold chan2 gset
  simp [ne]
theorem chan2_tn {ed : Nat → Ed} {g t : Nat} {c : Int} : c ∈ (chan2 ed g t c t).takes := by
  unfold chan2 gset
  simp
/-- a new channel from g to t -/
theorem MB.chan {st c wa ch SA EA KA PA : Addr} {n : Nat} {ea : Nat → Ea} {la pa : Nat → Addr} {ed0 ed : Nat → Ed} {scr : Nat → List Itm} {pps : Nat → List (Bool × Int)} {τ : Tau} {B L L2 clo : Nat} {lo m : Int} {H0 H H1 H2 H2' H3 H3' H4 : Hp} {d0 d : Wd} {kvs : List (List Key × V)} {g t : Nat}
    (b : MB st c wa ch SA EA KA n ea la ed0 ed scr τ B L clo lo m H0 H d0 d) (p : PB PA pa n pps ed τ B L2 H) (hg : g < n) (ht : t < n) (ne : g ≠ t) (hn : valV kvs (kk2 (g, t)) = none) (hc : d.chs.length < 24)
    (hl : kvs.length + clo ≤ d.chs.length) (hl2 : ∀ (g t : Nat) (v : V), g < n → t < n → valV kvs (kk2 (g, t)) = some v → ∃ x, v = .int x ∧ x ∈ (ed g).gives ∧ x ∈ (ed t).takes)
    (k1 : Kp [KA] H H1) (h1 : H1 KA = some (.dT (putK kvs (kk2 (g, t)) (.int d.chs.length)))) (k2 : Kp [ch] H1 H2) (h2 : H2 ch = some (.lst (d.chs.map V.str ++ [.str "inner"]))) (e2 : Ex H2 H2')
    (k3 : Kp [(ea g).ga] H2' H3) (h3 : H3 (ea g).ga = some (.lst ((ed g).gives.map V.int ++ [.int d.chs.length]))) (e3 : Ex H3 H3') (k4 : Kp [(ea t).ta] H3' H4) (h4 : H4 (ea t).ta = some (.lst ((ed t).takes.map V.int ++ [.int d.chs.length]))) :
    MB st c wa ch SA EA KA n ea la ed0 (chan2 ed g t d.chs.length) scr τ B L clo lo m H0 H4 d0 { d with chs := d.chs ++ [("inner" : Str)] } ∧ PB PA pa n pps (chan2 ed g t d.chs.length) τ B L2 H4 := by
  have gs := b.gs
  have tga := (gs.te g hg).2.2.2.2.1
  have tta := (gs.te t ht).2.2.2.2.2
  have et : gset ed g { ed g with gives := (ed g).gives ++ [(d.chs.length : Int)] } t = ed t := gset_ne (Ne.symm ne)
  have kl : ∀ {x : Addr} {u : Nat × Nat}, τ x = some u → u ≠ (31, 0) → KA ∉ [x] := fun {x u} hx hu z => by
    have := b.tK
    rw [List.mem_singleton.mp z, hx] at this
    exact hu (Option.some.inj this)
  have g1 := gs.one k1 (fsome h1) b.tK (.inl rfl)
  have w2 : WIn wa ch { d with chs := d.chs ++ [("inner" : Str)] } H2 := by
    obtain ⟨⟨kv, a1, a2⟩, _, nwc⟩ := g1.wi
    exact ⟨⟨kv, k2.out _ _ (by simpa using nwc) a1, a2⟩, by rw [h2, List.map_append]; rfl, nwc⟩
  have g2 := (g1.chan k2 w2).ex e2
  have g3 := (g2.env hg k3 (fsome h3) tga (by decide) (by decide) ((g2.ee g hg).gives (g2.te g hg) k3 (cs := (ed g).gives ++ [(d.chs.length : Int)]) (by rw [List.map_append]; exact h3))).ex e3
  have g4 := g3.env ht k4 (fsome h4) tta (by decide) (by decide) ((g3.ee t ht).takes (g3.te t ht) k4 (cs := (gset ed g { ed g with gives := (ed g).gives ++ [(d.chs.length : Int)] } t).takes ++ [(d.chs.length : Int)]) (by rw [List.map_append, et]; exact h4))
  have s1 := b.sep.mono (P' := fun x => lo ≤ x ∧ x < d.cells) (C' := fun x => (clo : Int) ≤ x ∧ x < ((d.chs ++ [("inner" : Str)]).length : Nat)) (D' := fun x => (clo : Int) ≤ x ∧ x < ((d.chs ++ [("inner" : Str)]).length : Nat)) (fun _ h => h) (fun x h => ⟨h.1, by rw [List.length_append, List.length_singleton]; omega⟩) (fun x h => ⟨h.1, by rw [List.length_append, List.length_singleton]; omega⟩)
  have hcl : (clo : Int) ≤ (d.chs.length : Int) ∧ (d.chs.length : Int) < ((d.chs ++ [("inner" : Str)]).length : Nat) := by
    rw [List.length_append, List.length_singleton]
    omega
  have s2 := s1.give1 (c := (d.chs.length : Int)) hg hcl (fun i hi z => by have := (b.sep.gb i hi _ z).2; omega)
  have s3 := s2.take1 (c := (d.chs.length : Int)) ht hcl (fun i hi z => by
    have z' : (d.chs.length : Int) ∈ (ed i).takes := by
      by_cases q : i = g
      · subst q; rw [gset_eq] at z; exact z
      · rw [gset_ne q] at z; exact z
    have := (b.sep.tb i hi _ z').2
    omega)
  have hk4 : H4 KA = some (.dT (putK kvs (kk2 (g, t)) (.int d.chs.length))) := k4.out _ _ (kl tta (by intro z; cases z)) (e3 _ _ (k3.out _ _ (kl tga (by intro z; cases z)) (e2 _ _ (k2.out _ _ (kl gs.t4 (by intro z; cases z)) h1))))
  refine ⟨⟨g4, s3, ?_, b.ce, fun k hk => ?_, b.sl, b.tK, _, hk4, ?_, fun g' t' v hg' ht' hv => ?_⟩, ?_⟩
  · obtain ⟨j, ej⟩ := b.ev.ch
    exact ⟨b.ev.th, b.ev.lf, b.ev.it, b.ev.al, b.ev.lo, b.ev.ce, ⟨j + 1, by show d.chs ++ _ = _; rw [ej, List.append_assoc, List.replicate_succ']⟩, by show (d.chs ++ _).length ≤ 24; rw [List.length_append, List.length_singleton]; omega⟩
  · obtain ⟨a1, a2, a3⟩ := b.sm k hk
    obtain ⟨c1, c2, c3⟩ := @chan2_sm ed g t d.chs.length k
    exact ⟨c1.trans a1, c2.trans a2, c3.trans a3⟩
  · rw [putK_new _ hn, List.length_append, List.length_singleton]
    show kvs.length + 1 + clo ≤ (d.chs ++ _).length
    rw [List.length_append, List.length_singleton]
    omega
  · rw [valV_put] at hv
    by_cases q : kk2 ((g' : Int), (t' : Int)) = kk2 ((g : Int), (t : Int))
    · rw [if_pos q] at hv
      cases hv
      simp only [kk2, List.cons.injEq, Sum.inl.injEq, and_true] at q
      have q1 : g' = g := by omega
      have q2 : t' = t := by omega
      subst q1
      subst q2
      exact ⟨_, rfl, chan2_gn ne, chan2_tn⟩
    · rw [if_neg q] at hv
      obtain ⟨x, e, m1, m2⟩ := hl2 g' t' v hg' ht' hv
      exact ⟨x, e, chan2_g g' m1, chan2_t t' m2⟩
  · have p4 := ((((((p.one k1 b.tK (by simp) (by intro z; cases z)).one k2 gs.t4 (by simp) (by intro z; cases z)).ex e2).one k3 tga (by simp) (by intro z; cases z)).ex e3).one k4 tta (by simp) (by intro z; cases z))
    exact ⟨p4.tP, p4.hP, p4.tp, p4.hp, fun k hk q hq => ⟨fun z => chan2_g k ((p4.fp k hk q hq).1 z), fun z => chan2_t k ((p4.fp k hk q hq).2 z)⟩, p4.lp⟩
theorem MB.new {st c wa ch SA EA KA : Addr} {n : Nat} {ea : Nat → Ea} {la : Nat → Addr} {ed0 ed : Nat → Ed} {scr : Nat → List Itm} {τ : Tau} {B L clo : Nat} {lo m : Int} {H0 H H' : Hp} {d0 d : Wd} (b : MB st c wa ch SA EA KA n ea la ed0 ed scr τ B L clo lo m H0 H d0 d) (e : Ex H H') {p : Addr} (hp : H p = none) (hn : H' p ≠ none) (t : Nat × Nat) :
    ∃ τ', TgLe τ τ' ∧ τ' p = some t ∧ MB st c wa ch SA EA KA n ea la ed0 ed scr τ' B L clo lo m H0 H' d0 d := by
  obtain ⟨τ', l, tp, g⟩ := b.gs.new e hp hn t
  exact ⟨τ', l, tp, b.retag g l e⟩
theorem ifj {t : TT} {ta tb : TE} {σ : L2.St} {H : Hp} {Q : VK} (R : V → Hp → Prop) (h : ∀ Q' : VK, (∀ v H', R v H' → Q' v H') → tIf t ta tb σ H Q') (q : ∀ v H', R v H' → Q v H') : tIf t ta tb σ H Q := h Q q
theorem nd_len : ∀ (n : Nat) (xs : List Int), xs.Nodup → (∀ x ∈ xs, 0 ≤ x ∧ x < (n : Int)) → xs.length ≤ n
  | 0, [], _, _ => Nat.le_refl 0
  | 0, x :: _, _, h => by
    have := h x (List.mem_cons_self ..)
    omega
  | n + 1, xs, nd, h => by
    by_cases q : (n : Int) ∈ xs
    · have e := nd_len n (xs.erase (n : Int)) (nd.erase _) fun x hx => by
        have h1 := (List.Nodup.mem_erase_iff nd).mp hx
        have h2 := h x h1.2
        have h3 := h1.1
        omega
      rw [List.length_erase_of_mem q] at e
      omega
    · have e := nd_len n xs nd fun x hx => by
        have h2 := h x hx
        have h3 : x ≠ (n : Int) := fun z => q (z ▸ hx)
        omega
      omega
theorem MB.len {st c wa ch SA EA KA : Addr} {n : Nat} {ea : Nat → Ea} {la : Nat → Addr} {ed0 ed : Nat → Ed} {scr : Nat → List Itm} {τ : Tau} {B L clo : Nat} {lo m : Int} {H0 H : Hp} {d0 d : Wd} (b : MB st c wa ch SA EA KA n ea la ed0 ed scr τ B L clo lo m H0 H d0 d) {k : Nat} (hk : k < n) : (ed k).gives.length ≤ 24 ∧ (ed k).takes.length ≤ 24 := by
  have h := b.ev.c24
  constructor
  · exact Nat.le_trans (nd_len d.chs.length _ (b.sep.gn k hk) fun x hx => by have := b.sep.gb k hk x hx; omega) h
  · exact Nat.le_trans (nd_len d.chs.length _ (b.sep.tn k hk) fun x hx => by have := b.sep.tb k hk x hx; omega) h
theorem MB.scr {st c wa ch SA EA KA : Addr} {n : Nat} {ea : Nat → Ea} {la : Nat → Addr} {ed0 ed : Nat → Ed} {scr : Nat → List Itm} {τ : Tau} {B L L' clo : Nat} {lo m : Int} {H0 H H' : Hp} {d0 d : Wd} {j : Nat} {ys : List V} {more : List Itm} (b : MB st c wa ch SA EA KA n ea la ed0 ed scr τ B L clo lo m H0 H d0 d) (hj : j < n) (k : Kp [la j] H H') (hl : H' (la j) = some (.lst ys)) (hi : ItsT τ B H' ys (scr j ++ more))
    (hf : ∀ it ∈ more, it.fits (ed j) (ctr (scr j ++ more)) ∧ it.alw 2) (hp : ∀ y ∈ ctr more, lo ≤ y ∧ y < d.cells) (hn : ∀ i, i < n → i ≠ j → ∀ y ∈ ctr more, ¬ (bfr ed scr i).R y) (h1 : (scr j).length + more.length ≤ L') (h2 : L ≤ L') : MB st c wa ch SA EA KA n ea la ed0 ed (gset scr j (scr j ++ more)) τ B L' clo lo m H0 H' d0 d := by
  obtain ⟨kvs, a1, a2, a3⟩ := b.kn
  refine ⟨b.gs.script hj (Nat.le_refl _) k hl hi, b.sep.scr1 hj hf hp hn, b.ev, b.ce, b.sm, fun i hi2 => ?_, b.tK, kvs, k.out _ _ (fun z => ?_) a1, a2, a3⟩
  · by_cases q : i = j
    · subst q
      rw [gset_eq, List.length_append]
      exact h1
    · rw [gset_ne q]
      exact Nat.le_trans (b.sl i hi2) h2
  · have := b.tK
    rw [List.mem_singleton.mp z, b.gs.tl j hj] at this
    cases this
theorem MB.cells {st c wa ch SA EA KA : Addr} {n : Nat} {ea : Nat → Ea} {la : Nat → Addr} {ed0 ed : Nat → Ed} {scr : Nat → List Itm} {τ : Tau} {B L clo : Nat} {lo m : Int} {H0 H H' : Hp} {d0 d : Wd} (b : MB st c wa ch SA EA KA n ea la ed0 ed scr τ B L clo lo m H0 H d0 d) (k : Kp [wa] H H') (wi' : WIn wa ch { d with cells := d.cells + 1 } H') : MB st c wa ch SA EA KA n ea la ed0 ed scr τ B L clo lo (m + 1) H0 H' d0 { d with cells := d.cells + 1 } := by
  obtain ⟨kvs, a1, a2, a3⟩ := b.kn
  have h := b.ce
  have e := b.ev
  refine ⟨b.gs.world k wi', b.sep.mono (fun x h => ⟨h.1, by show x < d.cells + 1; omega⟩) (fun x h => h) (fun x h => h), ⟨e.th, e.lf, e.it, e.al, e.lo, by have := e.ce; show d0.cells ≤ d.cells + 1; omega, e.ch, e.c24⟩, by show d.cells + 1 ≤ _; omega, b.sm, b.sl, b.tK, kvs, k.out _ _ (fun z => ?_) a1, a2, a3⟩
  have := b.tK
  rw [List.mem_singleton.mp z, b.gs.t3] at this
  cases this
theorem MB.mup {st c wa ch SA EA KA : Addr} {n : Nat} {ea : Nat → Ea} {la : Nat → Addr} {ed0 ed : Nat → Ed} {scr : Nat → List Itm} {τ : Tau} {B L clo : Nat} {lo m m' : Int} {H0 H : Hp} {d0 d : Wd} (b : MB st c wa ch SA EA KA n ea la ed0 ed scr τ B L clo lo m H0 H d0 d) (h : m ≤ m') : MB st c wa ch SA EA KA n ea la ed0 ed scr τ B L clo lo m' H0 H d0 d := ⟨b.gs, b.sep, b.ev, by have := b.ce; omega, b.sm, b.sl, b.tK, b.kn⟩
theorem ctr_gts : ∀ ps : List (Bool × Int), ctr (ps.map fun p => Itm.gt p.1 p.2 true) = []
  | [] => rfl
  | p :: r => by
    have h := ctr_gts r
    simp only [ctr, List.map_cons, List.flatMap_cons, ctr1, List.nil_append] at h ⊢
    exact h
theorem its_gts {τ : Tau} {B : Nat} {H : Hp} {xs : List V} {ps : List (Bool × Int)} (h : Pts H xs ps) : ItsT τ B H xs (ps.map fun p => Itm.gt p.1 p.2 true) := by
  induction h with
  | nil => exact .nil
  | cons a _ ih => exact .cons a ih
theorem q_extN {H : Hp} {Q : VK} {l b : Addr} {xs zs : List V} (h : H l = some (.lst xs)) (h2 : H b = some (.lst zs)) (hz : xs.length + zs.length ≤ 100000) (q : ∀ Hn, Kp [l] H Hn → Hn l = some (.lst (xs ++ zs)) → Q .non Hn) : rExtend (.ref l) [.ref b] H Q := ⟨l, b, xs, zs, rfl, rfl, h, h2, sl1000 hz, q _ (kp_one h (by intro _ z; cases z)) upd_same⟩
def sp_meet : Sp := fun vs H Q _ => ∃ (st c wa ch SA EA : Addr) (n : Nat) (ea : Nat → Ea) (la : Nat → Addr) (ed : Nat → Ed) (scr : Nat → List Itm) (τ : Tau) (H0 : Hp) (d : Wd) (lo : Int), vs = [.ref st, .ref wa, .ref SA, .ref EA] ∧ 2 ≤ n ∧ n ≤ 4 ∧ GS st c wa ch SA EA n ea la ed scr τ 0 H0 H d ∧
  Sep n ed scr (fun x => lo ≤ x ∧ x < d.cells) (fun x => (d.chs.length : Int) ≤ x ∧ x < d.chs.length) (fun x => (d.chs.length : Int) ≤ x ∧ x < d.chs.length) ∧ lo ≤ d.cells ∧ d.chs.length ≤ 24 ∧ (∀ k, k < n → scr k = []) ∧
  ∀ (ed' : Nat → Ed) (scr' : Nat → List Itm) (τ' : Tau) (d' : Wd) (H' : Hp), TgLe τ τ' → GS st c wa ch SA EA n ea la ed' scr' τ' 1000 H0 H' d' → Sep n ed' scr' (fun x => lo ≤ x ∧ x < d'.cells) (fun x => (d.chs.length : Int) ≤ x ∧ x < d'.chs.length) (fun x => (d.chs.length : Int) ≤ x ∧ x < d'.chs.length) → MEv d d' → d'.cells ≤ d.cells + 3 * n →
    (∀ k, k < n → (ed' k).cells = (ed k).cells ∧ (ed' k).reads = (ed k).reads ∧ (ed' k).spans = (ed k).spans) → (∀ k, k < n → (scr' k).length ≤ 30) → Q .non H'
theorem ok_meetings (T : Glo K w mg) (D : Dn K mg "_law_meetings" s__law_meetings p__law_meetings) (G__law_draw : Cal P w K mg base "_law_draw" 1 p__law_draw sp_draw) (G__law_pick : Cal P w K mg base "_law_pick" 2 p__law_pick (sp_pick K)) (G__law_more_cells : Cal P w K mg base "_law_more_cells" 1 p__law_more_cells sp_more) :
    Cal P w K mg base "_law_meetings" 3 p__law_meetings sp_meet := by
  refine D.ok sc__law_meetings (fun vs H Q E h => ?_) (fun f cdv A outer s H vs Q E hr h => ?_)
  · obtain ⟨_, _, _, _, _, _, _, _, _, _, _, _, _, _, _, rfl, _⟩ := h
    rfl
  obtain ⟨st, c, wa, ch, SA, EA, n, ea, la, ed0, scr0, τ0, H0, d0, lo, rfl, hn2, hn4, gs, sep, hlo, h24, hs0, q⟩ := h
  refine ⟨_, (pss_cons (ps_set (i := 4) sc__law_meetings.nd rfl (by first | exact Or.inl rfl | exact Or.inr rfl) pe_dnewT) (pss_one (ps_for PassesOwn.never rfl (pi_range1 rfl T.n_range (pa_cons (pe_op op_addA pe_int (pe_cal G__law_draw (hr.mono (by (first | subst "lev" | fail))) rfl (pa_cons (pv 0) (pa_cons pe_int pa_nil)))) pa_nil)) (pg_name (i := 5) sc__law_meetings.nd rfl (by first | exact Or.inl rfl | exact Or.inr rfl)) (pss_cons (ps_set (i := 6) sc__law_meetings.nd rfl (by first | exact Or.inl rfl | exact Or.inr rfl) (pe_ifExp (pt_cmpR op_le (pe_op op_addA (pe_dget (hu_of hr) (pv 1) pe_str (fun _ _ => rfl)) (pe_callB call_lenA rfl T.n_len (by decide +kernel) (pa_cons (pv 2) pa_nil))) pe_int (nomark _)) (pe_cal G__law_pick (hr.mono (by (first | subst "lev" | fail))) rfl (pa_cons (pv 0) (pa_cons (pe_lst (pa_cons pe_int (pa_cons pe_int (pa_cons pe_int (pa_cons pe_int pa_nil))))) pa_nil))) pe_int)) (pss_cons (ps_setLc (i := 7) (own := [("_law_script", 11)]) (tt := tYes) rfl sc__law_meetings.nd rfl rfl (sw_true rfl rfl rfl (by decide +kernel)) (pi_list (pv 2)) (blkOk_by (N := ["_law_state_here", "_law_world", "_law_scripts", "_law_envs", "_law_known", "_law_group", "_law_many", "_law_parts", "_law_k", "_law_giver", "_law_taker", "_law_script"]) (sc := defScope s__law_meetings) (by decide +kernel)) (fun _ _ _ _ _ => (pg_name (i := 11) sc__law_meetings.nd rfl (by first | exact Or.inl rfl | exact Or.inr rfl))) (fun _ _ _ _ _ => pts_nil) (fun _ _ _ _ _ => (pe_lst pa_nil))) (pss_cons (ps_for PassesOwn.never rfl (pi_range1 rfl T.n_range (pa_cons (pe_op op_addA pe_int (pe_cal G__law_draw (hr.mono (by (first | subst "lev" | fail))) rfl (pa_cons (pv 0) (pa_cons pe_int pa_nil)))) pa_nil)) (pg_name (i := 8) sc__law_meetings.nd rfl (by first | exact Or.inl rfl | exact Or.inr rfl)) (pss_cons (ps_set (i := 9) sc__law_meetings.nd rfl (by first | exact Or.inl rfl | exact Or.inr rfl) (pe_cal G__law_draw (hr.mono (by (first | subst "lev" | fail))) rfl (pa_cons (pv 0) (pa_cons (pe_callB call_lenA rfl T.n_len (by decide +kernel) (pa_cons (pv 2) pa_nil)) pa_nil)))) (pss_cons (ps_set (i := 10) sc__law_meetings.nd rfl (by first | exact Or.inl rfl | exact Or.inr rfl) (pe_op op_mod (pe_callTy call_intA rfl T.n_int (by decide +kernel) (pa_cons (pe_op op_addA (pe_op op_addA (pv 9) pe_int) (pe_cal G__law_draw (hr.mono (by (first | subst "lev" | fail))) rfl (pa_cons (pv 0) (pa_cons (pe_op op_sub (pe_callB call_lenA rfl T.n_len (by decide +kernel) (pa_cons (pv 2) pa_nil)) pe_int) pa_nil)))) pa_nil)) (pe_callB call_lenA rfl T.n_len (by decide +kernel) (pa_cons (pv 2) pa_nil)))) (pss_cons (ps_if (PW.pt (pw_and (pt_cmp (pc_dnotin (hu_of hr) (pe_tup (pa_cons (pv 9) (pa_cons (pv 10) pa_nil))) (pv 4))) (pw_and1 (pt_cmpR op_lt (pe_callB call_lenA rfl T.n_len (by decide +kernel) (pa_cons (pe_dget (hu_of hr) (pv 1) pe_str (fun _ _ => rfl)) pa_nil)) pe_int (nomark _))))) (pss_cons (ps_dput (hu_of hr) (pv 4) (pe_tup (pa_cons (pv 9) (pa_cons (pv 10) pa_nil))) (pe_callB call_lenA rfl T.n_len (by decide +kernel) (pa_cons (pe_dget (hu_of hr) (pv 1) pe_str (fun _ _ => rfl)) pa_nil)) rfl) (pss_cons (ps_expr (pe_bm PySem.F.plainAttrs_list PySem.F.slot_list_append PySem.F.type_list_append mt_append (pe_dget (hu_of hr) (pv 1) pe_str (fun _ _ => rfl)) (pa_cons pe_str pa_nil))) (pss_cons (ps_expr (pe_bm PySem.F.plainAttrs_list PySem.F.slot_list_append PySem.F.type_list_append mt_append (pe_dget (hu_of hr) (pe_ix ix_seq (pv 3) (pv 9) (fun _ _ => rfl)) pe_str (fun _ _ => rfl)) (pa_cons (pe_dget (hu_of hr) (pv 4) (pe_tup (pa_cons (pv 9) (pa_cons (pv 10) pa_nil))) (fun _ _ => rfl)) pa_nil))) (pss_one (ps_expr (pe_bm PySem.F.plainAttrs_list PySem.F.slot_list_append PySem.F.type_list_append mt_append (pe_dget (hu_of hr) (pe_ix ix_seq (pv 3) (pv 10) (fun _ _ => rfl)) pe_str (fun _ _ => rfl)) (pa_cons (pe_dget (hu_of hr) (pv 4) (pe_tup (pa_cons (pv 9) (pa_cons (pv 10) pa_nil))) (fun _ _ => rfl)) pa_nil))))))) pss_nil) (pss_one (ps_if (pt_cmp (pc_din (hu_of hr) (pe_tup (pa_cons (pv 9) (pa_cons (pv 10) pa_nil))) (pv 4))) (pss_cons (ps_expr (pe_bm PySem.F.plainAttrs_list PySem.F.slot_list_append PySem.F.type_list_append mt_append (pe_ix ix_seq (pv 7) (pv 9) (fun _ _ => rfl)) (pa_cons (pe_tup (pa_cons pe_str (pa_cons (pe_dget (hu_of hr) (pv 4) (pe_tup (pa_cons (pv 9) (pa_cons (pv 10) pa_nil))) (fun _ _ => rfl)) (pa_cons pe_str pa_nil)))) pa_nil))) (pss_one (ps_expr (pe_bm PySem.F.plainAttrs_list PySem.F.slot_list_append PySem.F.type_list_append mt_append (pe_ix ix_seq (pv 7) (pv 10) (fun _ _ => rfl)) (pa_cons (pe_tup (pa_cons pe_str (pa_cons (pe_dget (hu_of hr) (pv 4) (pe_tup (pa_cons (pv 9) (pa_cons (pv 10) pa_nil))) (fun _ _ => rfl)) (pa_cons pe_str pa_nil)))) pa_nil))))) pss_nil)))))) (pss_one (ps_for PassesOwn.never rfl (pi_range1 rfl T.n_range (pa_cons (pe_callB call_lenA rfl T.n_len (by decide +kernel) (pa_cons (pv 2) pa_nil)) pa_nil)) (pg_name (i := 8) sc__law_meetings.nd rfl (by first | exact Or.inl rfl | exact Or.inr rfl)) (pss_one (ps_if (PW.pt (pw_and (pt_cmpR op_gt (pe_callB call_lenA rfl T.n_len (by decide +kernel) (pa_cons (pe_ix ix_seq (pv 7) (pv 8) (fun _ _ => rfl)) pa_nil)) pe_int (nomark _)) (pw_and1 (pt_cmpR op_gt (pv 6) pe_int (nomark _))))) (pss_one (ps_expr (pe_bm PySem.F.plainAttrs_list PySem.F.slot_list_append PySem.F.type_list_append mt_append (pe_ix ix_seq (pv 2) (pv 8) (fun _ _ => rfl)) (pa_cons (pe_tup (pa_cons pe_str (pa_cons (pv 6) (pa_cons (pe_ix ix_seq (pv 7) (pv 8) (fun _ _ => rfl)) (pa_cons (pe_cal G__law_more_cells (hr.mono (by (first | subst "lev" | fail))) rfl (pa_cons (pv 1) (pa_cons pe_int pa_nil))) pa_nil))))) pa_nil)))) (pss_one (ps_expr (pe_bm PySem.F.plainAttrs_list PySem.F.slot_list_extend PySem.F.type_list_extend mt_extend (pe_ix ix_seq (pv 2) (pv 8) (fun _ _ => rfl)) (pa_cons (pe_ix ix_seq (pv 7) (pv 8) (fun _ _ => rfl)) pa_nil)))))))))))))), ?_⟩
  try dsimp only [cxOf, Cx.nox]
  have so := gs.so
  repeat' (first | specialize "st" | fail)
  rename_i H1 ke1
  obtain ⟨KA, rfl⟩ : ∃ x, x = p := ⟨_, rfl⟩
  obtain ⟨G, rfl⟩ : ∃ x, x = Hn := ⟨_, rfl⟩
  obtain ⟨clo, eclo⟩ : ∃ x, x = d0.chs.length := ⟨_, rfl⟩
  obtain ⟨τ1, l1, tK, gs1⟩ := gs.new ke1 hp (fsome hn) (31, 0)
  have mb0 : MB st c wa ch SA EA KA n ea la ed0 ed0 scr0 τ1 0 0 clo lo 0 H0 G d0 d0 := by
    refine MB.draw (H := H1) ⟨gs1, eclo ▸ sep, ⟨rfl, rfl, rfl, rfl, rfl, Int.le_refl _, ⟨0, by simp⟩, h24⟩, by omega, fun k hk => ⟨rfl, rfl, rfl⟩, fun k hk => by rw [hs0 k hk]; exact Nat.le_refl 0, tK, [], hn, by rw [eclo]; simp, fun g t v _ _ hv => by cases hv⟩ ke so
  have fln : (frow la n).length = n := frow_len
  have fle : (frow (fun k => (ea k).e) n).length = n := frow_len
  have nw := gs.nw.1
  have nc := gs.nw.2
  clear so gs gs1 hp ke1 hn ke sep
  refine w_rng (lo := 0) (n := _) (fun i σ H' => ∃ (x5 x6 x7 x8 x9 x10 x11 : Option V) (τ : Tau) (ed : Nat → Ed) (scr : Nat → List Itm) (d : Wd), σ = [some (.ref st), some (.ref wa), some (.ref SA), some (.ref EA), some (.ref KA), x5, x6, x7, x8, x9, x10, x11] ∧ TgLe τ0 τ ∧ MB st c wa ch SA EA KA n ea la ed0 ed scr τ (100 * i) (10 * i) clo lo ((n : Int) * i) H0 H' d0 d) ?_ ?_ ?_
  · exact ⟨none, none, none, none, none, none, none, τ1, ed0, scr0, d0, rfl, l1, by simpa using mb0⟩
  · rintro i σ H' hi ⟨x5, x6, x7, x8, x9, x10, x11, τ, ed, scr, d, rfl, le, mb⟩
    clear mb0 tK l1 τ1
    have hi3 : i < 3 := by omega
    have hSA := mb.gs.hS
    have so := mb.gs.so
    have wi := mb.gs.wi
    have nSA : SA ∉ [st, c] := mb.ns mb.gs.tS (by simp)
    iterate 3 ((first | specialize "st" | fail))
    refine ifj (fun v H2 => ∃ mv : Int, v = .int mv ∧ 1 ≤ mv ∧ mv ≤ 3 ∧ MB st c wa ch SA EA KA n ea la ed0 ed scr τ (100 * i) (10 * i) clo lo ((n : Int) * i) H0 H2 d0 d) (fun Q' hQ => ?_) (fun v H2 hR => ?_)
    · repeat' (first | specialize "st" | fail)
      · have hv := List.mem_of_getElem? ej
        simp only [List.mem_cons, List.not_mem_nil, or_false] at hv
        rename_i H3 ke3
        refine hQ _ _ ?_
        have mb3 := (mb.ex ke3).draw ke (by assumption)
        rcases hv with rfl | rfl | rfl | rfl
        · exact ⟨1, rfl, by decide, by decide, mb3⟩
        · exact ⟨1, rfl, by decide, by decide, mb3⟩
        · exact ⟨2, rfl, by decide, by decide, mb3⟩
        · exact ⟨3, rfl, by decide, by decide, mb3⟩
      · exact hQ _ _ ⟨1, rfl, by decide, by decide, mb⟩
    · obtain ⟨mv, rfl, v1, v2, mb2⟩ := hR
      clear mb hSA so wi
      have hSA := mb2.gs.hS
      repeat' (first | specialize "st" | fail)
      intro PA hPA
      obtain ⟨τa, la1, tP, mb3⟩ := mb2.new (Ex.mk (o := .lst []) hPA rfl) hPA (fsome upd_same) (31, 1)
      refine lc_list (xs := frow la n) (fun j H' => ∃ (τ' : Tau) (pa : Nat → Addr), TgLe τa τ' ∧ MB st c wa ch SA EA KA n ea la ed0 ed scr τ' (100 * i) (10 * i) clo lo ((n : Int) * i) H0 H' d0 d ∧ H' PA = some (.lst (frow pa j)) ∧ ∀ k, k < j → τ' (pa k) = some (30, 100 * i + k) ∧ H' (pa k) = some (.lst [])) ?_ ?_ ?_ ?_
      · exact ⟨τa, fun _ => 0, TgLe.refl _, mb3, upd_same, fun k hk => absurd hk (Nat.not_lt_zero k)⟩
      · rintro j H' _ ⟨τ', pa, _, mb, _⟩
        exact sql mb.gs.hS
      · rintro j x H' hx ⟨τ', pa, le', mb, hP, hpa⟩
        have hj : j < n := by
          have := (List.getElem?_eq_some_iff.mp hx).1
          omega
        refine ⟨rfl, ?_⟩
        repeat' (first | specialize "st" | fail)
        obtain ⟨τ2, l2, tp, mb4⟩ := mb.new ke hp (fsome hn) (30, 100 * i + j)
        have hP2 := ke _ _ hP
        refine ⟨_, hP2, sl1000' (by rw [frow_len]; omega), ?_⟩
        generalize hq : upd Hn PA _ = H9
        have k9 := kp_upd hP2 hq
        have h9 := at_new hq
        have tP2 : τ2 PA = some (31, 1) := l2 _ _ (le' _ _ tP)
        refine ⟨τ2, fset pa j p, le'.trans l2, mb4.one k9 (fsome h9) tP2 (.inl ⟨rfl, by decide⟩), by rw [h9, frow_set], fam_step (P := fun k x => τ2 x = some (30, 100 * i + k) ∧ H9 x = some (.lst [])) (fun k hk => ⟨l2 _ _ (hpa k hk).1, k9.out _ _ (fun z => ?_) (ke _ _ (hpa k hk).2)⟩) ⟨tp, k9.out _ _ (fun z => ?_) hn⟩⟩
        · have := l2 _ _ (hpa k hk).1
          rw [List.mem_singleton.mp z, tP2] at this
          cases this
        · rw [List.mem_singleton.mp z, tP2] at tp
          cases tp
      · rintro H4 ⟨τ2, pa, l2, mb4, hP4, hpa⟩
        rw [fln] at hP4 hpa
        have pb4 : PB PA pa n (fun _ => []) ed τ2 (100 * i) 0 H4 := ⟨l2 _ _ tP, hP4, fun k hk => (hpa k hk).1, fun k hk => ⟨[], (hpa k hk).2, .nil⟩, (fun k hk p hp => by cases hp), fun k hk => Nat.le_refl 0⟩
        have lt2 : TgLe τ0 τ2 := (le.trans la1).trans l2
        have so4 := mb4.gs.so
        clear mb3 mb2 hSA l2 la1 tP hPA hP4 hpa
        repeat' (first | specialize "st" | fail)
        have mb5 := mb4.draw ke so
        have pb5 := pb4.draw mb4 ke
        clear mb4 pb4 so so4 ke
        refine w_rng (lo := 0) (n := _) (fun j σ H' => ∃ (x8 x9 x10 x11 : Option V) (ed : Nat → Ed) (d : Wd) (pps : Nat → List (Bool × Int)), σ = [some (.ref st), some (.ref wa), some (.ref SA), some (.ref EA), some (.ref KA), some (.int (0 + (i : Int))), some (.int mv), some (.ref PA), x8, x9, x10, x11] ∧ MB st c wa ch SA EA KA n ea la ed0 ed scr τ2 (100 * i) (10 * i) clo lo ((n : Int) * i) H0 H' d0 d ∧ PB PA pa n pps ed τ2 (100 * i) (2 * j) H') ?_ ?_ ?_
        · exact ⟨x8, x9, x10, x11, ed, d, fun _ => [], rfl, mb5, pb5⟩
        · rintro j σ H' hj ⟨x8, x9, x10, x11, ed, d, pps, rfl, mb, pb⟩
          clear mb5 pb5
          have hj3 : j < 3 := by omega
          have hSA := mb.gs.hS
          have so := mb.gs.so
          iterate 50 ((first | specialize "st" | fail))
          rename_i gd A1 g0 g1 k1 s1
          rw [fln] at g1 n1
          simp only [fln]
          obtain ⟨g, rfl⟩ : ∃ g : Nat, gd = (g : Int) := ⟨gd.toNat, by omega⟩
          obtain ⟨t0, t1, t2⟩ := tk_ne hn2 hn4 g0 g1 n0 n1
          obtain ⟨t, et⟩ : ∃ t : Nat, ((g : Int) + 1 + dn) % (n : Int) = (t : Int) := ⟨(((g : Int) + 1 + dn) % (n : Int)).toNat, by omega⟩
          rw [et] at t0 t1 t2
          simp only [et]
          have hg : g < n := by omega
          have ht : t < n := by omega
          have ne : g ≠ t := by omega
          have mbc := (mb.draw k1 s1).draw ke so
          have pbc := (pb.draw mb k1).draw (mb.draw k1 s1) ke
          obtain ⟨A2, rfl⟩ : ∃ x, x = Hn := ⟨_, rfl⟩
          clear mb pb hSA s1 k1 ke so
          refine ifsj (fun σ' H2 => σ' = [some (.ref st), some (.ref wa), some (.ref SA), some (.ref EA), some (.ref KA), some (.int (0 + (i : Int))), some (.int mv), some (.ref PA), some (.int (0 + (j : Int))), some (.int g), some (.int t), x11] ∧ ∃ (ed : Nat → Ed) (d : Wd), MB st c wa ch SA EA KA n ea la ed0 ed scr τ2 (100 * i) (10 * i) clo lo ((n : Int) * i) H0 H2 d0 d ∧ PB PA pa n pps ed τ2 (100 * i) (2 * j) H2) (fun nx' hn' => ?_) (fun σ' H2 hR => ?_)
          · obtain ⟨kvs, hk, hkl, hkv⟩ := mbc.kn
            have wi := mbc.gs.wi
            have hch := wi.hc
            repeat' (first | specialize "st" | fail)
            refine ⟨KA, valV kvs (kk2 (g, t)), rfl, DGet.t (ke _ _ hk) hn, ?_⟩
            cases hv : valV kvs (kk2 (g, t)) with
            | some v =>
              refine ⟨false, rfl, ?_⟩
              repeat' (first | specialize "st" | fail)
              exact hn' _ _ ⟨rfl, ed, d, mbc.ex ke, pbc.ex ke⟩
            | none =>
              refine ⟨true, rfl, ?_⟩
              repeat' (first | specialize "st" | fail)
              · rename_i p1 A3 hp1 e1 hn1 cl
                have mbB := (mbc.ex e1).ex ke
                have pbB := (pbc.ex e1).ex ke
                have hkB := ke _ _ (e1 _ _ hk)
                have hchB := ke _ _ (e1 _ _ hch)
                have wiB := mbB.gs.wi
                obtain ⟨B0, rfl⟩ : ∃ x, x = Hn := ⟨_, rfl⟩
                obtain ⟨pB, rfl⟩ : ∃ x, x = p := ⟨_, rfl⟩
                have hnB := hn
                have tKA := mbB.tK
                have tch := mbB.gs.t4
                have twa := mbB.gs.t3
                have tEA := mbB.gs.tE
                obtain ⟨tg1, _, _, _, tg5, _⟩ := mbB.gs.te g hg
                obtain ⟨tt1, _, _, _, _, tt6⟩ := mbB.gs.te t ht
                obtain ⟨⟨kg, hge, _, _, _, _, hgg, _⟩, _, _, hgl, _, _⟩ := mbB.gs.ee g hg
                obtain ⟨⟨kt, hte, _, _, _, _, _, htt⟩, _, _, _, htl, _⟩ := mbB.gs.ee t ht
                have hEA := mbB.gs.hE
                have glen : (ed g).gives.length < 1000 ∧ (ed t).takes.length < 1000 := by
                  have q1 := (mbB.len hg).1
                  have q2 := (mbB.len ht).2
                  omega
                simp only [List.length_map] at cl ⊢
                clear hk hch wi e1 hp1 hn1 hp hn ke mbc pbc
                refine ⟨KA, _, rfl, DPut.t (k := kk2 ((g : Int), (t : Int))) hkB hnB (sl1000' (by omega)), ?_⟩
                generalize hq1 : upd B0 KA _ = HA
                have kA : Kp [KA] B0 HA := by
                  rw [← hq1]
                  exact kp_one hkB (by intro _ z; cases z)
                have hA := at_new hq1
                clear hq1
                have wiA : WIn wa ch d HA := wiB.kp kA (fun z => ne_tg twa tKA (by intro q; cases q) (List.mem_singleton.mp z)) (fun z => ne_tg tch tKA (by intro q; cases q) (List.mem_singleton.mp z))
                repeat' (first | specialize "st" | fail)
                have k2 := ku
                have h2 := hu
                obtain ⟨HB, rfl⟩ : ∃ x, x = Hn := ⟨_, rfl⟩
                refine q_ixL (sql (by (first | exists "lift" | fail))) (atI_nat (frow_at hg)) ?_
                repeat' (first | specialize "st" | fail)
                refine ⟨KA, .int d.chs.length, rfl, ?_, ?_⟩
                · have := DGet.t (k := kk2 ((g : Int), (t : Int))) (show Hn KA = some (.dT (putK kvs (kk2 ((g : Int), (t : Int))) (.int d.chs.length))) by (first | exists "lift" | fail)) hn
                  rw [valV_put, if_pos rfl] at this
                  exact this
                obtain ⟨HC, rfl⟩ : ∃ x, x = Hn := ⟨_, rfl⟩
                have e2 : Ex HB HC := ke
                repeat' (first | specialize "st" | fail)
                obtain ⟨HD, rfl⟩ : ∃ x, x = Hn := ⟨_, rfl⟩
                have k3 : Kp [(ea g).ga] HC HD := ku
                have h3 := hu
                refine q_ixL (sql (by (first | exists "lift" | fail))) (atI_nat (frow_at ht)) ?_
                repeat' (first | specialize "st" | fail)
                refine ⟨KA, .int d.chs.length, rfl, ?_, ?_⟩
                · have := DGet.t (k := kk2 ((g : Int), (t : Int))) (show Hn KA = some (.dT (putK kvs (kk2 ((g : Int), (t : Int))) (.int d.chs.length))) by (first | exists "lift" | fail)) hn
                  rw [valV_put, if_pos rfl] at this
                  exact this
                repeat' (first | specialize "st" | fail)
                obtain ⟨m9, p9⟩ := MB.chan mbB pbB hg ht ne hv (by omega) hkl hkv kA hA k2 h2 e2 k3 h3 ke ku hu
                exact hn' _ _ ⟨rfl, _, _, m9, p9⟩
              · exact hn' _ _ ⟨rfl, ed, d, mbc.ex ke, pbc.ex ke⟩
          · obtain ⟨rfl, ed, d, mb, pb⟩ := hR
            obtain ⟨kvs, hk, hkl, hkv⟩ := mb.kn
            clear mbc pbc
            repeat' (first | specialize "st" | fail)
            refine ⟨KA, valV kvs (kk2 ((g : Int), (t : Int))), rfl, DGet.t (ke _ _ hk) hn, ?_⟩
            cases hv : valV kvs (kk2 ((g : Int), (t : Int))) with
            | none =>
              refine ⟨false, rfl, ?_⟩
              repeat' (first | specialize "st" | fail)
              have pb2 := pb.ex ke
              exact ⟨_, _, _, _, ed, d, pps, rfl, mb.ex ke, pb2.tP, pb2.hP, pb2.tp, pb2.hp, pb2.fp, fun k hk => Nat.le_trans (pb2.lp k hk) (by omega)⟩
            | some v =>
              obtain ⟨x, rfl, hxg, hxt⟩ := hkv g t v hg ht hv
              refine ⟨true, rfl, ?_⟩
              obtain ⟨xg, hxg1, hxg2⟩ := pb.hp g hg
              have hxgl : xg.length ≤ 100 := by
                rw [Paired.length hxg2]
                exact Nat.le_trans (pb.lp g hg) (by omega)
              have hPA := pb.hP
              have hKs := hk
              repeat' (first | specialize "st" | fail)
              refine q_ixL (sql (by (first | exists "lift" | fail))) (atI_nat (frow_at hg)) ?_
              repeat' (first | specialize "st" | fail)
              refine ⟨KA, .int x, rfl, ?_, ?_⟩
              · have := DGet.t (k := kk2 ((g : Int), (t : Int))) (show Hn KA = some (.dT kvs) by (first | exists "lift" | fail)) hn
                rw [hv] at this
                exact this
              have hlx : xg.length < 100000 := by omega
              repeat' (first | specialize "st" | fail)
              rename_i p1 A1 hp1 e1 hn1 p2 A2 hp2 e2 hn2 A3
              have mb1 := ((mb.ex e1).ex e2).ex ke
              have pb1 := ((pb.ex e1).ex e2).ex ke
              have eA : Ex H2 A3 := (e1.trans e2).trans ke
              have hne : Hn (pa g) ≠ none := fsome hu
              have mb6 := mb1.one ku hne (pb1.tp g hg) (.inr ⟨rfl, by omega⟩)
              have pb6 := pb1.app hg ku (eA _ _ hxg1) (Pts.up (M := []) eA.kp hxg2) hu (p := (true, x)) hn ⟨fun _ => hxg, fun z => by cases z⟩
              have hk6 : Hn KA = some (.dT kvs) := ku.out _ _ (fun z => by
                have := mb1.tK
                rw [List.mem_singleton.mp z, pb1.tp g hg] at this
                cases this) (eA _ _ hk)
              obtain ⟨H5, rfl⟩ : ∃ x, x = Hn := ⟨_, rfl⟩
              obtain ⟨xt, hxt1, hxt2⟩ := pb6.hp t ht
              have hxtl : xt.length < 100000 := by
                rw [Paired.length hxt2]
                have := pb6.lp t ht
                omega
              have hPA6 := pb6.hP
              clear mb pb hk hPA hKs hxg1 hxg2 e1 e2 ke hn hn1 hn2 ku hu hp hp1 hp2 hne mb1 pb1 eA
              refine q_ixL (sql (by (first | exists "lift" | fail))) (atI_nat (frow_at ht)) ?_
              repeat' (first | specialize "st" | fail)
              refine ⟨KA, .int x, rfl, ?_, ?_⟩
              · have := DGet.t (k := kk2 ((g : Int), (t : Int))) (show Hn KA = some (.dT kvs) by (first | exists "lift" | fail)) hn
                rw [hv] at this
                exact this
              repeat' (first | specialize "st" | fail)
              rename_i p1 A1 hp1 e1 hn1 A3
              have mb1 := (mb6.ex e1).ex ke
              have pb1 := (pb6.ex e1).ex ke
              have eA : Ex H5 A3 := e1.trans ke
              have mb7 := mb1.one ku (fsome hu) (pb1.tp t ht) (.inr ⟨rfl, by omega⟩)
              have pb7 := pb1.app ht ku (eA _ _ hxt1) (Pts.up (M := []) eA.kp hxt2) hu (p := (false, x)) hn ⟨fun z => (by cases z), fun _ => hxt⟩
              exact ⟨_, _, _, _, ed, d, _, rfl, mb7, pb7.tP, pb7.hP, pb7.tp, pb7.hp, pb7.fp, fun k hk => Nat.le_trans (pb7.lp k hk) (by omega)⟩
        · rintro σ H' ⟨x8, x9, x10, x11, ed, d, pps, rfl, mb, pb⟩
          clear mb5 pb5
          have hd3 : 2 * (1 + dn).toNat ≤ 6 := by omega
          have pb6 : PB PA pa n pps ed τ2 (100 * i) 6 H' := ⟨pb.tP, pb.hP, pb.tp, pb.hp, pb.fp, fun k hk => Nat.le_trans (pb.lp k hk) hd3⟩
          have hSA := mb.gs.hS
          clear pb
          repeat' (first | specialize "st" | fail)
          refine w_rng (lo := 0) (n := _) (fun k σ H' => ∃ (x8 x9 x10 x11 : Option V) (scr' : Nat → List Itm) (d : Wd), σ = [some (.ref st), some (.ref wa), some (.ref SA), some (.ref EA), some (.ref KA), some (.int (0 + (i : Int))), some (.int mv), some (.ref PA), x8, x9, x10, x11] ∧ MB st c wa ch SA EA KA n ea la ed0 ed scr' τ2 (100 * (i + 1)) (10 * (i + 1)) clo lo ((n : Int) * i + k) H0 H' d0 d ∧ PB PA pa n pps ed τ2 (100 * i) 6 H' ∧ ∀ k', k ≤ k' → scr' k' = scr k') ?_ ?_ ?_
          · have mb1 := mb.more (B' := 100 * (i + 1)) (by omega)
            exact ⟨x8, x9, x10, x11, scr, d, rfl, ⟨mb1.gs, mb1.sep, mb1.ev, by have := mb1.ce; omega, mb1.sm, fun k hk => Nat.le_trans (mb1.sl k hk) (by omega), mb1.tK, mb1.kn⟩, pb6, fun _ _ => rfl⟩
          · have hsl := mb.sl
            rintro k σ H' hk ⟨x8, x9, x10, x11, scr', d, rfl, mb, pb, hsc⟩
            have hkn : k < n := by
              rw [fln] at hk
              omega
            obtain ⟨xk, hxk1, hxk2⟩ := pb.hp k hkn
            obtain ⟨ys, hys1, hys2⟩ := mb.gs.ll k hkn
            have hPA := pb.hP
            have hSA := mb.gs.hS
            have wi := mb.gs.wi
            have twa := mb.gs.t3
            have tla := mb.gs.tl k hkn
            have tpa := pb.tp k hkn
            have tPA := pb.tP
            have tSA := mb.gs.tS
            have hxl : xk.length ≤ 6 := by
              rw [Paired.length hxk2]
              exact pb.lp k hkn
            have hs1 : scr' k = scr k := hsc k (Nat.le_refl k)
            have hyl : ys.length ≤ 30 := by
              rw [Paired.length hys2, hs1]
              exact Nat.le_trans (hsl k hkn) (by omega)
            have hcl : lo ≤ d.cells := by
              have := mb.ev.ce
              omega
            have ext : ∀ Hn, Kp [la k] H' Hn → Hn (la k) = some (.lst (ys ++ xk)) → MB st c wa ch SA EA KA n ea la ed0 ed (gset scr' k (scr' k ++ (pps k).map fun p => Itm.gt p.1 p.2 true)) τ2 (100 * (i + 1)) (10 * (i + 1)) clo lo ((n : Int) * i + ((k + 1 : Nat) : Int)) H0 Hn d0 d ∧ PB PA pa n pps ed τ2 (100 * i) 6 Hn := by
              intro Hn ku hu
              refine ⟨(mb.scr (more := (pps k).map fun p => Itm.gt p.1 p.2 true) (L' := 10 * (i + 1)) hkn ku hu (pair_app (Paired.mapP hys2 fun v it q => q.up ku (TgLe.refl _) (Nat.le_refl _) fun x hx j' hj' => ?_) (its_gts (Pts.up ku hxk2))) (fun it hit => ?_) (fun y hy => ?_) (fun i' _ _ y hy => ?_) ?_ (Nat.le_refl _)).mup (by omega), pb.one ku tla (by simp) (by intro z; cases z)⟩
              · rw [List.mem_singleton.mp hx, tla] at hj'
                cases hj'
              · obtain ⟨p, hp, rfl⟩ := List.mem_map.mp hit
                exact ⟨pb.fp k hkn p hp, fun _ => Nat.le_refl 2⟩
              · rw [ctr_gts] at hy
                cases hy
              · rw [ctr_gts] at hy
                cases hy
              · rw [hs1, List.length_map]
                have h1 := hsl k hkn
                have h2 := pb.lp k hkn
                omega
            repeat' (first | specialize "st" | fail)
            refine q_ixL (sql (by (first | exists "lift" | fail))) (frow_atI hkn) ?_
            repeat' (first | specialize "st" | fail)
            all_goals refine q_ixL (sql hSA) (frow_atI hkn) ?_
            all_goals repeat' (first | specialize "st" | fail)
            all_goals refine q_ixL (sql (by (first | exists "lift" | fail))) (frow_atI hkn) ?_
            · repeat' (first | specialize "st" | fail)
              rename_i A1 A2
              have mb1 := (mb.cells kw wi).ex ke
              have pb1 := (pb.one kw twa (by simp) (by intro z; cases z)).ex ke
              obtain ⟨xk', hxk1', hxk2'⟩ := pb1.hp k hkn
              have hpk : Hn (pa k) = some (.lst xk') := ku.out _ _ (fun z => by
                rw [List.mem_singleton.mp z, tla] at tpa
                cases tpa) hxk1'
              obtain ⟨ys', hys1', hys2'⟩ := mb1.gs.ll k hkn
              have eys : ys' = ys := by
                have h1 : A2 (la k) = some (.lst ys) := by (first | exists "lift" | fail)
                rw [h1] at hys1'
                cases hys1'
                rfl
              subst eys
              have m9 := (mb1.scr (more := [Itm.loop mv (pps k) d.cells]) (L' := 10 * (i + 1)) hkn ku hu (pair_app (Paired.mapP hys2' fun v it q => q.up ku (TgLe.refl _) (Nat.le_refl _) fun x hx j' hj' => by
                  rw [List.mem_singleton.mp hx, tla] at hj'
                  cases hj') (.cons ⟨p, pa k, xk', rfl, ku.tup _ _ hn, hpk, ⟨_, tpa, by omega⟩, Pts.up ku hxk2'⟩ .nil)) (fun it hit => ?_) (fun y hy => ?_) (fun i' hi' _ y hy z => ?_) ?_ (Nat.le_refl _)).mup (m' := (n : Int) * i + ((k + 1 : Nat) : Int)) (by omega)
              · exact ⟨_, _, _, _, _, _, rfl, m9, pb1.one ku tla (by simp) (by intro z; cases z), fun k' hk' => by rw [gset_ne (by omega)]; exact hsc k' (by omega)⟩
              · rw [List.mem_singleton.mp hit]
                refine ⟨⟨by omega, v2, ?_, Nat.le_trans (pb.lp k hkn) (by decide), pb.fp k hkn⟩, Nat.le_refl 2⟩
                simp [ctr, ctr1]
              · have hy' : y = d.cells := by simpa [ctr, ctr1] using hy
                rw [hy']
                exact ⟨hcl, by show d.cells < d.cells + 1; omega⟩
              · have hy' : y = d.cells := by simpa [ctr, ctr1] using hy
                rw [hy'] at z
                have := (mb.sep.rb i' hi' _ z).2
                omega
              · rw [hs1]
                have h1 := hsl k hkn
                show (scr k).length + 1 ≤ _
                omega
            all_goals
              repeat' (first | specialize "st" | fail)
              refine q_extN (xs := ys) (zs := xk) (by (first | exists "lift" | fail)) (by (first | exists "lift" | fail)) (by omega) ?_
              intro Hn ku hu
              repeat' (first | specialize "st" | fail)
              obtain ⟨m9, p9⟩ := ext Hn ku hu
              exact ⟨_, _, _, _, _, d, rfl, m9, p9, fun k' hk' => by rw [gset_ne (by omega)]; exact hsc k' (by omega)⟩
          · rintro σ H' ⟨x8, x9, x10, x11, scr', d, rfl, mb, pb, _⟩
            refine ⟨_, _, _, _, _, _, _, τ2, ed, scr', d, rfl, lt2, ⟨mb.gs, mb.sep, mb.ev, ?_, mb.sm, mb.sl, mb.tK, mb.kn⟩⟩
            have h1 := mb.ce
            rw [fln] at h1
            have h2 : (n : Int) * ((i + 1 : Nat) : Int) = (n : Int) * i + n := by
              rw [show ((i + 1 : Nat) : Int) = (i : Int) + 1 by omega, Int.mul_add, Int.mul_one]
            rw [h2]
            omega
  · rintro σ H' ⟨x5, x6, x7, x8, x9, x10, x11, τ, ed, scr, d, rfl, le, mb⟩
    obtain ⟨k, ek⟩ : ∃ k, k = (1 + dn).toNat := ⟨_, rfl⟩
    rw [← ek] at mb
    have hk : k ≤ 3 := by omega
    have hnk : (n : Int) * k ≤ n * 3 := Int.mul_le_mul_of_nonneg_left (by omega) (by omega)
    have hce := mb.ce
    exact q ed scr τ d H' le (mb.gs.more (by omega)) (eclo ▸ mb.sep) mb.ev (by omega) mb.sm (fun k hk => Nat.le_trans (mb.sl k hk) (by omega))
abbrev s__law_shared : Stmt := topS 38
theorem sc__law_shared : FnScope ["_law_state_here", "_law_env_here", "_law_envs", "_law_scripts", "_law_cell", "_law_c", "_law_at", "_law_k"] ["_law_state_here", "_law_env_here", "_law_envs", "_law_scripts"] (defScope s__law_shared) := ⟨rfl, rfl, rfl, by decide +kernel, rfl, by decide +kernel, by decide +kernel⟩
abbrev p__law_shared : List Str := ["_law_state_here", "_law_env_here", "_law_envs", "_law_scripts"]
section
variable {n j i : Nat} {ed : Nat → Ed} {scr : Nat → List Itm} {x y : Int}
theorem bfr_readW (h : (bfr (gset ed j { ed j with reads := (ed j).reads ++ [x] }) scr i).W y) : (bfr ed scr i).W y := by
  by_cases q : i = j
  · subst q; unfold bfr at h; rw [gset_eq] at h; exact h
  · unfold bfr at h; rw [gset_ne q] at h; exact h
theorem bfr_readR (h : (bfr (gset ed j { ed j with reads := (ed j).reads ++ [x] }) scr i).R y) : (bfr ed scr i).R y ∨ i = j ∧ y = x := by
  by_cases q : i = j
  · subst q
    unfold bfr at h
    rw [gset_eq] at h
    rcases h with h | h
    · exact (mem_snoc h).imp .inl fun e => ⟨rfl, e⟩
    · exact .inl (.inr h)
  · unfold bfr at h; rw [gset_ne q] at h; exact .inl h
theorem bfr_cellR (h : (bfr (gset ed j { ed j with cells := (ed j).cells ++ [x] }) scr i).R y) : (bfr ed scr i).R y := by
  by_cases q : i = j
  · subst q; unfold bfr at h; rw [gset_eq] at h; exact h
  · unfold bfr at h; rw [gset_ne q] at h; exact h
end
theorem frow_gset {la : Nat → Addr} {n j : Nat} {p : Addr} (hj : j < n) : (frow la n).set j (.ref p) = frow (gset la j p) n := by
  apply List.ext_getElem?
  intro i
  rw [List.getElem?_set]
  by_cases q : j = i
  · subst q
    rw [if_pos rfl, frow_len, if_pos hj, frow_at hj, gset_eq]
  · rw [if_neg q]
    by_cases h : i < n
    · rw [frow_at h, frow_at h, gset_ne (Ne.symm q)]
    · rw [List.getElem?_eq_none (by rw [frow_len]; omega), List.getElem?_eq_none (by rw [frow_len]; omega)]
theorem GS.relist {st c wa ch SA EA : Addr} {n : Nat} {ea : Nat → Ea} {la : Nat → Addr} {ed : Nat → Ed} {scr : Nat → List Itm} {τ : Tau} {B : Nat} {H0 H H' : Hp} {d : Wd} {j : Nat} {p : Addr} {ys : List V} {its : List Itm} (g : GS st c wa ch SA EA n ea la ed scr τ B H0 H d) (_hj : j < n) (k : Kp [SA] H H') (hS : H' SA = some (.lst (frow (gset la j p) n))) (tp : τ p = some (26, j)) (hp : H' p = some (.lst ys)) (hi : ItsT τ B H' ys its) :
    GS st c wa ch SA EA n ea (gset la j p) ed (gset scr j its) τ B H0 H' d := by
  have hx := g.tS
  obtain ⟨n1, n2, n3, n4⟩ := g.nin hx (by simp)
  have ne : ∀ y t, τ y = some t → t ≠ (28, 0) → y ∉ [SA] := fun y t hy q z => by
    rw [List.mem_singleton.mp z, hx] at hy
    exact q (Option.some.inj hy).symm
  refine ⟨kp_fresh g.kp k (fun y hy => ?_), st_out k g.so n1 n2, g.wi.kp k n3 n4, g.tg.al (al_one k (fsome hS)), g.fr, g.t1, g.t2, g.t3, g.t4, g.tS, g.tE, hS, k.out _ _ (ne _ _ g.tE (by intro z; cases z)) g.hE, g.te, fun i hi => ?_, fun i hi => ?_, fun i hi2 => ?_⟩
  · rw [List.mem_singleton.mp hy]
    exact .inr (g.fr _ _ hx (by simp))
  · refine (g.ee i hi).kp k fun y hy => ?_
    obtain ⟨f', f0, f1, hf⟩ := (g.te i hi).all y hy
    exact ne y _ hf (fun z => by have := (Prod.mk.inj z).1; omega)
  · by_cases q : i = j
    · subst q
      rw [gset_eq]
      exact tp
    · rw [gset_ne q]
      exact g.tl i hi
  · by_cases q : i = j
    · subst q
      rw [gset_eq, gset_eq]
      exact ⟨ys, hp, hi⟩
    · rw [gset_ne q, gset_ne q]
      obtain ⟨xs, hl3, hi3⟩ := g.ll i hi2
      refine ⟨xs, k.out _ _ (ne _ _ (g.tl i hi2) (by intro z; cases z)) hl3, Paired.mapP hi3 fun v it q => q.up k (TgLe.refl _) (Nat.le_refl _) fun y hy j' hj' => ?_⟩
      rw [List.mem_singleton.mp hy, hx] at hj'
      cases hj'
theorem nd_inj : ∀ {xs : List Int} {i j : Nat} {x : Int}, xs.Nodup → xs[i]? = some x → xs[j]? = some x → i = j
  | [], _, _, _, _, h, _ => by simp at h
  | y :: r, 0, 0, _, _, _, _ => rfl
  | y :: r, 0, j + 1, x, nd, h, g => by
    simp at h g
    subst h
    exact absurd (List.mem_of_getElem? g) (List.nodup_cons.mp nd).1
  | y :: r, i + 1, 0, x, nd, h, g => by
    simp at h g
    subst g
    exact absurd (List.mem_of_getElem? h) (List.nodup_cons.mp nd).1
  | y :: r, i + 1, j + 1, x, nd, h, g => by
    have := nd_inj (List.nodup_cons.mp nd).2 (by simpa using h) (by simpa using g)
    omega
/-- the shared cells: i of them are given -/
structure ShI (n : Nat) (ed0 ed : Nat → Ed) (scr : Nat → List Itm) (eo : Ed) (P C D : Int → Prop) (i : Nat) : Prop where
  sep : Sep n ed scr P C D
  un : ∀ i' x, i ≤ i' → eo.cells[i']? = some x → ∀ k, k < n → ¬ (bfr ed scr k).R x
  cl : ∀ k, k < n → (ed k).cells.length ≤ 2 + i ∧ (ed k).reads.length ≤ 2 + i
  sm : ∀ k, k < n → (ed k).gives = (ed0 k).gives ∧ (ed k).takes = (ed0 k).takes ∧ (ed k).spans = (ed0 k).spans
  c1 : ∀ k, k < n → 1 ≤ (ed k).cells.length
/-- one cell x at a, to the first k branches -/
structure ShK (n : Nat) (ed0 ed : Nat → Ed) (scr : Nat → List Itm) (eo : Ed) (P C D : Int → Prop) (i : Nat) (x : Int) (a : Int) (k : Nat) : Prop where
  sep : Sep n ed scr P C D
  un : ∀ i' x, i + 1 ≤ i' → eo.cells[i']? = some x → ∀ k, k < n → ¬ (bfr ed scr k).R x
  cl : ∀ k', k' < n → (ed k').cells.length ≤ 2 + i ∧ (ed k').reads.length ≤ 2 + i + 1 ∧ (k ≤ k' → (ed k').reads.length ≤ 2 + i)
  sm : ∀ k, k < n → (ed k).gives = (ed0 k).gives ∧ (ed k).takes = (ed0 k).takes ∧ (ed k).spans = (ed0 k).spans
  nw : ∀ k', k' < n → ¬ (bfr ed scr k').W x
  nr : ∀ k', k' < n → (bfr ed scr k').R x → a = n ∨ a = k'
  yr : ∀ k' : Nat, k' < n → k' < k → a = k' → x ∈ (ed k').reads
  c1 : ∀ k, k < n → 1 ≤ (ed k).cells.length
section
variable {n : Nat} {ed0 ed : Nat → Ed} {scr : Nat → List Itm} {eo : Ed} {P C D : Int → Prop} {i k : Nat} {x a : Int}
theorem ShI.start (h : ShI n ed0 ed scr eo P C D i) (hx : eo.cells[i]? = some x) : ShK n ed0 ed scr eo P C D i x a 0 :=
  ⟨h.sep, fun i' y hi => h.un i' y (by omega), fun k' hk => ⟨(h.cl k' hk).1, by have := (h.cl k' hk).2; omega, fun _ => (h.cl k' hk).2⟩, h.sm, fun k' hk z => h.un i x (Nat.le_refl i) hx k' hk (h.sep.wr hk x z), fun k' hk z => absurd z (h.un i x (Nat.le_refl i) hx k' hk), fun k' _ hk => absurd hk (Nat.not_lt_zero _), h.c1⟩
theorem ShK.skip (h : ShK n ed0 ed scr eo P C D i x a k) (q : ¬ a = k) : ShK n ed0 ed scr eo P C D i x a (k + 1) :=
  ⟨h.sep, h.un, fun k' hk => ⟨(h.cl k' hk).1, (h.cl k' hk).2.1, fun z => (h.cl k' hk).2.2 (by omega)⟩, h.sm, h.nw, h.nr, fun k' hk hl e => by
    have : k' < k := by
      by_cases z : k' = k
      · subst z; exact absurd e q
      · omega
    exact h.yr k' hk this e, h.c1⟩
theorem ShK.read (h : ShK n ed0 ed scr eo P C D i x a k) (nd : eo.cells.Nodup) (hx : eo.cells[i]? = some x) (hP : P x) (hk : k < n) (q : a = k ∨ a = n) : ShK n ed0 (gset ed k { ed k with reads := (ed k).reads ++ [x] }) scr eo P C D i x a (k + 1) := by
  refine ⟨h.sep.read1 hk hP fun i' hi _ => h.nw i' hi, fun i' y hi hy k' hk' z => ?_, fun k' hk' => ?_, fun k' hk' => ?_, fun k' hk' z => h.nw k' hk' (bfr_readW z), fun k' hk' z => ?_, fun k' hk' hl e => ?_, fun k' hk' => ?_⟩
  · rcases bfr_readR z with z | ⟨_, e⟩
    · exact h.un i' y hi hy k' hk' z
    · subst e
      have := nd_inj nd hx hy
      omega
  · by_cases w : k' = k
    · subst w
      rw [gset_eq]
      have h1 := h.cl k' hk'
      refine ⟨h1.1, ?_, fun z => by omega⟩
      have := h1.2.2 (Nat.le_refl _)
      show ((ed k').reads ++ [x]).length ≤ _
      rw [List.length_append, List.length_singleton]
      omega
    · rw [gset_ne w]
      have h1 := h.cl k' hk'
      exact ⟨h1.1, h1.2.1, fun z => h1.2.2 (by omega)⟩
  · by_cases w : k' = k
    · subst w
      rw [gset_eq]
      exact h.sm k' hk'
    · rw [gset_ne w]
      exact h.sm k' hk'
  · rcases bfr_readR z with z | ⟨e1, _⟩
    · exact h.nr k' hk' z
    · subst e1
      exact q.symm
  · by_cases w : k' = k
    · subst w
      rw [gset_eq]
      exact List.mem_append_right _ (List.mem_singleton.mpr rfl)
    · rw [gset_ne w]
      exact h.yr k' hk' (by omega) e
  · by_cases w : k' = k
    · subst w
      rw [gset_eq]
      exact h.c1 k' hk'
    · rw [gset_ne w]
      exact h.c1 k' hk'
theorem ShK.none (h : ShK n ed0 ed scr eo P C D i x a n) : ShI n ed0 ed scr eo P C D (i + 1) :=
  ⟨h.sep, h.un, fun k hk => ⟨by have := (h.cl k hk).1; omega, by have := (h.cl k hk).2.1; omega⟩, h.sm, h.c1⟩
theorem ShK.cell {j : Nat} (h : ShK n ed0 ed scr eo P C D i x a n) (hj : j < n) (ea : a = j) : ShI n ed0 (gset ed j { ed j with cells := (ed j).cells ++ [x] }) scr eo P C D (i + 1) := by
  refine ⟨h.sep.cell1 hj (h.yr j hj hj ea) (fun z => h.nw j hj (.inl z)) (fun i' hi ne z => ?_), fun i' y hi hy k' hk' z => h.un i' y hi hy k' hk' (bfr_cellR z), fun k' hk' => ?_, fun k' hk' => ?_, fun k' hk' => ?_⟩
  · have := h.nr i' hi z
    omega
  · by_cases w : k' = j
    · subst w
      rw [gset_eq]
      have h1 := h.cl k' hk'
      refine ⟨?_, by have := h1.2.1; show (ed k').reads.length ≤ _; omega⟩
      show ((ed k').cells ++ [x]).length ≤ _
      rw [List.length_append, List.length_singleton]
      omega
    · rw [gset_ne w]
      have h1 := h.cl k' hk'
      exact ⟨by omega, by omega⟩
  · by_cases w : k' = j
    · subst w
      rw [gset_eq]
      exact h.sm k' hk'
    · rw [gset_ne w]
      exact h.sm k' hk'
  · by_cases w : k' = j
    · subst w
      rw [gset_eq]
      show 1 ≤ ((ed k').cells ++ [x]).length
      rw [List.length_append, List.length_singleton]
      omega
    · rw [gset_ne w]
      exact h.c1 k' hk'
end
/-- the shared channels: i of them are given -/
structure ShC (n : Nat) (ed0 ed : Nat → Ed) (scr : Nat → List Itm) (eo : Ed) (P C D : Int → Prop) (i j L : Nat) : Prop where
  sep : Sep n ed scr P C D
  ug : ∀ i' x, i ≤ i' → eo.gives[i']? = some x → ∀ k, k < n → x ∉ (ed k).gives
  ut : ∀ i' x, j ≤ i' → eo.takes[i']? = some x → ∀ k, k < n → x ∉ (ed k).takes
  sm : ∀ k, k < n → (ed k).cells = (ed0 k).cells ∧ (ed k).reads = (ed0 k).reads ∧ (ed k).spans = (ed0 k).spans
  sl : ∀ k, k < n → (scr k).length ≤ L
  ln : ∀ k, k < n → (ed k).gives.length ≤ 24 + i ∧ (ed k).takes.length ≤ 24 + j
section
variable {n : Nat} {ed0 ed : Nat → Ed} {scr : Nat → List Itm} {eo : Ed} {P C D : Int → Prop} {i j L a m : Nat} {x : Int}
theorem ctr_rep {b : Bool} {z : Bool} : ctr (List.replicate m (Itm.gt b x z)) = [] := by
  induction m with
  | zero => rfl
  | succ m ih =>
    simp only [ctr, List.replicate_succ, List.flatMap_cons, ctr1, List.nil_append] at ih ⊢
    exact ih
theorem ShC.give (h : ShC n ed0 ed scr eo P C D i j L) (nd : eo.gives.Nodup) (hx : eo.gives[i]? = some x) (hC : C x) (ha : a < n) (hm : m ≤ 2) : ShC n ed0 (gset ed a { ed a with gives := (ed a).gives ++ [x] }) (gset scr a (scr a ++ List.replicate m (Itm.gt true x true))) eo P C D (i + 1) j (L + 2) := by
  have s1 := h.sep.give1 ha hC (h.ug i x (Nat.le_refl i) hx)
  refine ⟨s1.scr1 ha (fun it hit => ?_) (fun y hy => by rw [ctr_rep] at hy; cases hy) (fun _ _ _ y hy => by rw [ctr_rep] at hy; cases hy), fun i' y hi hy k hk z => ?_, fun i' y hi hy k hk z => ?_, fun k hk => ?_, fun k hk => ?_, fun k hk => ?_⟩
  · rw [(List.mem_replicate.mp hit).2, gset_eq]
    exact ⟨⟨fun _ => List.mem_append_right _ (List.mem_singleton.mpr rfl), fun z => by cases z⟩, fun _ => Nat.le_refl 2⟩
  · by_cases w : k = a
    · subst w
      rw [gset_eq] at z
      rcases mem_snoc z with z | e
      · exact h.ug i' y (by omega) hy k hk z
      · subst e
        have := nd_inj nd hx hy
        omega
    · rw [gset_ne w] at z
      exact h.ug i' y (by omega) hy k hk z
  · by_cases w : k = a
    · subst w
      rw [gset_eq] at z
      exact h.ut i' y hi hy k hk z
    · rw [gset_ne w] at z
      exact h.ut i' y hi hy k hk z
  · by_cases w : k = a
    · subst w
      rw [gset_eq]
      exact h.sm k hk
    · rw [gset_ne w]
      exact h.sm k hk
  · by_cases w : k = a
    · subst w
      rw [gset_eq, List.length_append, List.length_replicate]
      have := h.sl k hk
      omega
    · rw [gset_ne w]
      have := h.sl k hk
      omega
  · by_cases w : k = a
    · subst w
      rw [gset_eq]
      have := h.ln k hk
      refine ⟨?_, ?_⟩
      · show ((ed k).gives ++ [x]).length ≤ _
        rw [List.length_append, List.length_singleton]
        omega
      · exact this.2
    · rw [gset_ne w]
      have := h.ln k hk
      omega
theorem ShC.take (h : ShC n ed0 ed scr eo P C D i j L) (nd : eo.takes.Nodup) (hx : eo.takes[j]? = some x) (hD : D x) (ha : a < n) (hm : m ≤ 2) : ShC n ed0 (gset ed a { ed a with takes := (ed a).takes ++ [x] }) (gset scr a (scr a ++ List.replicate m (Itm.gt false x true))) eo P C D i (j + 1) (L + 2) := by
  have s1 := h.sep.take1 ha hD (h.ut j x (Nat.le_refl j) hx)
  refine ⟨s1.scr1 ha (fun it hit => ?_) (fun y hy => by rw [ctr_rep] at hy; cases hy) (fun _ _ _ y hy => by rw [ctr_rep] at hy; cases hy), fun i' y hi hy k hk z => ?_, fun i' y hi hy k hk z => ?_, fun k hk => ?_, fun k hk => ?_, fun k hk => ?_⟩
  · rw [(List.mem_replicate.mp hit).2, gset_eq]
    exact ⟨⟨(fun z => by cases z), fun _ => List.mem_append_right _ (List.mem_singleton.mpr rfl)⟩, fun _ => Nat.le_refl 2⟩
  · by_cases w : k = a
    · subst w
      rw [gset_eq] at z
      exact h.ug i' y hi hy k hk z
    · rw [gset_ne w] at z
      exact h.ug i' y hi hy k hk z
  · by_cases w : k = a
    · subst w
      rw [gset_eq] at z
      rcases mem_snoc z with z | e
      · exact h.ut i' y (by omega) hy k hk z
      · subst e
        have := nd_inj nd hx hy
        omega
    · rw [gset_ne w] at z
      exact h.ut i' y (by omega) hy k hk z
  · by_cases w : k = a
    · subst w
      rw [gset_eq]
      exact h.sm k hk
    · rw [gset_ne w]
      exact h.sm k hk
  · by_cases w : k = a
    · subst w
      rw [gset_eq, List.length_append, List.length_replicate]
      have := h.sl k hk
      omega
    · rw [gset_ne w]
      have := h.sl k hk
      omega
  · by_cases w : k = a
    · subst w
      rw [gset_eq]
      have := h.ln k hk
      refine ⟨?_, ?_⟩
      · exact this.1
      · show ((ed k).takes ++ [x]).length ≤ _
        rw [List.length_append, List.length_singleton]
        omega
    · rw [gset_ne w]
      have := h.ln k hk
      omega
end
theorem ixN_nat {n j : Nat} (h : j < n) : ixN n (j : Int) = some j := by
  unfold ixN
  rw [if_pos (by omega), if_pos (by omega)]
  congr 1
theorem reps_snoc {m : Nat} {x : Itm} : List.replicate (m + 1) x = List.replicate m x ++ [x] := List.replicate_succ'
def sp_shared : Sp := fun vs H Q _ => ∃ (st c wa ch SA EA : Addr) (n : Nat) (ea : Nat → Ea) (la : Nat → Addr) (ed : Nat → Ed) (scr : Nat → List Itm) (τ : Tau) (H0 : Hp) (d : Wd) (a : Ea) (eo : Ed) (P C D : Int → Prop), vs = [.ref st, .ref a.e, .ref EA, .ref SA] ∧ 1 ≤ n ∧ n ≤ 4 ∧ GS st c wa ch SA EA n ea la ed scr τ 1000 H0 H d ∧
  EIn a eo H0 ∧ a.out (Mw st c wa ch) ∧ Sep n ed scr P C D ∧ eo.cells.Nodup ∧ eo.gives.Nodup ∧ eo.takes.Nodup ∧ eo.cells.length ≤ 20 ∧ eo.gives.length ≤ 24 ∧ eo.takes.length ≤ 24 ∧ (∀ x ∈ eo.cells, P x ∧ ∀ k, k < n → ¬ (bfr ed scr k).R x) ∧ (∀ x ∈ eo.gives, C x ∧ ∀ k, k < n → x ∉ (ed k).gives) ∧ (∀ x ∈ eo.takes, D x ∧ ∀ k, k < n → x ∉ (ed k).takes) ∧
  (∀ k, k < n → (scr k).length ≤ 30) ∧ (∀ k, k < n → (ed k).gives.length ≤ 24 ∧ (ed k).takes.length ≤ 24) ∧ (∀ k, k < n → 1 ≤ (ed k).cells.length ∧ (ed k).cells.length ≤ 2 ∧ (ed k).reads.length ≤ 2) ∧
  ∀ (ed' : Nat → Ed) (la' : Nat → Addr) (scr' : Nat → List Itm) (τ' : Tau) (H' : Hp), TgLe τ τ' → GS st c wa ch SA EA n ea la' ed' scr' τ' 1000 H0 H' d → Sep n ed' scr' P C D → (∀ k, k < n → 1 ≤ (ed' k).cells.length ∧ (ed' k).cells.length ≤ 2 + eo.cells.length ∧ (ed' k).reads.length ≤ 2 + eo.cells.length ∧ (ed' k).spans = (ed k).spans) → (∀ k, k < n → (scr' k).length ≤ 200) → Q .non H'
theorem ok_shared (T : Glo K w mg) (D : Dn K mg "_law_shared" s__law_shared p__law_shared) (G__law_draw : Cal P w K mg base "_law_draw" 1 p__law_draw sp_draw) :
    Cal P w K mg base "_law_shared" 2 p__law_shared sp_shared := by
  refine D.ok sc__law_shared (fun vs H Q E h => ?_) (fun f cdv A outer s H vs Q E hr h => ?_)
  · obtain ⟨_, _, _, _, _, _, _, _, _, _, _, _, _, _, _, _, _, _, _, rfl, _⟩ := h
    rfl
  obtain ⟨st, c, wa, ch, SA, EA, n, ea, la, ed0, scr0, τ0, H0, d, a, eo, PP, CC, DD, rfl, hn1, hn4, gs, ei0, ao, sep, ncs, ngs, nts, lcs, lgs, lts, hcs, hgs, hts, hsl, hgt, hcr, q⟩ := h
  refine ⟨_, (pss_cons (ps_for PassesOwn.never rfl (pi_list (pe_dget (hu_of hr) (pv 1) pe_str (fun _ _ => rfl))) (pg_name (i := 4) sc__law_shared.nd rfl (by first | exact Or.inl rfl | exact Or.inr rfl)) (pss_cons (ps_set (i := 6) sc__law_shared.nd rfl (by first | exact Or.inl rfl | exact Or.inr rfl) (pe_cal G__law_draw (hr.mono (by (first | subst "lev" | fail))) rfl (pa_cons (pv 0) (pa_cons (pe_op op_addA (pe_callB call_lenA rfl T.n_len (by decide +kernel) (pa_cons (pv 2) pa_nil)) pe_int) pa_nil)))) (pss_cons (ps_for PassesOwn.never rfl (pi_range1 rfl T.n_range (pa_cons (pe_callB call_lenA rfl T.n_len (by decide +kernel) (pa_cons (pv 2) pa_nil)) pa_nil)) (pg_name (i := 7) sc__law_shared.nd rfl (by first | exact Or.inl rfl | exact Or.inr rfl)) (pss_one (ps_if (pt_cmpR op_in_seq (pv 6) (pe_tup (pa_cons (pv 7) (pa_cons (pe_callB call_lenA rfl T.n_len (by decide +kernel) (pa_cons (pv 2) pa_nil)) pa_nil))) (by rfl)) (pss_one (ps_expr (pe_bm PySem.F.plainAttrs_list PySem.F.slot_list_append PySem.F.type_list_append mt_append (pe_dget (hu_of hr) (pe_ix ix_seq (pv 2) (pv 7) (fun _ _ => rfl)) pe_str (fun _ _ => rfl)) (pa_cons (pv 4) pa_nil)))) pss_nil))) (pss_one (ps_if (pt_cmpR op_lt (pv 6) (pe_callB call_lenA rfl T.n_len (by decide +kernel) (pa_cons (pv 2) pa_nil)) (nomark _)) (pss_one (ps_expr (pe_bm PySem.F.plainAttrs_list PySem.F.slot_list_append PySem.F.type_list_append mt_append (pe_dget (hu_of hr) (pe_ix ix_seq (pv 2) (pv 6) (fun _ _ => rfl)) pe_str (fun _ _ => rfl)) (pa_cons (pv 4) pa_nil)))) pss_nil))))) (pss_cons (ps_for PassesOwn.never rfl (pi_list (pe_dget (hu_of hr) (pv 1) pe_str (fun _ _ => rfl))) (pg_name (i := 5) sc__law_shared.nd rfl (by first | exact Or.inl rfl | exact Or.inr rfl)) (pss_cons (ps_set (i := 6) sc__law_shared.nd rfl (by first | exact Or.inl rfl | exact Or.inr rfl) (pe_cal G__law_draw (hr.mono (by (first | subst "lev" | fail))) rfl (pa_cons (pv 0) (pa_cons (pe_callB call_lenA rfl T.n_len (by decide +kernel) (pa_cons (pv 2) pa_nil)) pa_nil)))) (pss_cons (ps_expr (pe_bm PySem.F.plainAttrs_list PySem.F.slot_list_append PySem.F.type_list_append mt_append (pe_dget (hu_of hr) (pe_ix ix_seq (pv 2) (pv 6) (fun _ _ => rfl)) pe_str (fun _ _ => rfl)) (pa_cons (pv 5) pa_nil))) (pss_one (ps_asg (pe_op op_addA (pe_ix ix_seq (pv 3) (pv 6) (fun _ _ => rfl)) (pe_lc (own := [("_law_k", 7)]) (tt := tYes) rfl sc__law_shared.nd (pi_range1 rfl T.n_range (pa_cons (pe_cal G__law_draw (hr.mono (by (first | subst "lev" | fail))) rfl (pa_cons (pv 0) (pa_cons pe_int pa_nil))) pa_nil)) (blkOk_by (N := ["_law_state_here", "_law_env_here", "_law_envs", "_law_scripts", "_law_cell", "_law_c", "_law_at", "_law_k"]) (sc := defScope s__law_shared) (by decide +kernel)) (fun _ _ _ _ _ => (pg_name (i := 7) sc__law_shared.nd rfl (by first | exact Or.inl rfl | exact Or.inr rfl))) (fun _ _ _ _ _ => pts_nil) (fun _ _ _ _ _ => (pe_tup (pa_cons pe_str (pa_cons (pv 5) (pa_cons pe_str pa_nil))))))) (pg_sub (pv 3) (pv 6) set_list)))))) (pss_one (ps_for PassesOwn.never rfl (pi_list (pe_dget (hu_of hr) (pv 1) pe_str (fun _ _ => rfl))) (pg_name (i := 5) sc__law_shared.nd rfl (by first | exact Or.inl rfl | exact Or.inr rfl)) (pss_cons (ps_set (i := 6) sc__law_shared.nd rfl (by first | exact Or.inl rfl | exact Or.inr rfl) (pe_cal G__law_draw (hr.mono (by (first | subst "lev" | fail))) rfl (pa_cons (pv 0) (pa_cons (pe_callB call_lenA rfl T.n_len (by decide +kernel) (pa_cons (pv 2) pa_nil)) pa_nil)))) (pss_cons (ps_expr (pe_bm PySem.F.plainAttrs_list PySem.F.slot_list_append PySem.F.type_list_append mt_append (pe_dget (hu_of hr) (pe_ix ix_seq (pv 2) (pv 6) (fun _ _ => rfl)) pe_str (fun _ _ => rfl)) (pa_cons (pv 5) pa_nil))) (pss_one (ps_asg (pe_op op_addA (pe_ix ix_seq (pv 3) (pv 6) (fun _ _ => rfl)) (pe_lc (own := [("_law_k", 7)]) (tt := tYes) rfl sc__law_shared.nd (pi_range1 rfl T.n_range (pa_cons (pe_cal G__law_draw (hr.mono (by (first | subst "lev" | fail))) rfl (pa_cons (pv 0) (pa_cons pe_int pa_nil))) pa_nil)) (blkOk_by (N := ["_law_state_here", "_law_env_here", "_law_envs", "_law_scripts", "_law_cell", "_law_c", "_law_at", "_law_k"]) (sc := defScope s__law_shared) (by decide +kernel)) (fun _ _ _ _ _ => (pg_name (i := 7) sc__law_shared.nd rfl (by first | exact Or.inl rfl | exact Or.inr rfl))) (fun _ _ _ _ _ => pts_nil) (fun _ _ _ _ _ => (pe_tup (pa_cons pe_str (pa_cons (pv 5) (pa_cons pe_str pa_nil))))))) (pg_sub (pv 3) (pv 6) set_list))))))))), ?_⟩
  try dsimp only [cxOf, Cx.nox]
  have fln : (frow la n).length = n := frow_len
  have fle : (frow (fun k => (ea k).e) n).length = n := frow_len
  obtain ⟨⟨ko, o1, o2, o3, o4, o5, o6, o7⟩, oc, or0, og, ot, os⟩ := ei0.kp gs.kp ao
  have so := gs.so
  have nts2 : ∀ {x : Addr} {t : Nat × Nat}, τ0 x = some t → 20 ≤ t.1 → x ∉ [st, c] := fun {x t} hx h z => by
    have t1 := gs.t1
    have t2 := gs.t2
    simp only [List.mem_cons, List.not_mem_nil, or_false] at z
    rcases z with rfl | rfl
    · rw [t1] at hx; cases hx; simp at h
    · rw [t2] at hx; cases hx; simp at h
  have nEA : EA ∉ [st, c] := nts2 gs.tE (by simp)
  have nSA : SA ∉ [st, c] := nts2 gs.tS (by simp)
  repeat' (first | specialize "st" | fail)
  refine w_list (xs := eo.cells.map V.int) (fun i σ H' => ∃ (x4 x5 x6 x7 : Option V) (ed : Nat → Ed), σ = [some (.ref st), some (.ref a.e), some (.ref EA), some (.ref SA), x4, x5, x6, x7] ∧ GS st c wa ch SA EA n ea la ed scr0 τ0 1000 H0 H' d ∧ ShI n ed0 ed scr0 eo PP CC DD i) ?_ ?_ ?_ ?_
  · exact ⟨none, none, none, none, ed0, rfl, gs, ⟨sep, fun i' x _ hx => (hcs x (List.mem_of_getElem? hx)).2, fun k hk => by have := hcr k hk; omega, fun _ _ => ⟨rfl, rfl, rfl⟩, fun k hk => (hcr k hk).1⟩⟩
  · rintro i σ H' _ ⟨x4, x5, x6, x7, ed, rfl, g, _⟩
    exact sql (ei0.kp g.kp ao).hc
  · rintro i x σ H' hx ⟨x4, x5, x6, x7, ed, rfl, g, hi⟩
    rw [List.getElem?_map] at hx
    obtain ⟨cell, hcell, rfl⟩ := Option.map_eq_some_iff.mp hx
    have hPc := (hcs cell (List.mem_of_getElem? hcell)).1
    clear o1 oc or0 og ot os so gs sep
    have hEA := g.hE
    have so := g.so
    repeat' (first | specialize "st" | fail)
    have g2 := g.draw ke so
    clear g so hEA
    obtain ⟨j, rfl⟩ : ∃ j : Nat, dn = (j : Int) := ⟨dn.toNat, by omega⟩
    have hj1 : j ≤ n := by
      rw [fle] at n1
      omega
    refine w_rng (lo := 0) (n := _) (fun k σ H' => ∃ (x7 : Option V) (ed : Nat → Ed), σ = [some (.ref st), some (.ref a.e), some (.ref EA), some (.ref SA), some (.int cell), x5, some (.int (j : Int)), x7] ∧ GS st c wa ch SA EA n ea la ed scr0 τ0 1000 H0 H' d ∧ ShK n ed0 ed scr0 eo PP CC DD i cell (j : Int) k) ?_ ?_ ?_
    · exact ⟨x7, ed, rfl, g2, hi.start hcell⟩
    · rintro k σ H' hk ⟨x7, ed, rfl, g, hK⟩
      clear g2
      have hkn : k < n := by
        rw [fle] at hk
        omega
      have hEA := g.hE
      have tEA := g.tE
      obtain ⟨tg1, _, tg3, _⟩ := g.te k hkn
      obtain ⟨⟨kg, hge, _, _, hgr, _⟩, _, hgl, _, _, _⟩ := g.ee k hkn
      have hrl : (ed k).reads.length ≤ 100 := by
        have h1 := (hK.cl k hkn).2.1
        have h2 := (List.getElem?_eq_some_iff.mp hcell).1
        omega
      iterate 16 ((first | specialize "st" | fail))
      refine q_inT (sqt hn) rfl rfl ?_
      cases hb : inV (.int (j : Int)) [.int (0 + (k : Int)), .int ((frow (fun k => (ea k).e) n).length : Int)] with
      | true =>
        have hq : (j : Int) = k ∨ (j : Int) = n := by
          rw [fle] at hb
          simp [inV, eqV] at hb
          omega
        repeat' (first | specialize "st" | fail)
        refine q_ixL (sql (by (first | exists "lift" | fail))) (frow_atI hkn) ?_
        repeat' (first | specialize "st" | fail)
        rename_i A1
        have g3 := g.ex ke
        exact ⟨_, _, rfl, g3.env hkn ku (fsome hu) tg3 (by decide) (by decide) ((g3.ee k hkn).reads (g3.te k hkn) ku (cs := (ed k).reads ++ [cell]) (by rw [List.map_append]; exact hu)), hK.read ncs hcell hPc hkn hq⟩
      | false =>
        have hq : ¬ (j : Int) = k := by
          rw [fle] at hb
          simp [inV, eqV] at hb
          omega
        repeat' (first | specialize "st" | fail)
        exact ⟨_, ed, rfl, g.ex ke, hK.skip hq⟩
    · rintro σ H' ⟨x7, ed, rfl, g, hK⟩
      have e1 : (((frow (fun k => (ea k).e) n).length : Int)).toNat = n := by
        rw [fle]
        omega
      rw [e1] at hK
      have hEA := g.hE
      have tEA := g.tE
      by_cases hjn : j < n
      · obtain ⟨tg1, tg2, _⟩ := g.te j hjn
        obtain ⟨⟨kg, hge, _, hgc, _⟩, hgl, _⟩ := g.ee j hjn
        have hrl : (ed j).cells.length ≤ 100 := by
          have h1 := (hK.cl j hjn).1
          have h2 := (List.getElem?_eq_some_iff.mp hcell).1
          omega
        repeat' (first | specialize "st" | fail)
        refine q_ixL (sql hEA) (atI_nat (frow_at hjn)) ?_
        repeat' (first | specialize "st" | fail)
        exact ⟨_, _, _, _, _, rfl, g.env hjn ku (fsome hu) tg2 (by decide) (by decide) ((g.ee j hjn).cells (g.te j hjn) ku (cs := (ed j).cells ++ [cell]) (by rw [List.map_append]; exact hu)), hK.cell hjn rfl⟩
      · repeat' (first | specialize "st" | fail)
        exact ⟨_, _, _, _, ed, rfl, g, hK.none⟩
  · rintro σ H' ⟨x4, x5, x6, x7, ed1, rfl, g, hi⟩
    rw [List.length_map] at hi
    have oo := ei0.kp g.kp ao
    obtain ⟨⟨ko, o1, o2, o3, o4, o5, o6, o7⟩, oc, or0, og, ot, os⟩ := oo
    have c0 : ShC n ed1 ed1 scr0 eo PP CC DD 0 0 30 := ⟨hi.sep, fun i' x _ hx k hk => by rw [(hi.sm k hk).1]; exact (hgs x (List.mem_of_getElem? hx)).2 k hk, fun i' x _ hx k hk => by rw [(hi.sm k hk).2.1]; exact (hts x (List.mem_of_getElem? hx)).2 k hk, fun k hk => ⟨rfl, rfl, rfl⟩, hsl, fun k hk => by
      rw [(hi.sm k hk).1, (hi.sm k hk).2.1]
      exact hgt k hk⟩
    clear gs sep so
    repeat' (first | specialize "st" | fail)
    refine w_list (xs := eo.gives.map V.int) (fun i σ H' => ∃ (x4 x5 x6 x7 : Option V) (τ : Tau) (la : Nat → Addr) (ed : Nat → Ed) (scr : Nat → List Itm), σ = [some (.ref st), some (.ref a.e), some (.ref EA), some (.ref SA), x4, x5, x6, x7] ∧ TgLe τ0 τ ∧ GS st c wa ch SA EA n ea la ed scr τ 1000 H0 H' d ∧ ShC n ed1 ed scr eo PP CC DD i 0 (30 + 2 * i)) ?_ ?_ ?_ ?_
    · exact ⟨_, _, _, _, τ0, la, ed1, scr0, rfl, TgLe.refl _, g, c0⟩
    · rintro i σ H' _ ⟨x4, x5, x6, x7, τ, la, ed, scr, rfl, le, g, _⟩
      exact sql (ei0.kp g.kp ao).hg
    · rintro i x σ H' hx ⟨x4, x5, x6, x7, τ, la, ed, scr, rfl, le, g, hc⟩
      rw [List.getElem?_map] at hx
      obtain ⟨cn, hcn, rfl⟩ := Option.map_eq_some_iff.mp hx
      have hCc := (hgs cn (List.mem_of_getElem? hcn)).1
      have hi24 : i < 24 := by
        have := (List.getElem?_eq_some_iff.mp hcn).1
        omega
      clear c0 o1 oc or0 og ot os
      have hEA := g.hE
      have so := g.so
      iterate 15 ((first | specialize "st" | fail))
      rw [fle] at n1
      obtain ⟨j, rfl⟩ : ∃ j : Nat, dn = (j : Int) := ⟨dn.toNat, by omega⟩
      have hj : j < n := by omega
      have g2 := g.draw ke so
      obtain ⟨H2, rfl⟩ : ∃ x, x = Hn := ⟨_, rfl⟩
      clear hEA ke so
      have hEA := g2.hE
      have tEA := g2.tE
      obtain ⟨tg1, _, _, _, tg5, _⟩ := g2.te j hj
      obtain ⟨⟨kg, hge, _, _, _, _, hgg, _⟩, _, _, hgl, _, _⟩ := g2.ee j hj
      have hrl : (ed j).gives.length ≤ 100 := by
        have h1 := (hc.ln j hj).1
        omega
      repeat' (first | specialize "st" | fail)
      refine q_ixL (sql hEA) (atI_nat (frow_at hj)) ?_
      repeat' (first | specialize "st" | fail)
      have g3 := g2.env hj ku (fsome hu) tg5 (by decide) (by decide) ((g2.ee j hj).gives (g2.te j hj) ku (cs := (ed j).gives ++ [cn]) (by rw [List.map_append]; exact hu))
      obtain ⟨H3, rfl⟩ : ∃ x, x = Hn := ⟨_, rfl⟩
      clear g2 g hEA hge hgl ku hu
      have hSA := g3.hS
      have so := g3.so
      refine q_ixL (sql hSA) (atI_nat (frow_at hj)) ?_
      repeat' (first | specialize "st" | fail)
      have g4 := g3.draw ke so
      obtain ⟨H4, rfl⟩ : ∃ x, x = Hn := ⟨_, rfl⟩
      clear hSA ke so g3
      obtain ⟨ys, hy1, hy2⟩ := g4.ll j hj
      have hyl : ys.length ≤ 200 := by
        rw [Paired.length hy2]
        exact Nat.le_trans (hc.sl j hj) (by omega)
      have flj : (frow la n).length = n := frow_len
      intro L hL
      have tL : τ L = none := g4.tg.none hL
      refine lc_range (lo := 0) (n := _) (fun m H' => Ex H4 H' ∧ ∃ ts, H' L = some (.lst ts) ∧ ItsT τ 1000 H' ts (List.replicate m (Itm.gt true cn true))) ?_ ?_ ?_
      · exact ⟨Ex.mk hL rfl, [], upd_same, .nil⟩
      · rintro m H' hm ⟨e, ts, h1, h2⟩
        have hlt : ts.length = m := by
          rw [Paired.length h2, List.length_replicate]
        refine ⟨rfl, ?_⟩
        repeat' (first | specialize "st" | fail)
        have h1' := ke _ _ h1
        refine ⟨ts, h1', sl1000' (by omega), ?_⟩
        generalize hq : upd Hn L _ = H9
        have k9 := kp_upd h1' hq
        refine ⟨fun b u hb => k9.out _ _ (nin_c (ne_of_none hb hL) List.not_mem_nil) (ke _ _ (e _ _ hb)), ts ++ [.ref p], at_new hq, ?_⟩
        rw [reps_snoc]
        exact pair_app (Paired.mapP h2 fun v it q => (q.up (N := []) ke.kp (TgLe.refl _) (Nat.le_refl _) (fun x hx => by cases hx)).up k9 (TgLe.refl _) (Nat.le_refl _) fun x hx j' hj' => by
          rw [List.mem_singleton.mp hx, tL] at hj'
          cases hj') (.cons ⟨p, rfl, k9.tup _ _ hn⟩ .nil)
      · rintro H5 ⟨e, ts, h1, h2⟩
        have hm2 : dn.toNat ≤ 2 := by omega
        have g5 := g4.ex e
        have hlt : ts.length ≤ 2 := by
          rw [Paired.length h2, List.length_replicate]
          exact hm2
        have hy1' := e _ _ hy1
        have hy2' : ItsT τ 1000 H5 ys (scr j) := Paired.mapP hy2 fun v it q => q.up (N := []) e.kp (TgLe.refl _) (Nat.le_refl _) (fun x hx => by cases hx)
        clear g4 hy1 hy2 e
        repeat' (first | specialize "st" | fail)
        obtain ⟨τ2, l2, tp, g6⟩ := g5.new ke hp (fsome hn) (26, j)
        refine q_setLN (xs := frow la n) (j := j) g6.hS (by rw [flj]; exact ixN_nat hj) ?_
        intro Hm ku hu
        rw [frow_gset hj] at hu
        have hpm : Hm p = some (.lst (ys ++ ts)) := ku.out _ _ (fun z => by
          rw [List.mem_singleton.mp z, g6.tS] at tp
          cases tp) hn
        have sw : ∀ {xs : List V} {its : List Itm}, ItsT τ 1000 H5 xs its → ItsT τ2 1000 Hm xs its := fun h => Paired.mapP h fun v it q => (q.up (N := []) ke.kp l2 (Nat.le_refl _) (fun x hx => by cases hx)).up ku (TgLe.refl _) (Nat.le_refl _) fun x hx j' hj' => by
          rw [List.mem_singleton.mp hx, g6.tS] at hj'
          cases hj'
        have hc2 := hc.give (m := dn.toNat) ngs hcn hCc hj hm2
        exact ⟨_, _, _, _, τ2, gset la j p, _, _, rfl, le.trans l2, g6.relist hj ku hu tp hpm (pair_app (sw hy2') (sw h2)), hc2⟩
    · rintro σ H' ⟨x4, x5, x6, x7, τ, la, ed, scr, rfl, le, g, hc⟩
      rw [List.length_map] at hc
      clear c0 o1 oc or0 og ot os
      obtain ⟨⟨ko, o1, o2, o3, o4, o5, o6, o7⟩, oc, or0, og, ot, os⟩ := ei0.kp g.kp ao
      repeat' (first | specialize "st" | fail)
      refine w_list (xs := eo.takes.map V.int) (fun i σ H' => ∃ (x4 x5 x6 x7 : Option V) (τ : Tau) (la : Nat → Addr) (ed : Nat → Ed) (scr : Nat → List Itm), σ = [some (.ref st), some (.ref a.e), some (.ref EA), some (.ref SA), x4, x5, x6, x7] ∧ TgLe τ0 τ ∧ GS st c wa ch SA EA n ea la ed scr τ 1000 H0 H' d ∧ ShC n ed1 ed scr eo PP CC DD eo.gives.length i (30 + 2 * eo.gives.length + 2 * i)) ?_ ?_ ?_ ?_
      · exact ⟨_, _, _, _, τ, la, ed, scr, rfl, le, g, hc⟩
      · rintro i σ H' _ ⟨x4, x5, x6, x7, τ, la, ed, scr, rfl, le, g, _⟩
        exact sql (ei0.kp g.kp ao).ht
      · rintro i x σ H' hx ⟨x4, x5, x6, x7, τ, la, ed, scr, rfl, le, g, hc⟩
        rw [List.getElem?_map] at hx
        obtain ⟨cn, hcn, rfl⟩ := Option.map_eq_some_iff.mp hx
        have hCc := (hts cn (List.mem_of_getElem? hcn)).1
        have hi24 : i < 24 := by
          have := (List.getElem?_eq_some_iff.mp hcn).1
          omega
        clear o1 oc or0 og ot os
        have hEA := g.hE
        have so := g.so
        iterate 15 ((first | specialize "st" | fail))
        rw [fle] at n1
        obtain ⟨j, rfl⟩ : ∃ j : Nat, dn = (j : Int) := ⟨dn.toNat, by omega⟩
        have hj : j < n := by omega
        have g2 := g.draw ke so
        obtain ⟨H2, rfl⟩ : ∃ x, x = Hn := ⟨_, rfl⟩
        clear hEA ke so
        have hEA := g2.hE
        have tEA := g2.tE
        obtain ⟨tg1, _, _, _, _, tg5⟩ := g2.te j hj
        obtain ⟨⟨kg, hge, _, _, _, _, _, hgg⟩, _, _, _, hgl, _⟩ := g2.ee j hj
        have hrl : (ed j).takes.length ≤ 100 := by
          have h1 := (hc.ln j hj).2
          omega
        repeat' (first | specialize "st" | fail)
        refine q_ixL (sql hEA) (atI_nat (frow_at hj)) ?_
        repeat' (first | specialize "st" | fail)
        have g3 := g2.env hj ku (fsome hu) tg5 (by decide) (by decide) ((g2.ee j hj).takes (g2.te j hj) ku (cs := (ed j).takes ++ [cn]) (by rw [List.map_append]; exact hu))
        obtain ⟨H3, rfl⟩ : ∃ x, x = Hn := ⟨_, rfl⟩
        clear g2 g hEA hge hgl ku hu
        have hSA := g3.hS
        have so := g3.so
        refine q_ixL (sql hSA) (atI_nat (frow_at hj)) ?_
        repeat' (first | specialize "st" | fail)
        have g4 := g3.draw ke so
        obtain ⟨H4, rfl⟩ : ∃ x, x = Hn := ⟨_, rfl⟩
        clear hSA ke so g3
        obtain ⟨ys, hy1, hy2⟩ := g4.ll j hj
        have hyl : ys.length ≤ 200 := by
          rw [Paired.length hy2]
          exact Nat.le_trans (hc.sl j hj) (by omega)
        have flj : (frow la n).length = n := frow_len
        intro L hL
        have tL : τ L = none := g4.tg.none hL
        refine lc_range (lo := 0) (n := _) (fun m H' => Ex H4 H' ∧ ∃ ts, H' L = some (.lst ts) ∧ ItsT τ 1000 H' ts (List.replicate m (Itm.gt false cn true))) ?_ ?_ ?_
        · exact ⟨Ex.mk hL rfl, [], upd_same, .nil⟩
        · rintro m H' hm ⟨e, ts, h1, h2⟩
          have hlt : ts.length = m := by
            rw [Paired.length h2, List.length_replicate]
          refine ⟨rfl, ?_⟩
          repeat' (first | specialize "st" | fail)
          have h1' := ke _ _ h1
          refine ⟨ts, h1', sl1000' (by omega), ?_⟩
          generalize hq : upd Hn L _ = H9
          have k9 := kp_upd h1' hq
          refine ⟨fun b u hb => k9.out _ _ (nin_c (ne_of_none hb hL) List.not_mem_nil) (ke _ _ (e _ _ hb)), ts ++ [.ref p], at_new hq, ?_⟩
          rw [reps_snoc]
          exact pair_app (Paired.mapP h2 fun v it q => (q.up (N := []) ke.kp (TgLe.refl _) (Nat.le_refl _) (fun x hx => by cases hx)).up k9 (TgLe.refl _) (Nat.le_refl _) fun x hx j' hj' => by
            rw [List.mem_singleton.mp hx, tL] at hj'
            cases hj') (.cons ⟨p, rfl, k9.tup _ _ hn⟩ .nil)
        · rintro H5 ⟨e, ts, h1, h2⟩
          have hm2 : dn.toNat ≤ 2 := by omega
          have g5 := g4.ex e
          have hlt : ts.length ≤ 2 := by
            rw [Paired.length h2, List.length_replicate]
            exact hm2
          have hy1' := e _ _ hy1
          have hy2' : ItsT τ 1000 H5 ys (scr j) := Paired.mapP hy2 fun v it q => q.up (N := []) e.kp (TgLe.refl _) (Nat.le_refl _) (fun x hx => by cases hx)
          clear g4 hy1 hy2 e
          repeat' (first | specialize "st" | fail)
          obtain ⟨τ2, l2, tp, g6⟩ := g5.new ke hp (fsome hn) (26, j)
          refine q_setLN (xs := frow la n) (j := j) g6.hS (by rw [flj]; exact ixN_nat hj) ?_
          intro Hm ku hu
          rw [frow_gset hj] at hu
          have hpm : Hm p = some (.lst (ys ++ ts)) := ku.out _ _ (fun z => by
            rw [List.mem_singleton.mp z, g6.tS] at tp
            cases tp) hn
          have sw : ∀ {xs : List V} {its : List Itm}, ItsT τ 1000 H5 xs its → ItsT τ2 1000 Hm xs its := fun h => Paired.mapP h fun v it q => (q.up (N := []) ke.kp l2 (Nat.le_refl _) (fun x hx => by cases hx)).up ku (TgLe.refl _) (Nat.le_refl _) fun x hx j' hj' => by
            rw [List.mem_singleton.mp hx, g6.tS] at hj'
            cases hj'
          have hc2 := hc.take (m := dn.toNat) nts hcn hCc hj hm2
          exact ⟨_, _, _, _, τ2, gset la j p, _, _, rfl, le.trans l2, g6.relist hj ku hu tp hpm (pair_app (sw hy2') (sw h2)), hc2⟩
      · rintro σ H' ⟨x4, x5, x6, x7, τ', la', ed', scr', rfl, le', g', hc'⟩
        rw [List.length_map] at hc'
        exact q ed' la' scr' τ' H' le' g' hc'.sep (fun k hk => by
          obtain ⟨e1, e2, e3⟩ := hc'.sm k hk
          have h1 := hi.cl k hk
          rw [e1, e2, e3]
          exact ⟨hi.c1 k hk, h1.1, h1.2, (hi.sm k hk).2.2⟩) (fun k hk => Nat.le_trans (hc'.sl k hk) (by omega))
abbrev s__law_par : Stmt := topS 40
theorem sc__law_par : FnScope ["_law_state_here", "_law_env_here", "_law_world", "_law_deep", "_law_many", "_law_envs", "_law_scripts", "_law_rows", "_law_k", "_law_thread", "_law_script", "_law_at"] ["_law_state_here", "_law_env_here", "_law_world", "_law_deep"] (defScope s__law_par) := ⟨rfl, rfl, rfl, by decide +kernel, rfl, by decide +kernel, by decide +kernel⟩
abbrev p__law_par : List Str := ["_law_state_here", "_law_env_here", "_law_world", "_law_deep"]
theorem c_env {st c wa ch : Addr} {d : Wd} {H : Hp} {Q : VK} {E : XK} (so : StOk st c H) (wi : WIn wa ch d H) (nw : wa ∉ [st, c]) (nc : ch ∉ [st, c]) (c0 : 0 ≤ d.cells) (c1 : d.cells ≤ 2000)
    (q : ∀ (a : Ea) (ed : Ed) (m : Int) (H' : Hp), (∀ x ∈ a.all, H x = none) → a.all.Nodup → EIn a ed H' → ed.fresh d.cells m → Kp [st, c, wa] H H' → StOk st c H' → WIn wa ch { d with cells := m } H' → Q (.ref a.e) H') : sp_env [.ref st, .ref wa] H Q E := ⟨st, c, wa, ch, d, rfl, so, wi, nw, nc, c0, c1, q⟩
/-- the ground on which branches are built -/
structure G0 (st c wa ch : Addr) (τ : Tau) (H0 H : Hp) (d : Wd) : Prop where
  kp : Kp (Mw st c wa ch) H0 H
  so : StOk st c H
  wi : WIn wa ch d H
  tg : TgOk τ H
  fr : ∀ x t, τ x = some t → 20 ≤ t.1 → H0 x = none
  t1 : τ st = some (7, 0)
  t2 : τ c = some (7, 1)
  t3 : τ wa = some (8, 0)
  t4 : τ ch = some (8, 1)
section
variable {st c wa ch : Addr} {τ τ' : Tau} {H0 H H' : Hp} {d d' : Wd}
theorem G0.start (so : StOk st c H) (wi : WIn wa ch d H) (nw : wa ∉ [st, c]) (nc : ch ∉ [st, c]) : ∃ τ, G0 st c wa ch τ H H d := by
  have h1 : c ≠ st := so.ne
  have h2 : wa ≠ ch := wi.ne
  simp only [List.mem_cons, List.not_mem_nil, or_false, not_or] at nw nc
  refine ⟨fun x => if x = st then some (7, 0) else if x = c then some (7, 1) else if x = wa then some (8, 0) else if x = ch then some (8, 1) else none, Kp.refl _, so, wi, fun x t hx => ?_, fun x t hx h20 => ?_, if_pos rfl, ?_, ?_, ?_⟩
  · obtain ⟨⟨ns, z, a, b, e⟩, f⟩ := so
    have hx' : (if x = st then some (7, 0) else if x = c then some (7, 1) else if x = wa then some (8, 0) else if x = ch then some (8, 1) else none) = some t := hx
    by_cases q1 : x = st
    · rw [q1]; exact fsome a
    · rw [if_neg q1] at hx'
      by_cases q2 : x = c
      · rw [q2]; exact fsome b
      · rw [if_neg q2] at hx'
        by_cases q3 : x = wa
        · rw [q3]; exact wi.al.1
        · rw [if_neg q3] at hx'
          by_cases q4 : x = ch
          · rw [q4]; exact wi.al.2
          · rw [if_neg q4] at hx'; cases hx'
  · have hx' : (if x = st then some (7, 0) else if x = c then some (7, 1) else if x = wa then some (8, 0) else if x = ch then some (8, 1) else none) = some t := hx
    exfalso
    by_cases q1 : x = st
    · rw [if_pos q1] at hx'; cases hx'; simp at h20
    · rw [if_neg q1] at hx'
      by_cases q2 : x = c
      · rw [if_pos q2] at hx'; cases hx'; simp at h20
      · rw [if_neg q2] at hx'
        by_cases q3 : x = wa
        · rw [if_pos q3] at hx'; cases hx'; simp at h20
        · rw [if_neg q3] at hx'
          by_cases q4 : x = ch
          · rw [if_pos q4] at hx'; cases hx'; simp at h20
          · rw [if_neg q4] at hx'; cases hx'
  · show (if c = st then _ else _) = _
    rw [if_neg h1, if_pos rfl]
  · show (if wa = st then _ else _) = _
    rw [if_neg nw.1, if_neg nw.2, if_pos rfl]
  · show (if ch = st then _ else _) = _
    rw [if_neg nc.1, if_neg nc.2, if_neg (Ne.symm h2), if_pos rfl]
theorem G0.mwt (g : G0 st c wa ch τ H0 H d) : ∀ x ∈ Mw st c wa ch, ∃ t, τ x = some t ∧ t.1 < 20 := fun x hx => by
  simp only [List.mem_cons, List.not_mem_nil, or_false] at hx
  rcases hx with rfl | rfl | rfl | rfl
  · exact ⟨_, g.t1, by decide⟩
  · exact ⟨_, g.t2, by decide⟩
  · exact ⟨_, g.t3, by decide⟩
  · exact ⟨_, g.t4, by decide⟩
theorem G0.frame (g : G0 st c wa ch τ H0 H d) {N : List Addr} (k : Kp N H H') (a : Al H H') (so' : StOk st c H') (wi' : WIn wa ch d' H') (l : ∀ x ∈ N, x ∈ Mw st c wa ch ∨ ∃ t, τ x = some t ∧ 20 ≤ t.1) : G0 st c wa ch τ H0 H' d' :=
  ⟨kp_fresh g.kp k (fun x hx => (l x hx).imp id fun ⟨t, ht, q⟩ => g.fr x t ht q), so', wi', g.tg.al a, g.fr, g.t1, g.t2, g.t3, g.t4⟩
theorem G0.free (g : G0 st c wa ch τ H0 H d) {x : Addr} (hx : H x = none) : H0 x = none ∧ τ x = none := by
  have ht : τ x = none := g.tg.none hx
  refine ⟨free_backK g.kp (fun z => ?_) hx, ht⟩
  obtain ⟨t, h, _⟩ := g.mwt x z
  rw [ht] at h
  cases h
/-- new objects get tags -/
theorem G0.tags (g : G0 st c wa ch τ H0 H d) (g' : G0 st c wa ch τ H0 H' d') (f : Addr → Option (Nat × Nat)) (hf : ∀ x t, f x = some t → H x = none ∧ H' x ≠ none) : ∃ τ', TgLe τ τ' ∧ (∀ x t, f x = some t → τ' x = some t) ∧ G0 st c wa ch τ' H0 H' d' := by
  have le : TgLe τ fun x => match f x with
    | some t => some t
    | none => τ x := fun x t h => by
    cases hx : f x with
    | none => show (match f x with | some t => some t | none => τ x) = some t; rw [hx]; exact h
    | some u => exact absurd (hf x u hx).1 (g.tg x t h)
  refine ⟨_, le, fun x t h => by show (match f x with | some t => some t | none => τ x) = some t; rw [h], g'.kp, g'.so, g'.wi, fun x t h => ?_, fun x t h h2 => ?_, le _ _ g.t1, le _ _ g.t2, le _ _ g.t3, le _ _ g.t4⟩
  · have h' : (match f x with | some t => some t | none => τ x) = some t := h
    cases hx : f x with
    | none => rw [hx] at h'; exact g'.tg x t h'
    | some u => exact (hf x u hx).2
  · have h' : (match f x with | some t => some t | none => τ x) = some t := h
    cases hx : f x with
    | none => rw [hx] at h'; exact g'.fr x t h' h2
    | some u => exact (g.free (hf x u hx).1).1
theorem G0.ex (g : G0 st c wa ch τ H0 H d) (e : Ex H H') : G0 st c wa ch τ H0 H' d := g.frame (e.kp (M := [])) (al_ex e) (st_ex e g.so) (g.wi.exx e) (fun x hx => by cases hx)
theorem G0.new (g : G0 st c wa ch τ H0 H d) (e : Ex H H') {p : Addr} (hp : H p = none) (hn : H' p ≠ none) (t : Nat × Nat) : ∃ τ', TgLe τ τ' ∧ τ' p = some t ∧ G0 st c wa ch τ' H0 H' d := by
  obtain ⟨τ', l, h, g'⟩ := g.tags (g.ex e) (fun x => if x = p then some t else none) (fun x u h => by
    by_cases q : x = p
    · subst q; exact ⟨hp, hn⟩
    · have h' : (if x = p then some t else none) = some u := h
      rw [if_neg q] at h'
      cases h')
  exact ⟨τ', l, h p t (if_pos rfl), g'⟩
theorem G0.one (g : G0 st c wa ch τ H0 H d) {x : Addr} {t : Nat × Nat} (k : Kp [x] H H') (hn : H' x ≠ none) (hx : τ x = some t) (h : 20 ≤ t.1) : G0 st c wa ch τ H0 H' d := by
  have nx : ∀ {y : Addr} {u : Nat × Nat}, τ y = some u → u.1 < 20 → y ∉ [x] := fun {y u} hy hu z => by
    rw [List.mem_singleton.mp z, hx] at hy
    cases hy
    omega
  refine g.frame k (al_one k hn) (st_out k g.so (nx g.t1 (by decide)) (nx g.t2 (by decide))) (g.wi.kp k (nx g.t3 (by decide)) (nx g.t4 (by decide))) (fun y hy => ?_)
  rw [List.mem_singleton.mp hy]
  exact .inr ⟨t, hx, h⟩
/-- a new env -/
theorem G0.env (g : G0 st c wa ch τ H0 H d) {a : Ea} {ed : Ed} {m : Int} {i : Nat} (hf : ∀ x ∈ a.all, H x = none) (nd : a.all.Nodup) (he : EIn a ed H') (k : Kp [st, c, wa] H H') (so' : StOk st c H') (wi' : WIn wa ch { d with cells := m } H') : ∃ τ', TgLe τ τ' ∧ a.tg τ' i ∧ G0 st c wa ch τ' H0 H' { d with cells := m } := by
  have g' : G0 st c wa ch τ H0 H' { d with cells := m } := g.frame k (al_kp k fun x hx => by
    obtain ⟨⟨ns, z, a, b, _⟩, _⟩ := so'
    simp only [List.mem_cons, List.not_mem_nil, or_false] at hx
    rcases hx with rfl | rfl | rfl
    · exact fsome a
    · exact fsome b
    · exact wi'.al.1) so' wi' (fun x hx => .inl (by
      simp only [List.mem_cons, List.not_mem_nil, or_false] at hx ⊢
      rcases hx with h | h | h <;> simp [h]))
  have nd' : [a.e, a.ca, a.ra, a.sa, a.ga, a.ta].Nodup := nd
  simp only [List.nodup_cons, List.mem_cons, List.not_mem_nil, or_false, not_or] at nd'
  obtain ⟨⟨n01, n02, n03, n04, n05⟩, ⟨n12, n13, n14, n15⟩, ⟨n23, n24, n25⟩, ⟨n34, n35⟩, n45, _⟩ := nd'
  obtain ⟨τ', l, h, g2⟩ := g.tags g' (fun x => if x = a.e then some (20, i) else if x = a.ca then some (21, i) else if x = a.ra then some (22, i) else if x = a.sa then some (23, i) else if x = a.ga then some (24, i) else if x = a.ta then some (25, i) else none) (fun x u h => by
    have hm : x ∈ a.all := by
      show x ∈ [a.e, a.ca, a.ra, a.sa, a.ga, a.ta]
      by_cases q0 : x = a.e
      · simp [q0]
      by_cases q1 : x = a.ca
      · simp [q1]
      by_cases q2 : x = a.ra
      · simp [q2]
      by_cases q3 : x = a.sa
      · simp [q3]
      by_cases q4 : x = a.ga
      · simp [q4]
      by_cases q5 : x = a.ta
      · simp [q5]
      simp [q0, q1, q2, q3, q4, q5] at h
    exact ⟨hf x hm, he.live x hm⟩)
  refine ⟨τ', l, ⟨h _ _ (if_pos rfl), h _ _ ?_, h _ _ ?_, h _ _ ?_, h _ _ ?_, h _ _ ?_⟩, g2⟩
  · simp [Ne.symm n01]
  · simp [Ne.symm n02, Ne.symm n12]
  · simp [Ne.symm n03, Ne.symm n13, Ne.symm n23]
  · simp [Ne.symm n04, Ne.symm n14, Ne.symm n24, Ne.symm n34]
  · simp [Ne.symm n05, Ne.symm n15, Ne.symm n25, Ne.symm n35, Ne.symm n45]
end
/-! fresh envs are apart -/
theorem bmono {n : Nat} {b : Nat → Int} (h : ∀ k, k < n → b k ≤ b (k + 1)) : ∀ {i j : Nat}, i ≤ j → j ≤ n → b i ≤ b j := by
  intro i j hij
  induction j with
  | zero => intro _; rw [Nat.le_zero.mp hij]; exact Int.le_refl _
  | succ j ih =>
    intro hj
    by_cases q : i ≤ j
    · have := ih q (by omega)
      have := h j (by omega)
      omega
    · rw [show i = j + 1 by omega]
      exact Int.le_refl _
theorem bfr_fresh {ed : Nat → Ed} {i : Nat} {lo hi x : Int} (h : (ed i).fresh lo hi) (r : (bfr ed (fun _ => []) i).R x) : lo ≤ x ∧ x < hi := by
  have h1 := h.lo
  rcases r with r | ⟨p, hp, a, b⟩ | r
  · rw [h.reads] at r
    simp only [List.mem_cons, List.not_mem_nil, or_false] at r
    omega
  · have := h.spans p hp
    omega
  · cases r
theorem sep_fresh {n : Nat} {ed : Nat → Ed} {b : Nat → Int} {P C D : Int → Prop} (h : ∀ k, k < n → (ed k).fresh (b k) (b (k + 1))) (hP : ∀ x, b 0 ≤ x → x < b n → P x) : Sep n ed (fun _ => []) P C D := by
  have hb : ∀ k, k < n → b k ≤ b (k + 1) := fun k hk => by have := (h k hk).lo; omega
  have wr : ∀ i, i < n → ∀ x, (bfr ed (fun _ => []) i).W x → (bfr ed (fun _ => []) i).R x := fun i hi x w => by
    rcases w with w | w
    · refine .inl ?_
      rw [(h i hi).cells] at w
      rw [(h i hi).reads]
      exact w
    · exact .inr w
  have ap : ∀ i j, i < n → j < n → i ≠ j → ∀ x, (bfr ed (fun _ => []) i).R x → ¬ (bfr ed (fun _ => []) j).R x := fun i j hi hj ne x r r' => by
    have h1 := bfr_fresh (h i hi) r
    have h2 := bfr_fresh (h j hj) r'
    by_cases q : i < j
    · have := bmono hb (i := i + 1) (j := j) (by omega) (by omega)
      omega
    · have := bmono hb (i := j + 1) (j := i) (by omega) (by omega)
      omega
  refine ⟨fun i j hi hj ne => ⟨fun x w => ⟨fun w' => ap i j hi hj ne x (wr i hi x w) (wr j hj x w'), fun r' => ap i j hi hj ne x (wr i hi x w) r'⟩, fun x w' r => ap i j hi hj ne x r (wr j hj x w'), fun x g => ?_, fun x g => ?_⟩, fun i hi x r => ?_, fun i hi x g => ?_, fun i hi x g => ?_, fun i hi x g => ?_, fun i hi p hp => ?_, fun i hi => ?_, fun i hi => ?_, fun i hi => ?_, fun i hi it hit => ?_⟩
  · have g' : x ∈ (ed i).gives := g
    rw [(h i hi).gives] at g'
    cases g'
  · have g' : x ∈ (ed i).takes := g
    rw [(h i hi).takes] at g'
    cases g'
  · have h1 := bfr_fresh (h i hi) r
    have := bmono hb (i := 0) (j := i) (by omega) (by omega)
    have := bmono hb (i := i + 1) (j := n) (by omega) (by omega)
    exact hP x (by omega) (by omega)
  · rw [(h i hi).gives] at g
    cases g
  · rw [(h i hi).takes] at g
    cases g
  · rw [(h i hi).cells] at g
    rw [(h i hi).reads]
    exact g
  · have := (h i hi).spans p hp
    exact ⟨this.2.1, this.2.2.1⟩
  · rw [(h i hi).cells]
    simp
    omega
  · rw [(h i hi).gives]
    exact List.nodup_nil
  · rw [(h i hi).takes]
    exact List.nodup_nil
  · cases hit
/-! the rows of a par -/
theorem Ps.fits_app : ∀ {a b : Ps} {fs gs : List Fr}, a.fits fs → b.fits gs → (a.app b).fits (fs ++ gs)
  | .nil, _, _, _, h, g => by cases h; exact g
  | .cons _ _ r, _, _, _, ⟨f, l, e, h, t⟩, g => by subst e; exact ⟨f, l ++ _, rfl, h, Ps.fits_app t g⟩
theorem Ps.fits_fit {F : Fr} : ∀ {a : Ps} {fs : List Fr}, a.fits fs → (∀ f ∈ fs, f.le F) → a.fit F
  | .nil, _, _, _ => trivial
  | .cons _ _ r, _, ⟨f, l, e, h, t⟩, g => by
    subst e
    exact ⟨h.mono (g f (List.mem_cons_self ..)), Ps.fits_fit t fun f' hf => g f' (List.mem_cons_of_mem _ hf)⟩
/-- the frame of branch k: its base and what came new from d to d' -/
def rowFr (b : Fr) (d d' : Wd) : Fr := ⟨fun x => b.W x ∨ d.cells ≤ x ∧ x < d'.cells, fun x => b.R x ∨ d.cells ≤ x ∧ x < d'.cells, fun x => b.G x ∨ (d.chs.length : Int) ≤ x ∧ x < d'.chs.length, fun x => b.T x ∨ (d.chs.length : Int) ≤ x ∧ x < d'.chs.length⟩
theorem rowFr.bas {b : Fr} {d d' : Wd} : b.le (rowFr b d d') := ⟨fun _ h => .inl h, fun _ h => .inl h, fun _ h => .inl h, fun _ h => .inl h⟩
theorem rowFr.rg {b : Fr} {d d' : Wd} : Rg d d' (rowFr b d d') := ⟨fun k a e => ⟨.inr ⟨a, e⟩, .inr ⟨a, e⟩⟩, fun c a e => ⟨.inr ⟨a, e⟩, .inr ⟨a, e⟩⟩⟩
theorem rowFr.le {b F : Fr} {d d' : Wd} (h : b.le F) (r : Rg d d' F) : (rowFr b d d').le F := ⟨fun x z => z.elim (h.w x) fun ⟨p, q⟩ => (r.c x p q).1, fun x z => z.elim (h.r x) fun ⟨p, q⟩ => (r.c x p q).2, fun x z => z.elim (h.g x) fun ⟨p, q⟩ => (r.h x p q).1, fun x z => z.elim (h.t x) fun ⟨p, q⟩ => (r.h x p q).2⟩
/-- bases under a bound are apart from what comes new, and from each other -/
structure Fr.under (b : Fr) (s l : Int) : Prop where
  wr : ∀ x, b.W x → b.R x
  r : ∀ x, b.R x → x < s
  g : ∀ x, b.G x → x < l
  t : ∀ x, b.T x → x < l
theorem rowFr.apart {b b' : Fr} {d d1 e e1 : Wd} {s l : Int} (ap : b.apart b') (u : b.under s l) (u' : b'.under s l) (c0 : s ≤ d.cells) (c1 : s ≤ e.cells) (c2 : d1.cells ≤ e.cells) (l0 : l ≤ (d.chs.length : Int)) (l1 : l ≤ (e.chs.length : Int)) (l2 : d1.chs.length ≤ e.chs.length) : (rowFr b d d1).apart (rowFr b' e e1) := by
  refine ⟨fun x w => ⟨fun z => ?_, fun z => ?_⟩, fun x w z => ?_, fun x w z => ?_, fun x w z => ?_⟩
  · rcases w with w | w <;> rcases z with z | z
    · exact (ap.w x w).1 z
    · have := u.r x (u.wr x w); omega
    · have := u'.r x (u'.wr x z); omega
    · omega
  · rcases w with w | w <;> rcases z with z | z
    · exact (ap.w x w).2 z
    · have := u.r x (u.wr x w); omega
    · have := u'.r x z; omega
    · omega
  · rcases w with w | w <;> rcases z with z | z
    · exact ap.r x w z
    · have := u'.r x (u'.wr x w); omega
    · have := u.r x z; omega
    · omega
  · rcases w with w | w <;> rcases z with z | z
    · exact ap.g x w z
    · have := u.g x w; omega
    · have := u'.g x z; omega
    · omega
  · rcases w with w | w <;> rcases z with z | z
    · exact ap.t x w z
    · have := u.t x w; omega
    · have := u'.t x z; omega
    · omega
/-- k rows of a par, from the world d0 (branches made, none started) to d; fs their frames -/
structure RwI (q : Nat) (n : Nat) (bf : Nat → Fr) (F0 : Fr) (d0 d : Wd) (k : Nat) (ps : Ps) (fs : List Fr) : Prop where
  cnt : k ≤ ps.cnt
  th : d.threads = d0.threads + ps.cnt
  lf : d.left = d0.left - (ps.cnt - k : Nat)
  lf0 : 0 ≤ d.left
  it : d.items ≤ d0.items
  it0 : 0 ≤ d.items
  ce : d0.cells ≤ d.cells
  pot : d.cells + 9 * d.left + d.items ≤ d0.cells + 9 * d0.left + d0.items
  al : d.alts = d0.alts
  lo : d.loops = d0.loops
  ch : ∃ j, d.chs = d0.chs ++ List.replicate j ("inner" : Str)
  c24 : d.chs.length ≤ 24
  fits : ps.fits fs
  fr : ∀ f ∈ fs, ∃ i e e', i < k ∧ f = rowFr (bf i) e e' ∧ d0.cells ≤ e.cells ∧ e.cells ≤ e'.cells ∧ e'.cells ≤ d.cells ∧ d0.chs.length ≤ e.chs.length ∧ e.chs.length ≤ e'.chs.length ∧ e'.chs.length ≤ d.chs.length
  ap : fs.Pairwise Fr.apart
  rule : ps.rule
  num : ps.num d0.threads
  dep : (ps.dep : Int) ≤ 4 * d0.left + 15
  sz : (ps.sz : Int) ≤ 6 * k + 140 * (d0.items - d.items) + 7 * (d0.left - d.left)
  wk0 : 0 ≤ ps.wk
  wk : ps.wk ≤ 8 * k + wkb q d0.loops (d0.items - d.items) (d0.left - d.left)
theorem RwI.zero {q n : Nat} {bf : Nat → Fr} {F0 : Fr} {d0 : Wd} (o : d0.ok) : RwI q n bf F0 d0 d0 0 .nil [] :=
  ⟨Nat.zero_le _, by simp [Ps.cnt], by simp [Ps.cnt], o.lf0, Int.le_refl _, o.it0, Int.le_refl _, Int.le_refl _, rfl, rfl, ⟨0, by simp⟩, o.c24, rfl, (fun f hf => by cases hf), .nil, trivial, trivial, by have := o.lf0; simp only [Ps.dep]; omega, by simp [Ps.sz], by simp [Ps.wk], by
    have := @wkb_nn q d0.loops (d0.items - d0.items) (d0.left - d0.left) (by omega) (by omega)
    simp only [Ps.wk]
    omega⟩
theorem RwI.wok {q n : Nat} {bf : Nat → Fr} {F0 : Fr} {d0 d : Wd} {k : Nat} {ps : Ps} {fs : List Fr} (h : RwI q n bf F0 d0 d k ps fs) (o : d0.ok) : d.ok := ⟨h.lf0, h.it0, by have := h.ce; have := o.ce0; omega, by have := h.pot; have := o.pot; omega, h.c24⟩
theorem RwI.chl {q n : Nat} {bf : Nat → Fr} {F0 : Fr} {d0 d : Wd} {k : Nat} {ps : Ps} {fs : List Fr} (h : RwI q n bf F0 d0 d k ps fs) : d0.chs.length ≤ d.chs.length := by
  obtain ⟨m, em⟩ := h.ch
  rw [em, List.length_append]
  omega
/-- one row more: the items' statements and a simple one -/
theorem RwI.step {q n : Nat} {bf : Nat → Fr} {F0 : Fr} {d0 d d' : Wd} {k : Nat} {ps : Ps} {fs : List Fr} {ss : Ss} {sx : Sx} {s l : Int} (h : RwI q n bf F0 d0 d k ps fs) (hk : k < n) (hi : ItOut q (bf k) { d with threads := d.threads + 1 } d' ss) (hs : sx.Pl (bf k) 3 5 7) (o : d0.ok)
    (un : ∀ i, i < n → (bf i).under s l) (ap : ∀ i j, i < n → j < n → i ≠ j → (bf i).apart (bf j)) (hs0 : s ≤ d0.cells) (hl0 : l ≤ (d0.chs.length : Int)) :
    RwI q n bf F0 d0 d' (k + 1) (ps.app (.cons d.threads (.seq (ss.app (.cons sx .nil))) .nil)) (fs ++ [rowFr (bf k) d d']) := by
  have e := hi.evo
  have th := e.th
  have lf := e.lf
  have lf0 := e.lf0
  have it := e.it
  have ce := e.ce
  have pot := e.pot
  have chl := e.chl
  have hdep := hi.dep
  have hsz := hi.sz
  have hwk0 := hi.wk0
  have hwk := hi.wk
  have pc := hs.cnt
  have pd := hs.dep
  have pz := hs.sz
  have pw := hs.wk
  have pw0 := Sx.wk0 hs.fit
  have hcnt := h.cnt
  have hth := h.th
  have hlf := h.lf
  have hce := h.ce
  have hit := h.it
  have hpot := h.pot
  have hd := h.dep
  have hz := h.sz
  have hw0 := h.wk0
  have hw := h.wk
  have hcl := h.chl
  dsimp only at th lf it ce pot chl hdep hsz hwk
  have cn : (ps.app (.cons d.threads (.seq (ss.app (.cons sx .nil))) .nil)).cnt = ps.cnt + (1 + ss.cnt) := by
    simp only [Ps.app_cnt, Ps.cnt, Sx.cnt, Ss.app_cnt, Ss.cnt, pc]
    omega
  refine ⟨by rw [cn]; omega, by rw [cn]; omega, by rw [cn]; omega, lf0, by omega, e.it0, by omega, by omega, e.al.trans h.al, e.lo.trans h.lo, ?_, e.c24, Ps.fits_app h.fits ⟨_, [], rfl, Ss.app_fit.mpr ⟨hi.fit _ rowFr.bas ⟨fun k a b => rowFr.rg.c k a b, fun c a b => rowFr.rg.h c a b⟩, hs.fit.mono rowFr.bas, trivial⟩, rfl⟩, ?_, ?_, Ps.app_rule.mpr ⟨h.rule, Ss.app_rule.mpr ⟨hi.rule, hs.rule, trivial⟩, trivial⟩, Ps.app_num.mpr ⟨h.num, hth, ?_, trivial⟩, ?_, ?_, ?_, ?_⟩
  · obtain ⟨i, ei⟩ := h.ch
    obtain ⟨j, ej⟩ := e.ch
    dsimp only at ej
    exact ⟨i + j, by rw [ej, ei, List.append_assoc, List.replicate_append_replicate]⟩
  · intro f hf
    rcases List.mem_append.mp hf with hf | hf
    · obtain ⟨i, e1, e2, h1, h2, h3, h4, h5, h6, h7, h8⟩ := h.fr f hf
      exact ⟨i, e1, e2, by omega, h2, h3, h4, by omega, h6, h7, by omega⟩
    · rw [List.mem_singleton.mp hf]
      exact ⟨k, d, d', by omega, rfl, hce, by omega, Int.le_refl _, hcl, chl, Nat.le_refl _⟩
  · rw [List.pairwise_append]
    refine ⟨h.ap, List.pairwise_singleton _ _, fun f hf g hg => ?_⟩
    obtain ⟨i, e1, e2, h1, h2, h3, h4, h5, h6, h7, h8⟩ := h.fr f hf
    rw [List.mem_singleton.mp hg, h2]
    exact rowFr.apart (ap i k (by omega) hk (by omega)) (un i (by omega)) (un k hk) (by omega) (by omega) h5 (by omega) (by omega) h8
  · refine Ss.app_num.mpr ⟨?_, Sx.num0 pc _, trivial⟩
    have hn := hi.num
    dsimp only at hn
    rw [hth] at hn
    exact hn
  · have := @depb_mono q d.left d0.left (by omega)
    have o0 := o.lf0
    have hb : depb q d0.left ≤ 4 * d0.left + 14 := by
      unfold depb
      split <;> omega
    simp only [Ps.app_dep, Ps.dep, Sx.dep, Ss.app_dep, Ss.dep]
    omega
  · simp only [Ps.app_sz, Ps.sz, Sx.sz, Ss.app_sz, Ss.sz]
    omega
  · simp only [Ps.app_wk, Ps.wk, Sx.wk, Ss.app_wk, Ss.wk]
    omega
  · rw [h.lo] at hwk
    have h3 := @wkb_add q d0.loops (d0.items - d.items) (d.items - d'.items) (d0.left - d.left) (d.left - d'.left)
    rw [show d0.items - d.items + (d.items - d'.items) = d0.items - d'.items by omega, show d0.left - d.left + (d.left - d'.left) = d0.left - d'.left by omega] at h3
    simp only [Ps.app_wk, Ps.wk, Sx.wk, Ss.app_wk, Ss.wk]
    omega
/-- the par itself: n rows over the world dS, from which n branches were taken -/
theorem RwI.par {n : Nat} {bf : Nat → Fr} {F0 : Fr} {dS d0 d : Wd} {ps : Ps} {fs : List Fr} {dp : Int} (h : RwI (if dp = 0 then 2 else 3) n bf F0 d0 d n ps fs) (n2 : 2 ≤ n) (oS : dS.ok) (et : d0.threads = dS.threads) (el : d0.left = dS.left - n) (ei : d0.items = dS.items) (ea : d0.alts = dS.alts) (eo : d0.loops = dS.loops) (ec : dS.cells ≤ d0.cells) (ec2 : d0.cells ≤ dS.cells + 9 * n) (eh : ∃ j, d0.chs = dS.chs ++ List.replicate j ("inner" : Str))
    (hF : ∀ F : Fr, F0.le F → Rg dS d0 F → ∀ i, i < n → (bf i).le F) : ParOut dp F0 dS d (.par ps) := by
  have th := h.th
  have lf := h.lf
  have lf0 := h.lf0
  have it := h.it
  have ce := h.ce
  have pot := h.pot
  have cn := h.cnt
  have o1 := oS.lf0
  have hcl := h.chl
  obtain ⟨j, ej⟩ := eh
  obtain ⟨j', ej'⟩ := h.ch
  have hS : dS.chs.length ≤ d0.chs.length := by
    rw [ej, List.length_append]
    omega
  refine ⟨⟨?_, ?_, lf0, by omega, h.it0, by omega, by omega, h.al.trans ea, h.lo.trans eo, ⟨j + j', by rw [ej', ej, List.append_assoc, List.replicate_append_replicate]⟩, h.c24⟩, fun F l r => Ps.fits_fit h.fits fun f hf => ?_, ⟨⟨fs, h.fits, h.ap⟩, h.rule⟩, ?_, ?_, ?_, ?_, ?_⟩
  · show d.threads = dS.threads + (ps.cnt : Nat)
    omega
  · show d.left = dS.left - (ps.cnt : Nat)
    omega
  · obtain ⟨i, e1, e2, h1, h2, h3, h4, h5, h6, h7, h8⟩ := h.fr f hf
    rw [h2]
    exact rowFr.le (hF F l ⟨fun k a b => r.c k a (by omega), fun c a b => r.h c a (by omega)⟩ i h1) ⟨fun k a b => r.c k (by omega) (by omega), fun c a b => r.h c (by omega) (by omega)⟩
  · have := h.num
    rw [et] at this
    exact this
  · have := h.dep
    simp only [Sx.dep]
    omega
  · have := h.sz
    simp only [Sx.sz]
    omega
  · have := h.wk0
    simp only [Sx.wk]
    omega
  · have hw := h.wk
    rw [eo] at hw
    simp only [Sx.wk]
    unfold wkb at hw ⊢
    by_cases q : dp = 0
    · rw [if_pos q, if_neg (by omega), if_pos (.inl rfl)] at hw
      rw [if_pos q, if_neg (by omega), if_pos (.inl rfl)]
      omega
    · rw [if_neg q, if_neg (by omega)] at hw
      rw [if_neg q, if_neg (by omega)]
      cases hl : dS.loops
      · rw [hl, if_pos (.inr rfl)] at hw
        rw [if_pos (.inr rfl)]
        omega
      · rw [hl, if_neg (by rintro (z | z); omega; cases z)] at hw
        rw [if_neg (by rintro (z | z); omega; cases z)]
        omega
theorem ParOut.skip {dp : Int} {F0 : Fr} {d : Wd} (o : d.ok) : ParOut dp F0 d d .skip := by
  have := o.lf0
  have h5 := @wkb_nn (if dp = 0 then 2 else 3) d.loops (d.items - d.items) (d.left - d.left) (by omega) (by omega)
  exact ⟨Evo.refl o, fun _ _ _ => trivial, trivial, trivial, by simp only [Sx.dep]; omega, by simp only [Sx.sz]; omega, by decide, by simp only [Sx.wk]; omega⟩
theorem frow_fn {ea : Nat → Ea} {i : Nat} {a : Ea} : frow (fun k => (gset ea i a k).e) (i + 1) = frow (fun k => (ea k).e) i ++ [.ref a.e] := by
  unfold frow
  rw [List.range_succ, List.map_append]
  congr 1
  · refine List.map_congr_left fun k hk => ?_
    show V.ref (gset ea i a k).e = V.ref (ea k).e
    rw [gset_ne (by have := List.mem_range.mp hk; omega)]
  · show [V.ref (gset ea i a i).e] = _
    rw [gset_eq]
theorem tg_nin {τ : Tau} {a : Ea} {k : Nat} {N : List Addr} (h : a.tg τ k) (n : ∀ x ∈ N, ∃ t, τ x = some t ∧ ¬ (20 ≤ t.1 ∧ t.1 ≤ 25)) : a.out N := fun x hx z => by
  obtain ⟨f, f0, f1, hf⟩ := h.all x hx
  obtain ⟨t, ht, q⟩ := n x z
  rw [hf] at ht
  cases ht
  exact q ⟨f0, f1⟩
theorem EdB.up {ed : Ed} {d d' : Wd} (h : EdB ed d) (c : d.cells ≤ d'.cells) (l : d.chs.length ≤ d'.chs.length) (f : d'.left ≤ d.left) : EdB ed d' := ⟨h.ok, h.cn, fun k hk => ⟨(h.cb k hk).1, by have := (h.cb k hk).2; omega⟩, h.gn, fun c hc => ⟨(h.gb c hc).1, by have := (h.gb c hc).2; omega⟩, h.tn, fun c hc => ⟨(h.tb c hc).1, by have := (h.tb c hc).2; omega⟩, by have := h.cl; omega, h.gl, h.tl⟩
theorem Itm.alw.up {q q' : Nat} (h : q ≤ q') : ∀ {it : Itm}, it.alw q → it.alw q'
  | .gt _ _ _, a => fun z => Nat.le_trans (a z) h
  | .loop _ _ _, a => Nat.le_trans a h
  | .nest, a => Nat.le_trans a h
theorem ok_par (T : Glo K w mg) (D : Dn K mg "_law_par" s__law_par p__law_par) (L : Nat) (hL : 9 ≤ L) (n : Nat) {sI : Sp} (hI : ∀ m, n = m + 1 → ∀ q, (q = 2 ∨ q = 3) → ∀ vs H Q E, sp_items q m vs H Q E → sI vs H Q E)
    (G__law_draw : Cal P w K mg base "_law_draw" 1 p__law_draw sp_draw) (G__law_env : Cal P w K mg base "_law_env" 2 p__law_env sp_env) (G__law_meetings : Cal P w K mg base "_law_meetings" 3 p__law_meetings sp_meet) (G__law_shared : Cal P w K mg base "_law_shared" 2 p__law_shared sp_shared)
    (G__law_faulty : Cal P w K mg base "_law_faulty" 2 p__law_faulty sp_faulty) (G__law_simple : Cal P w K mg base "_law_simple" 9 p__law_simple (sp_sx 3 5 7)) (G__law_items : Cal P w K mg base "_law_items" L p__law_items sI) :
    Cal P w K mg base "_law_par" (L + 1) p__law_par (sp_par n) := by
  refine D.ok sc__law_par (fun vs H Q E h => ?_) (fun f cdv A outer s H vs Q E hr h => ?_)
  · obtain ⟨_, _, _, _, _, _, _, _, _, rfl, _⟩ := h
    rfl
  obtain ⟨a, eo, M, st, c, wa, ch, d, dp, rfl, ms, mo, so, wi, nw, nc, ei, ao, eb, dok, hl, hdp, q⟩ := h
  refine ⟨_, (pss_cons (ps_set (i := 4) sc__law_par.nd rfl (by first | exact Or.inl rfl | exact Or.inr rfl) (pe_callB (call_min2 rfl) rfl T.n_min (by decide +kernel) (pa_cons (pe_dget (hu_of hr) (pv 2) pe_str (fun _ _ => rfl)) (pa_cons (pe_op op_addA pe_int (pe_cal G__law_draw (hr.mono (by (first | subst "lev" | fail))) rfl (pa_cons (pv 0) (pa_cons pe_int pa_nil)))) pa_nil)))) (pss_cons (ps_if (pt_cmpR op_lt (pv 4) pe_int (nomark _)) (pss_one (ps_ret (pe_tup (pa_cons pe_str pa_nil)))) pss_nil) (pss_cons (ps_dput (hu_of hr) (pv 2) pe_str (pe_op op_sub (pe_dget (hu_of hr) (pv 2) pe_str (fun _ _ => rfl)) (pv 4)) rfl) (pss_cons (ps_setLc (i := 5) (own := [("_law_k", 8)]) (tt := tYes) rfl sc__law_par.nd rfl rfl (sw_true rfl rfl rfl (by decide +kernel)) (pi_range1 rfl T.n_range (pa_cons (pv 4) pa_nil)) (blkOk_by (N := ["_law_state_here", "_law_env_here", "_law_world", "_law_deep", "_law_many", "_law_envs", "_law_scripts", "_law_rows", "_law_k", "_law_thread", "_law_script", "_law_at"]) (sc := defScope s__law_par) (by decide +kernel)) (fun _ _ _ _ _ => (pg_name (i := 8) sc__law_par.nd rfl (by first | exact Or.inl rfl | exact Or.inr rfl))) (fun _ _ _ _ _ => pts_nil) (fun _ _ _ _ _ => (pe_cal G__law_env (hr.mono (by (first | subst "lev" | fail))) rfl (pa_cons (pv 0) (pa_cons (pv 2) pa_nil))))) (pss_cons (ps_setLc (i := 6) (own := [("_law_k", 8)]) (tt := tYes) rfl sc__law_par.nd rfl rfl (sw_true rfl rfl rfl (by decide +kernel)) (pi_range1 rfl T.n_range (pa_cons (pv 4) pa_nil)) (blkOk_by (N := ["_law_state_here", "_law_env_here", "_law_world", "_law_deep", "_law_many", "_law_envs", "_law_scripts", "_law_rows", "_law_k", "_law_thread", "_law_script", "_law_at"]) (sc := defScope s__law_par) (by decide +kernel)) (fun _ _ _ _ _ => (pg_name (i := 8) sc__law_par.nd rfl (by first | exact Or.inl rfl | exact Or.inr rfl))) (fun _ _ _ _ _ => pts_nil) (fun _ _ _ _ _ => (pe_lst pa_nil))) (pss_cons (ps_expr (pe_cal G__law_meetings (hr.mono (by (first | subst "lev" | fail))) rfl (pa_cons (pv 0) (pa_cons (pv 2) (pa_cons (pv 6) (pa_cons (pv 5) pa_nil)))))) (pss_cons (ps_expr (pe_cal G__law_shared (hr.mono (by (first | subst "lev" | fail))) rfl (pa_cons (pv 0) (pa_cons (pv 1) (pa_cons (pv 5) (pa_cons (pv 6) pa_nil)))))) (pss_cons (ps_set (i := 7) sc__law_par.nd rfl (by first | exact Or.inl rfl | exact Or.inr rfl) (pe_lst pa_nil)) (pss_cons (ps_for PassesOwn.never rfl (pi_range1 rfl T.n_range (pa_cons (pv 4) pa_nil)) (pg_name (i := 8) sc__law_par.nd rfl (by first | exact Or.inl rfl | exact Or.inr rfl)) (pss_cons (ps_set (i := 9) sc__law_par.nd rfl (by first | exact Or.inl rfl | exact Or.inr rfl) (pe_dget (hu_of hr) (pv 2) pe_str (fun _ _ => rfl))) (pss_cons (ps_dput (hu_of hr) (pv 2) pe_str (pe_op op_addA (pv 9) pe_int) rfl) (pss_cons (ps_set (i := 10) sc__law_par.nd rfl (by first | exact Or.inl rfl | exact Or.inr rfl) (pe_cal G__law_faulty (hr.mono (by (first | subst "lev" | fail))) rfl (pa_cons (pv 0) (pa_cons (pe_ix ix_seq (pv 6) (pv 8) (fun _ _ => rfl)) pa_nil)))) (pss_cons (ps_if (PW.pt (pw_and (pt_cmpR op_gt (pv 3) pe_int (nomark _)) (pw_and1 (pt_cmpR (op_eqA (hu64 hr)) (pe_cal G__law_draw (hr.mono (by (first | subst "lev" | fail))) rfl (pa_cons (pv 0) (pa_cons pe_int pa_nil))) pe_int (nomark _))))) (pss_cons (ps_set (i := 11) sc__law_par.nd rfl (by first | exact Or.inl rfl | exact Or.inr rfl) (pe_cal G__law_draw (hr.mono (by (first | subst "lev" | fail))) rfl (pa_cons (pv 0) (pa_cons (pe_op op_addA (pe_callB call_lenA rfl T.n_len (by decide +kernel) (pa_cons (pv 10) pa_nil)) pe_int) pa_nil)))) (pss_one (ps_set (i := 10) sc__law_par.nd rfl (by first | exact Or.inl rfl | exact Or.inr rfl) (pe_op op_addA (pe_op op_addA (pe_slice sl_any (pv 10) po_none (po_some (pv 11))) (pe_lst (pa_cons (pe_tup (pa_cons pe_str pa_nil)) pa_nil))) (pe_slice sl_any (pv 10) (po_some (pv 11)) po_none))))) pss_nil) (pss_one (ps_expr (pe_bm PySem.F.plainAttrs_list PySem.F.slot_list_append PySem.F.type_list_append mt_append (pv 7) (pa_cons (pe_tup (pa_cons (pv 9) (pa_cons (pe_tup (pa_cons pe_str (pa_cons (pe_op op_addA (pe_cal G__law_items (hr.mono (by (first | subst "lev" | fail))) rfl (pa_cons (pv 0) (pa_cons (pe_ix ix_seq (pv 5) (pv 8) (fun _ _ => rfl)) (pa_cons (pv 2) (pa_cons (pv 10) pa_nil))))) (pe_lst (pa_cons (pe_cal G__law_simple (hr.mono (by (first | subst "lev" | fail))) rfl (pa_cons (pv 0) (pa_cons (pe_ix ix_seq (pv 5) (pv 8) (fun _ _ => rfl)) pa_nil))) pa_nil))) pa_nil))) pa_nil))) pa_nil))))))))) (pss_one (ps_ret (pe_tup (pa_cons pe_str (pa_cons (pv 7) pa_nil)))))))))))))), ?_⟩
  try dsimp only [cxOf, Cx.nox]
  have soH := so
  obtain ⟨τ0, g0⟩ := G0.start so wi nw nc
  repeat' (first | specialize "st" | fail)
  refine ⟨_, _, rfl, ?_⟩
  obtain ⟨mm, em⟩ : ∃ mm : Int, mm = (if 2 + dn < d.left then 2 + dn else d.left) := ⟨_, rfl⟩
  have hm : mm ≤ d.left ∧ mm ≤ 4 := by
    rw [em]
    split <;> omega
  rw [← em]
  clear em
  have so0 := so
  have g1 := g0.frame ke (al_st ke so) so (wi.kp ke nw nc) (fun x hx => .inl (by
    simp only [List.mem_cons, List.not_mem_nil, or_false] at hx ⊢
    rcases hx with h | h <;> simp [h]))
  by_cases h2 : mm < 2
  · repeat' (first | specialize "st" | fail)
    exact q .skip _ d _ ⟨_, rfl, hn⟩ (ParOut.skip dok) (by (first | subst "kpx" | fail)) (by (first | subst "st_ok" | fail)) (by (first | subst "win" | fail))
  · obtain ⟨H1, rfl⟩ : ∃ x, x = Hn := ⟨_, rfl⟩
    have hkH : Kp [st, c] H H1 := ke
    clear ke
    obtain ⟨nm, rfl⟩ : ∃ nm : Nat, mm = (nm : Int) := ⟨mm.toNat, by omega⟩
    have wi1 := g1.wi
    repeat' (first | specialize "st" | fail)
    have g2 := g1.frame kw (al_one kw wi.al.1) (st_kpx kw (alln_c nw alln_n) g1.so) wi (fun y hy => by
      rw [List.mem_singleton.mp hy]
      exact .inl (by simp))
    obtain ⟨H2, rfl⟩ : ∃ x, x = Hn := ⟨_, rfl⟩
    clear g1 wi1 hkH kw so
    obtain ⟨d1, ed1⟩ : ∃ x, x = { d with left := d.left - (nm : Int) } := ⟨_, rfl⟩
    have cd1 : d1.cells = d.cells := by rw [ed1]
    rw [← ed1] at g2 wi
    clear wi
    have hnl : (nm : Int) ≤ 4 := hm.2
    have pt := dok.pot
    have c0 := dok.ce0
    have l0 := dok.lf0
    have i0 := dok.it0
    intro EA hEA
    obtain ⟨τ1, l1, tE, g3⟩ := g2.new (Ex.mk (o := .lst []) hEA rfl) hEA (fsome upd_same) (28, 1)
    refine lc_range (lo := 0) (n := _) (fun i H' => ∃ (τ : Tau) (ea : Nat → Ea) (ed : Nat → Ed) (b : Nat → Int), TgLe τ1 τ ∧ G0 st c wa ch τ H H' { d1 with cells := b i } ∧ b 0 = d.cells ∧ (∀ k, k < i → (ed k).fresh (b k) (b (k + 1))) ∧ d.cells ≤ b i ∧ b i ≤ d.cells + 6 * i ∧ H' EA = some (.lst (frow (fun k => (ea k).e) i)) ∧ ∀ k, k < i → (ea k).tg τ k ∧ EIn (ea k) (ed k) H') ?_ ?_ ?_
    · refine ⟨τ1, fun _ => a, fun _ => eo, fun _ => d.cells, TgLe.refl _, ?_, rfl, fun k hk => absurd hk (Nat.not_lt_zero k), Int.le_refl _, by simp, upd_same, fun k hk => absurd hk (Nat.not_lt_zero k)⟩
      rw [← cd1]
      exact g3
    · rintro i H' hi ⟨τ, ea, ed, b, le, g, b0, hb, hb1, hb2, hE, he⟩
      have hi4 : i < 4 := by omega
      refine ⟨rfl, ?_⟩
      repeat' (first | specialize "st" | fail)
      refine c_env g.so g.wi nw nc (by show 0 ≤ b i; omega) (by show b i ≤ 2000; omega) ?_
      intro a1 e1 m1 H3 hf nd hin fr1 k1 so3 wi3
      obtain ⟨τ2, l2, t2, g4⟩ := g.env (i := i) hf nd hin k1 so3 wi3
      have tE2 : τ2 EA = some (28, 1) := l2 _ _ (le _ _ tE)
      have nst : ∀ {x : Addr} {t : Nat × Nat}, τ2 x = some t → 20 ≤ t.1 → x ∉ [st, c, wa] := fun {x t} hx h z => by
        simp only [List.mem_cons, List.not_mem_nil, or_false] at z
        rcases z with rfl | rfl | rfl
        · rw [g4.t1] at hx; cases hx; simp at h
        · rw [g4.t2] at hx; cases hx; simp at h
        · rw [g4.t3] at hx; cases hx; simp at h
      have hE3 := k1.out _ _ (nst tE2 (by simp)) hE
      refine ⟨_, hE3, sl1000' (by rw [frow_len]; omega), ?_⟩
      generalize hq : upd H3 EA _ = H9
      have k9 := kp_upd hE3 hq
      have h9 := at_new hq
      have g5 := g4.one k9 (fsome h9) tE2 (by simp)
      have f1 : e1.fresh (b i) m1 := fr1
      have out9 : ∀ {x : Ea} {k : Nat}, x.tg τ2 k → x.out [EA] := fun {x k} hx => tg_nin hx fun y hy => ⟨(28, 1), by rw [List.mem_singleton.mp hy]; exact tE2, by simp⟩
      refine ⟨τ2, gset ea i a1, gset ed i e1, gset b (i + 1) m1, le.trans l2, ?_, ?_, fun k hk => ?_, ?_, ?_, ?_, fun k hk => ?_⟩
      · rw [gset_eq]
        exact g5
      · rw [gset_ne (by omega)]
        exact b0
      · by_cases q1 : k = i
        · subst q1
          rw [gset_eq, gset_eq, gset_ne (by omega)]
          exact f1
        · rw [gset_ne q1, gset_ne (by omega), gset_ne (by omega)]
          exact hb k (by omega)
      · rw [gset_eq]
        have := f1.lo
        omega
      · rw [gset_eq]
        have := f1.hi
        omega
      · rw [h9, frow_fn]
      · by_cases q1 : k = i
        · subst q1
          rw [gset_eq, gset_eq]
          exact ⟨t2, hin.kp k9 (out9 t2)⟩
        · rw [gset_ne q1, gset_ne q1]
          have h1 := he k (by omega)
          have tk := h1.1.le l2
          refine ⟨tk, (h1.2.kp k1 fun x hx => ?_).kp k9 (out9 tk)⟩
          obtain ⟨f, f0, f1, hf⟩ := tk.all x hx
          exact nst hf f0
    · rintro H3 ⟨τ3, ea, ed, b, le3, g4, b0, hb, hb1, hb2, hE, he⟩
      have e1 : ((nm : Int)).toNat = nm := by omega
      rw [e1] at g4 hb hb1 hb2 hE he
      have tE3 := le3 _ _ tE
      obtain ⟨d2, ed2⟩ : ∃ x, x = { d1 with cells := b nm } := ⟨_, rfl⟩
      rw [← ed2] at g4
      clear g3 g2 hEA
      repeat' (first | specialize "st" | fail)
      intro SA hSA
      obtain ⟨τ4, l4, tS, g5⟩ := g4.new (Ex.mk (o := .lst []) hSA rfl) hSA (fsome upd_same) (28, 0)
      refine lc_range (lo := 0) (n := _) (fun i H' => ∃ (τ : Tau) (la : Nat → Addr), TgLe τ4 τ ∧ G0 st c wa ch τ H H' d2 ∧ H' SA = some (.lst (frow la i)) ∧ H' EA = some (.lst (frow (fun k => (ea k).e) nm)) ∧ (∀ k, k < nm → EIn (ea k) (ed k) H') ∧ ∀ k, k < i → τ (la k) = some (26, k) ∧ H' (la k) = some (.lst [])) ?_ ?_ ?_
      · have ex : Ex H3 (upd H3 SA (.lst [])) := Ex.mk hSA rfl
        exact ⟨τ4, fun _ => 0, TgLe.refl _, g5, upd_same, ex _ _ hE, fun k hk => (he k hk).2.exx ex, fun k hk => absurd hk (Nat.not_lt_zero k)⟩
      · rintro i H' hi ⟨τ, la, le, g, hS, hE, hen, hla⟩
        have hi4 : i < 4 := by omega
        refine ⟨rfl, ?_⟩
        repeat' (first | specialize "st" | fail)
        obtain ⟨τ5, l5, tp, g6⟩ := g.new ke hp (fsome hn) (26, i)
        have hS2 := ke _ _ hS
        have tS5 : τ5 SA = some (28, 0) := l5 _ _ (le _ _ tS)
        have tE5 : τ5 EA = some (28, 1) := l5 _ _ (le _ _ (l4 _ _ tE3))
        refine ⟨_, hS2, sl1000' (by rw [frow_len]; omega), ?_⟩
        generalize hq : upd Hn SA _ = H9
        have k9 := kp_upd hS2 hq
        have h9 := at_new hq
        have nS : ∀ {x : Addr} {t : Nat × Nat}, τ5 x = some t → t ≠ (28, 0) → x ∉ [SA] := fun {x t} hx h z => by
          rw [List.mem_singleton.mp z, tS5] at hx
          exact h (Option.some.inj hx).symm
        refine ⟨τ5, fset la i p, le.trans l5, g6.one k9 (fsome h9) tS5 (by simp), by rw [h9, frow_set], k9.out _ _ (nS tE5 (by intro z; cases z)) (ke _ _ hE), fun k hk => ((hen k hk).exx ke).kp k9 (fun x hx => ?_), fam_step (P := fun k x => τ5 x = some (26, k) ∧ H9 x = some (.lst [])) (fun k hk => ⟨l5 _ _ (hla k hk).1, k9.out _ _ (nS (l5 _ _ (hla k hk).1) (by intro z; cases z)) (ke _ _ (hla k hk).2)⟩) ⟨tp, k9.out _ _ (nS tp (by intro z; cases z)) hn⟩⟩
        obtain ⟨f, f0, f1, hf⟩ := ((he k hk).1.le (l4.trans (le.trans l5))).all x hx
        exact nS hf (by intro z; cases z; omega)
      · rintro H4 ⟨τ, la, le, g, hS, hE, hen, hla⟩
        rw [e1] at hS hla
        have gs : GS st c wa ch SA EA nm ea la ed (fun _ => []) τ 0 H H4 d2 := ⟨g.kp, g.so, g.wi, g.tg, g.fr, g.t1, g.t2, g.t3, g.t4, le _ _ tS, le _ _ (l4 _ _ tE3), hS, hE, fun k hk => (he k hk).1.le (l4.trans le), hen, fun k hk => (hla k hk).1, fun k hk => ⟨[], (hla k hk).2, .nil⟩⟩
        clear g g5 hSA hla hS hE hen he
        repeat' (first | specialize "st" | fail)
        have cd2 : d2.cells = b nm := by rw [ed2]
        have hd2 : d2.chs = d.chs := by rw [ed2, ed1]
        have hb0 : d.cells ≤ d2.cells := by rw [cd2]; exact hb1
        refine ⟨st, c, wa, ch, SA, EA, nm, ea, la, ed, (fun _ => []), τ, H, d2, d.cells, rfl, by omega, by omega, gs, sep_fresh hb (fun x h1 h2 => ⟨by omega, by omega⟩), hb0, by rw [hd2]; exact dok.c24, fun _ _ => rfl, ?_⟩
        intro ed3 scr3 τ5 d3 H5 l5 gs3 sep3 ev3 ce3 sm3 sl3
        clear gs
        repeat' (first | specialize "st" | fail)
        refine ⟨st, c, wa, ch, SA, EA, nm, ea, la, ed3, scr3, τ5, H, d3, a, eo, fun x => x ∈ eo.cells ∨ d.cells ≤ x ∧ x < d3.cells, fun x => x ∈ eo.gives ∨ (d.chs.length : Int) ≤ x ∧ x < d3.chs.length, fun x => x ∈ eo.takes ∨ (d.chs.length : Int) ≤ x ∧ x < d3.chs.length, rfl, by omega, by omega, gs3, ei, ao.sub ms,
          sep3.mono (fun x h => .inr h) (fun x h => .inr ⟨by rw [← hd2]; exact h.1, h.2⟩) (fun x h => .inr ⟨by rw [← hd2]; exact h.1, h.2⟩), eb.cn, eb.gn, eb.tn, by have := eb.cl; omega, eb.gl, eb.tl, fun x hx => ⟨.inl hx, fun k hk r => by have := (sep3.rb k hk x r).1; have := (eb.cb x hx).2; omega⟩,
          fun x hx => ⟨.inl hx, fun k hk r => by have := (sep3.gb k hk x r).1; have := (eb.gb x hx).2; rw [hd2] at *; omega⟩, fun x hx => ⟨.inl hx, fun k hk r => by have := (sep3.tb k hk x r).1; have := (eb.tb x hx).2; rw [hd2] at *; omega⟩, sl3,
          fun k hk => ⟨Nat.le_trans (nd_len d3.chs.length _ (sep3.gn k hk) fun x hx => by have := sep3.gb k hk x hx; omega) ev3.c24, Nat.le_trans (nd_len d3.chs.length _ (sep3.tn k hk) fun x hx => by have := sep3.tb k hk x hx; omega) ev3.c24⟩,
          fun k hk => by rw [(sm3 k hk).1, (sm3 k hk).2.1, (hb k hk).cells, (hb k hk).reads]; simp, ?_⟩
        intro ed4 la4 scr4 τ6 H6 l6 gs4 sep4 cl4 sl4
        clear gs3
        repeat' (first | specialize "st" | fail)
        obtain ⟨rl, rfl⟩ : ∃ x, x = p := ⟨_, rfl⟩
        obtain ⟨HR, rfl⟩ : ∃ x, x = Hn := ⟨_, rfl⟩
        have gsR := gs4.ex ke
        have frM : ∀ x, H x = none → x ∉ M := fun x hx => mo.fresh soH hx
        have hrlw : rl ∉ Mw st c wa ch := fun z => by
          obtain ⟨t, ht, _⟩ := gs4.mwt rl z
          exact gs4.tg rl t ht hp
        have hrl0 : H rl = none := free_backK gs4.kp hrlw hp
        obtain ⟨M6, e6⟩ : ∃ M6, M6 = rl :: M := ⟨_, rfl⟩
        have out6 : ∀ {x : Addr} {t : Nat × Nat}, τ6 x = some t → 20 ≤ t.1 → x ∉ M6 := fun {x t} hx h z => by
          rw [e6] at z
          rcases List.mem_cons.mp z with rfl | z
          · exact gs4.tg _ _ hx hp
          · exact frM _ (gs4.fr _ _ hx h) z
        have ms6 : ∀ x, x ∈ Mw st c wa ch → x ∈ M6 := fun x hx => e6 ▸ List.mem_cons_of_mem _ (ms _ hx)
        have ml6 : ∀ x, x ∈ M → x ∈ M6 := fun x hx => e6 ▸ List.mem_cons_of_mem _ hx
        have m51 : st ∈ M6 := ms6 _ (by simp)
        have m52 : c ∈ M6 := ms6 _ (by simp)
        have m53 : wa ∈ M6 := ms6 _ (by simp)
        have m54 : ch ∈ M6 := ms6 _ (by simp)
        have m55 : rl ∈ M6 := e6 ▸ List.mem_cons_self ..
        have nrM : rl ∉ M := frM _ hrl0
        have nrs : rl ∉ [st, c] := fun z => hrlw (by
          simp only [List.mem_cons, List.not_mem_nil, or_false] at z ⊢
          rcases z with z | z <;> simp [z])
        have nfw : wa ≠ rl := fun z => hrlw (by simp [z])
        have nfc : ch ≠ rl := fun z => hrlw (by simp [z])
        have mo6 : MoS M6 st c HR := by
          rw [e6]
          exact (mo.al (al_mw gsR.kp gsR.so gsR.wi)).cons (fsome hn)
        have eaO : ∀ k, k < nm → (ea k).out M6 := fun k hk x hx => by
          obtain ⟨f, f0, f1, hf⟩ := (gsR.te k hk).all x hx
          exact out6 hf f0
        have eaR := gsR.ee
        have itR : ∀ k, k < nm → ∃ xs, HR (la4 k) = some (.lst xs) ∧ la4 k ∉ M6 ∧ Its M6 HR xs (scr4 k) := fun k hk => by
          obtain ⟨xs, h1, h2⟩ := gsR.ll k hk
          exact ⟨xs, h1, out6 (gsR.tl k hk) (by simp), Paired.mapP h2 fun v it q => q.out fun x j hx => out6 hx (by simp)⟩
        have hSA := gsR.hS
        have hEA := gsR.hE
        have nSA : SA ∉ M6 := out6 gsR.tS (by simp)
        have nEA : EA ∉ M6 := out6 gsR.tE (by simp)
        have kHR := gsR.kp
        have soR := gsR.so
        have wiR := gsR.wi
        have fl4 : (frow la4 nm).length = nm := frow_len
        have fle : (frow (fun k => (ea k).e) nm).length = nm := frow_len
        have evc := ev3.ce
        have evl := ev3.lf
        have evi := ev3.it
        have ecd : d2.left = d.left - (nm : Int) ∧ d2.items = d.items ∧ d2.threads = d.threads ∧ d2.alts = d.alts ∧ d2.loops = d.loops := by
          rw [ed2, ed1]
          exact ⟨rfl, rfl, rfl, rfl, rfl⟩
        have chl3 : d.chs.length ≤ d3.chs.length := by
          obtain ⟨j, ej⟩ := ev3.ch
          rw [ej, hd2, List.length_append]
          omega
        have ok3 : d3.ok := ⟨by omega, by omega, by omega, by omega, ev3.c24⟩
        have un : ∀ i, i < nm → (bfr ed4 scr4 i).under d3.cells d3.chs.length := fun i hi => ⟨sep4.wr hi, fun x r => by
          rcases sep4.rb i hi x r with h | h
          · have := (eb.cb x h).2; omega
          · exact h.2, fun x r => by
          rcases sep4.gb i hi x r with h | h
          · have := (eb.gb x h).2; omega
          · exact h.2, fun x r => by
          rcases sep4.tb i hi x r with h | h
          · have := (eb.tb x h).2; omega
          · exact h.2⟩
        have eb4 : ∀ k, k < nm → EdB (ed4 k) d3 := fun k hk => by
          obtain ⟨q1, q2, q3, q4⟩ := cl4 k hk
          have ecl := eb.cl
          have gb' : ∀ c ∈ (ed4 k).gives, 0 ≤ c ∧ c < (d3.chs.length : Int) := fun c hc => by
            rcases sep4.gb k hk c hc with h | h
            · have := eb.gb c h; omega
            · omega
          have tb' : ∀ c ∈ (ed4 k).takes, 0 ≤ c ∧ c < (d3.chs.length : Int) := fun c hc => by
            rcases sep4.tb k hk c hc with h | h
            · have := eb.tb c h; omega
            · omega
          refine ⟨⟨sep4.cr k hk, sep4.sp k hk, q1, by omega, by omega, ?_⟩, sep4.cn k hk, fun x hx => ?_, sep4.gn k hk, gb', sep4.tn k hk, tb', by omega, Nat.le_trans (nd_len _ _ (sep4.gn k hk) gb') ev3.c24, Nat.le_trans (nd_len _ _ (sep4.tn k hk) tb') ev3.c24⟩
          · rw [q4, (sm3 k hk).2.2]
            have := (hb k hk).sl
            omega
          · rcases sep4.rb k hk x (.inl (sep4.cr k hk x hx)) with h | h
            · have := eb.cb x h; omega
            · omega
        have fit4 := sep4.fits
        have hF : ∀ F : Fr, (eo.fr []).le F → Rg d d3 F → ∀ i, i < nm → (bfr ed4 scr4 i).le F := fun F lF rF i hi => by
          have hr : ∀ x, (bfr ed4 scr4 i).R x → F.W x ∧ F.R x := fun x r => by
            rcases sep4.rb i hi x r with h | h
            · exact ⟨lF.w x (.inl h), lF.r x (.inl (eb.ok.cr x h))⟩
            · exact rF.c x h.1 h.2
          exact ⟨fun x w => (hr x (sep4.wr hi x w)).1, fun x r => (hr x r).2, fun x g => by
            rcases sep4.gb i hi x g with h | h
            · exact lF.g x h
            · exact (rF.h x h.1 h.2).1, fun x g => by
            rcases sep4.tb i hi x g with h | h
            · exact lF.t x h
            · exact (rF.h x h.1 h.2).2⟩
        have ap4 := sep4.ap
        obtain ⟨m, hmn⟩ : ∃ m, n = m + 1 := ⟨n - 1, by omega⟩
        have hl3 : d3.left ≤ 2 * m + 1 := by omega
        obtain ⟨qq, hqq⟩ : ∃ qq : Nat, qq = (if dp = 0 then 2 else 3) := ⟨_, rfl⟩
        have hq23 : qq = 2 ∨ qq = 3 := by
          rw [hqq]
          split
          · exact .inl rfl
          · exact .inr rfl
        have hIt := hI m hmn qq hq23
        have hc9 : d.cells ≤ d3.cells ∧ d3.cells ≤ d.cells + 9 * (nm : Int) := by omega
        have kR0 : True ∧ Kp (Mw st c wa ch) H HR := ⟨trivial, kHR⟩
        clear gs4 gsR kHR hp ke mo sep4 sep3 out6 frM so0 soH g0 tE l1 le3 l4 tS le l5 l6 sm3 sl3 hb hb1 hb2 b0
        refine w_rng (lo := 0) (n := _) (fun k σ H' => ∃ (x8 x9 x10 x11 : Option V) (d' : Wd) (ps : Ps) (fs : List Fr) (rs : List V), σ = [some (.ref st), some (.ref a.e), some (.ref wa), some (.int dp), some (.int (nm : Int)), some (.ref EA), some (.ref SA), some (.ref rl), x8, x9, x10, x11] ∧ H' rl = some (.lst rs) ∧ ps.In M6 H' rs ∧ RwI qq nm (bfr ed4 scr4) (eo.fr []) d3 d' k ps fs ∧ Kp M6 HR H' ∧ Kp (Mw st c wa ch) H H' ∧ StOk st c H' ∧ WIn wa ch d' H' ∧ MoS M6 st c H') ?_ ?_ ?_
        · exact ⟨none, none, none, none, d3, .nil, [], [], rfl, hn, rfl, RwI.zero ok3, Kp.refl _, kR0.2, soR, wiR, mo6⟩
        · rintro k σ H' hk ⟨x8, x9, x10, x11, d', ps, fs, rs, rfl, hrs, hps, hR, kM, kH, so, wi, mo⟩
          have hkn : k < nm := by omega
          obtain ⟨xs, hxs, nxs, hits⟩ := itR k hkn
          have hxs := kM.out _ _ nxs hxs
          have hits := its_ksub kM (fun _ h => h) hits
          have ei4 : EIn (ea k) (ed4 k) H' := (eaR k hkn).ksub kM (eaO k hkn) (fun _ h => h)
          have hSA := kM.out _ _ nSA hSA
          have hEA := kM.out _ _ nEA hEA
          have ok' := hR.wok ok3
          have ebk : EdB (ed4 k) d' := (eb4 k hkn).up hR.ce hR.chl (by have := hR.lf; omega)
          have nSs : SA ∉ [st, c] := fun z => nSA (subm_c m51 (subm_c m52 subm_n) _ z)
          have nEs : EA ∉ [st, c] := fun z => nEA (subm_c m51 (subm_c m52 subm_n) _ z)
          have nSw : SA ∉ [wa] := fun z => nSA (subm_c m53 subm_n _ z)
          have nEw : EA ∉ [wa] := fun z => nEA (subm_c m53 subm_n _ z)
          have nxw : la4 k ∉ [wa] := fun z => nxs (subm_c m53 subm_n _ z)
          have hlen : (scr4 k).length ≤ 200 := sl4 k hkn
          have hfk := fit4 k hkn
          have hrl2 : rs.length ≤ 60000 := by
            have h1 := Ps.in_len hps
            have h2 := hR.sz
            have h3 := ok3.pot
            have h4 := ok'.lf0
            have h5 := ok'.it0
            have h6 := ok3.ce0
            have h7 := ok3.lf0
            have h8 := ok3.it0
            omega
          have kG : True ∧ Kp M6 HR H' ∧ Kp (Mw st c wa ch) H H' := ⟨trivial, kM, kH⟩
          clear kM kH eb4 fit4 eaR itR hF sl4 cl4
          clear mo6 wiR soR
          repeat' (first | specialize "st" | fail)
          obtain ⟨H2, rfl⟩ : ∃ x, x = Hn := ⟨_, rfl⟩
          obtain ⟨d6, e6d⟩ : ∃ x, x = { d' with threads := d'.threads + 1 } := ⟨_, rfl⟩
          rw [← e6d] at wi
          have sw : ∀ x, x ∈ [wa] → x ∈ M6 := subm_c m53 subm_n
          have so2 : StOk st c H2 := st_kpx kw (alln_c nw alln_n) so
          have mo2 : MoS M6 st c H2 := mo.al (al_one kw wi.al1)
          have hxs2 := kw.out _ _ nxw hxs
          have hits2 := its_ksub kw sw hits
          have ei2 : EIn (ea k) (ed4 k) H2 := ei4.ksub kw (eaO k hkn) sw
          have hSA2 := kw.out _ _ nSw hSA
          have hEA2 := kw.out _ _ nEw hEA
          have hrs2 : H2 rl = some (.lst rs) := kw.out _ _ (fun z => nfw (List.mem_singleton.mp z).symm) hrs
          have hps2 : ps.In M6 H2 rs := hps.kp (kw.sub sw)
          have kG2 : True ∧ Kp M6 HR H2 ∧ Kp (Mw st c wa ch) H H2 := ⟨trivial, kG.2.1.trans (kw.sub sw), kG.2.2.trans (kw.sub (subm_c (by simp) subm_n))⟩
          have ok6 : d6.ok := by
            rw [e6d]
            exact ⟨ok'.lf0, ok'.it0, ok'.ce0, ok'.pot, ok'.c24⟩
          have eb6 : EdB (ed4 k) d6 := by
            rw [e6d]
            exact ⟨ebk.ok, ebk.cn, ebk.cb, ebk.gn, ebk.gb, ebk.tn, ebk.tb, ebk.cl, ebk.gl, ebk.tl⟩
          have hl6 : d6.left ≤ 2 * m + 1 := by
            rw [e6d]
            have := hR.lf
            show d'.left ≤ _
            omega
          clear hxs hits ei4 hSA hEA hrs hps kw so mo kG
          refine q_ixL (sql hSA2) (frow_atI hkn) ?_
          iterate 1 ((first | specialize "st" | fail))
          refine ⟨M6, st, c, la4 k, xs, scr4 k, fun it => it.fits (ed4 k) (ctr (scr4 k)) ∧ it.alw 2, rfl, m51, m52, mo2, so2, hxs2, nxs, hits2, hfk, by omega, ?_⟩
          intro l1 ys1 its1 H3 hl1 nl1 hits1 hP1 hlen1 k3 so3
          have sw2 : ∀ x, x ∈ [st, c] → x ∈ M6 := subm_c m51 (subm_c m52 subm_n)
          have mo3 : MoS M6 st c H3 := mo2.kp k3
          have wi3 : WIn wa ch d6 H3 := by
            rename_i wi'
            exact WIn.kp k3 nw nc (by assumption)
          have ei3 : EIn (ea k) (ed4 k) H3 := ei2.ksub k3 (eaO k hkn) sw2
          have hEA3 := k3.out _ _ nEs hEA2
          have hrs3 : H3 rl = some (.lst rs) := k3.out _ _ nrs hrs2
          have hps3 : ps.In M6 H3 rs := hps2.kp (k3.sub sw2)
          have kG3 : True ∧ Kp M6 HR H3 ∧ Kp (Mw st c wa ch) H H3 := ⟨trivial, kG2.2.1.trans (k3.sub sw2), kG2.2.2.trans (kp_sub2 k3 (by simp) (by simp))⟩
          have nl1s : l1 ∉ [st, c] := fun z => nl1 (sw2 _ z)
          have hl1l : ys1.length ≤ 200 := by
            rw [Paired.length hits1]
            omega
          clear hxs2 hits2 ei2 hSA2 hEA2 hrs2 hps2 so2 mo2 kG2 k3 wi
          iterate 2 ((first | specialize "st" | fail))
          refine ifsj (fun σ' H4 => ∃ (y11 : Option V) (l3 : Addr) (ys3 : List V) (its3 : List Itm), σ' = [some (.ref st), some (.ref a.e), some (.ref wa), some (.int dp), some (.int (nm : Int)), some (.ref EA), some (.ref SA), some (.ref rl), some (.int (0 + (k : Int))), some (.int d'.threads), some (.ref l3), y11] ∧ H4 rl = some (.lst rs) ∧ H4 l3 = some (.lst ys3) ∧ l3 ∉ M6 ∧ Its M6 H4 ys3 its3 ∧ (∀ it ∈ its3, it.fits (ed4 k) (ctr (scr4 k)) ∧ it.alw qq) ∧ Kp M6 H3 H4 ∧ Kp (Mw st c wa ch) H H4 ∧ StOk st c H4 ∧ WIn wa ch d6 H4 ∧ MoS M6 st c H4) (fun nx' hn' => ?_) (fun σ' H4 hR4 => ?_)
          · have ph : ∀ it ∈ its1, it.fits (ed4 k) (ctr (scr4 k)) ∧ it.alw qq := fun it hit => ⟨(hP1 it hit).1, (hP1 it hit).2.up (by omega)⟩
            rcases hdp with rfl | rfl
            · repeat' (first | specialize "st" | fail)
              exact hn' _ _ ⟨_, l1, ys1, its1, rfl, hrs3, hl1, nl1, hits1, ph, Kp.refl _, kG3.2.2, so3, wi3, mo3⟩
            · have hq3 : 3 ≤ qq := by
                rw [hqq]
                decide
              repeat' (first | specialize "st" | fail)
              · refine q_cutTo (xs := ys1) (c := dn.toNat) (by omega) (by (first | exists "lift" | fail)) (fun p1 A1 f1 c1 h1 => ?_)
                obtain ⟨kn, hkn2⟩ : ∃ kn, kn = dn.toNat := ⟨_, rfl⟩
                rw [← hkn2] at h1
                repeat' (first | specialize "st" | fail)
                refine q_cutFrom (xs := ys1) (c := kn) (by omega) (by (first | exists "lift" | fail)) (fun p2 A2 f2 c2 h2' => ?_)
                refine q_catN (by (first | exists "lift" | fail)) h2' (by simp only [List.length_append, List.length_take, List.length_drop, List.length_cons, List.length_nil]; omega) (fun p Hn hp ke hn => ?_)
                repeat' (first | specialize "st" | fail)
                have hN : Its M6 Hn ys1 its1 := by (first | subst "its" | fail)
                have kH := kG3.2.2
                exact hn' _ _ ⟨_, p, _, its1.take kn ++ [Itm.nest] ++ its1.drop kn, rfl, by (first | exists "lift" | fail), hn, by (first | exists "nm" | fail), pair_app (pair_app (pair_take kn hN) (.cons ⟨_, rfl, by (first | exists "lift" | fail)⟩ .nil)) (pair_drop kn hN), fun it hit => (by
                  rcases List.mem_append.mp hit with hit | hit
                  · rcases List.mem_append.mp hit with hit | hit
                    · exact ph it (List.mem_of_mem_take hit)
                    · rw [List.mem_singleton.mp hit]
                      exact ⟨trivial, hq3⟩
                  · exact ph it (List.mem_of_mem_drop hit)), by (first | subst "kp5" | fail), by (first | subst "kpx" | fail), by (first | subst "st_ok" | fail), by (first | subst "win" | fail), by (first | exists "mok" | fail)⟩
              · have kH := kG3.2.2
                exact hn' _ _ ⟨_, l1, ys1, its1, rfl, by (first | exists "lift" | fail), by (first | exists "lift" | fail), nl1, by (first | subst "its" | fail), ph, by (first | subst "kp5" | fail), by (first | subst "kpx" | fail), by (first | subst "st_ok" | fail), by (first | subst "win" | fail), by (first | exists "mok" | fail)⟩
          · obtain ⟨y11, l3, ys3, its3, rfl, hrs4, hl3, nl3, hits3, hP3, kM3, kH4, so4, wi4, mo4⟩ := hR4
            have ei4 : EIn (ea k) (ed4 k) H4 := ei3.ksub kM3 (eaO k hkn) (fun _ h => h)
            have hEA4 := kM3.out _ _ nEA hEA3
            have hps4 : ps.In M6 H4 rs := hps3.kp kM3
            have kG4 : True ∧ Kp M6 HR H4 ∧ Kp (Mw st c wa ch) H H4 := ⟨trivial, kG3.2.1.trans kM3, kH4⟩
            clear kM3 kH4 kG3 hps3 hrs3 hEA3 ei3 wi3 mo3 so3 hits1 hl1
            repeat' (first | specialize "st" | fail)
            refine q_ixL (sql hEA4) (frow_atI hkn) ?_
            repeat' (first | specialize "st" | fail)
            refine hIt _ _ _ _ (c_items (cs := ctr (scr4 k)) ms6 mo4 so4 wi4 nw nc ei4 (eaO k hkn) eb6 ok6 hl6 hl3 nl3 hits3 hP3 ?_)
            intro ss l7 ys7 d7 H5 hl7 nl7 hss po kp5 so5 wi5
            have mo5 : MoS M6 st c H5 := moS_mw kp5 so5 wi5 mo4
            have ei5 : EIn (ea k) (ed4 k) H5 := ei4.ksub kp5 (eaO k hkn) ms6
            have en5 : EnvOk ((ed4 k).fr (ctr (scr4 k))).W ((ed4 k).fr (ctr (scr4 k))).R st c (ea k).e H5 := ei5.env2 eb6.ok (eaO k hkn) m51 m52
            have hEA5 := kp5.out _ _ (fun z => nEA (ms6 _ z)) hEA4
            have hrs5 := kp5.out _ _ hrlw hrs4
            have hps5 : ps.In M6 H5 rs := hps4.kp (kp5.sub ms6)
            have nl7s : l7 ∉ [st, c] := fun z => nl7 (sw2 _ z)
            have hy7 : ys7.length ≤ 60000 := by
              have h1 := Ss.in_len hss
              have h2 := po.sz
              have h3 := ok6.pot
              have h4 := po.evo.lf0
              have h5 := po.evo.it0
              have h6 := ok6.ce0
              have h7 := ok6.lf0
              have h8 := ok6.it0
              omega
            have kG5 : True ∧ Kp M6 HR H5 ∧ Kp (Mw st c wa ch) H H5 := ⟨trivial, kG4.2.1.trans (kp5.sub ms6), kG4.2.2.trans kp5⟩
            clear hEA4 hrs4 hps4 kG4 ei4 kp5 so4 wi4 mo4 hl3 hits3
            repeat' (first | specialize "st" | fail)
            refine q_ixL (sql hEA5) (frow_atI hkn) ?_
            repeat' (first | specialize "st" | fail)
            rename_i B1 kb1 p1 B2 hp1 eb2 hn1 p2 B3 hp2 eb3 hn2 p3 B4 hp3 eb4' hn3 B5
            have nm2 : p2 ∉ M6 := MoS.fresh (st := st) (c := c) (H := B2) (by (first | subst "st_ok" | fail)) (by (first | exists "mok" | fail)) hp2
            have n2r : p2 ≠ rl := fun z => nm2 (z ▸ m55)
            have hx2 : Hn p2 = some (.lst (ys7 ++ [v])) := by (first | exists "lift" | fail)
            have po' : ItOut qq (bfr ed4 scr4 k) { d' with threads := d'.threads + 1 } d7 ss := by
              rw [← e6d]
              exact po
            have hR' := hR.step hkn po' sk ok3 un ap4 (Int.le_refl _) (Int.le_refl _)
            have kM := kG5.2.1
            have kH := kG5.2.2
            exact ⟨_, _, _, _, d7, ps.app (.cons d'.threads (.seq (ss.app (.cons sx .nil))) .nil), _, rs ++ [.ref p], rfl, hu, Ps.app_in (by (first | subst "ps" | fail)) ⟨p, .ref p3, [], rfl, by (first | exists "lift" | fail), sxi_seq (l := p2) (by (first | exists "lift" | fail)) hx2 nm2 (Ss.app_in (by (first | subst "ss" | fail)) ⟨v, [], rfl, by (first | subst "sx" | fail), rfl⟩), rfl⟩, hR', by (first | subst "kp5" | fail), by (first | subst "kpx" | fail), by (first | subst "st_ok" | fail), by (first | subst "win" | fail), by (first | exists "mok" | fail)⟩
        · rintro σ H' ⟨x8, x9, x10, x11, d', ps, fs, rs, rfl, hrs, hps, hR, kM, kH, so, wi, mo⟩
          rw [e1] at hR
          rw [hqq] at hR
          repeat' (first | specialize "st" | fail)
          have hpar : ParOut dp (eo.fr []) d d' (.par ps) := hR.par (by omega) dok (by rw [ev3.th]; exact ecd.2.2.1) (by rw [evl]; exact ecd.1) (by rw [evi]; exact ecd.2.1) (by rw [ev3.al]; exact ecd.2.2.2.1) (by rw [ev3.lo]; exact ecd.2.2.2.2) hc9.1 hc9.2 (by obtain ⟨j, ej⟩ := ev3.ch; exact ⟨j, by rw [ej, hd2]⟩) hF
          exact q (.par ps) _ d' _ ⟨_, rl, rs, rfl, by (first | exists "lift" | fail), by (first | exists "lift" | fail), nrM, Ps.In.less ml6 (hps.kp ke.kp)⟩ hpar (by (first | subst "kpx" | fail)) (by (first | subst "st_ok" | fail)) (by (first | subst "win" | fail))
theorem cal_false {x : Str} {st : Stmt} {N ps : List Str} (D : Dn K mg x st ps) (S : FnScope N ps (defScope st)) (k : Nat) : Cal P w K mg base x (k + 1) ps (fun _ _ _ _ => False) :=
  D.ok S (fun _ _ _ _ h => h.elim) (fun _ _ _ _ _ _ _ _ _ _ h => h.elim)
section
variable (T : Glo K w mg) (D_items : Dn K mg "_law_items" s__law_items p__law_items) (D_par : Dn K mg "_law_par" s__law_par p__law_par)
  (G__law_draw : Cal P w K mg base "_law_draw" 1 p__law_draw sp_draw) (G__law_expression : Cal P w K mg base "_law_expression" 7 p__law_expression (sp_expr 3)) (G__law_target : Cal P w K mg base "_law_target" 4 p__law_target sp_target)
  (G__law_simple : Cal P w K mg base "_law_simple" 9 p__law_simple (sp_sx 3 5 7)) (G__law_alt : Cal P w K mg base "_law_alt" 10 p__law_alt sp_alt) (G__law_wrapped : Cal P w K mg base "_law_wrapped" 9 p__law_wrapped sp_wrap)
  (G__law_env : Cal P w K mg base "_law_env" 2 p__law_env sp_env) (G__law_meetings : Cal P w K mg base "_law_meetings" 3 p__law_meetings sp_meet) (G__law_shared : Cal P w K mg base "_law_shared" 2 p__law_shared sp_shared) (G__law_faulty : Cal P w K mg base "_law_faulty" 2 p__law_faulty sp_faulty)
include T D_items D_par G__law_draw G__law_expression G__law_target G__law_simple G__law_alt G__law_wrapped G__law_env G__law_meetings G__law_shared G__law_faulty
/-- items without pars and loops, at any level -/
theorem items_flat (L : Nat) (hL : 11 ≤ L) (n : Nat) : Cal P w K mg base "_law_items" (L + 1) p__law_items (sp_itemsQ (fun q => q = 1) n) := by
  obtain ⟨k, rfl⟩ : ∃ k, L = k + 1 := ⟨L - 1, by omega⟩
  exact ok_items T D_items (k + 1) hL (fun q => q = 1) n (sI := fun _ _ _ _ => False) (sP := fun _ _ _ _ => False) (fun q0 h z => by omega) G__law_draw G__law_expression G__law_target G__law_simple G__law_alt G__law_wrapped (cal_false D_items sc__law_items k) (cal_false D_par sc__law_par k)
theorem par_all : ∀ n : Nat, Cal P w K mg base "_law_par" (12 + 2 * n) p__law_par (sp_par n)
  | 0 => ok_par T D_par 11 (by decide) 0 (sI := fun _ _ _ _ => False) (fun m h => by omega) G__law_draw G__law_env G__law_meetings G__law_shared G__law_faulty G__law_simple (cal_false D_items sc__law_items 10)
  | n + 1 => by
    have hp := par_all n
    have hf := items_flat T D_items D_par G__law_draw G__law_expression G__law_target G__law_simple G__law_alt G__law_wrapped G__law_env G__law_meetings G__law_shared G__law_faulty (11 + 2 * n) (by omega) n
    rw [show 11 + 2 * n + 1 = 12 + 2 * n by omega] at hf
    have hi : Cal P w K mg base "_law_items" (12 + 2 * n + 1) p__law_items (sp_itemsQ (fun q => q = 2 ∨ q = 3) n) :=
      ok_items T D_items (12 + 2 * n) (by omega) (fun q => q = 2 ∨ q = 3) n (sI := sp_itemsQ (fun q => q = 1) n) (sP := sp_par n) (fun q0 _ _ => ⟨fun vs H Q E h => ⟨1, rfl, h⟩, fun vs H Q E h => h⟩) G__law_draw G__law_expression G__law_target G__law_simple G__law_alt G__law_wrapped hf hp
    have h2 := ok_par T D_par (12 + 2 * n + 1) (by omega) (n + 1) (sI := sp_itemsQ (fun q => q = 2 ∨ q = 3) n) (fun m hm q hq vs H Q E h => by
      have : m = n := by omega
      subst this
      exact ⟨q, hq, h⟩) G__law_draw G__law_env G__law_meetings G__law_shared G__law_faulty G__law_simple hi
    rw [show 12 + 2 * n + 1 + 1 = 12 + 2 * (n + 1) by omega] at h2
    exact h2
end
abbrev s__law_core : Stmt := topS 41
theorem sc__law_core : FnScope ["_law_state_here", "_law_alts", "_law_ins", "_law_outs", "_law_channels", "_law_loops", "_law_world", "_law_env_here", "_law_body", "_law_k", "_law_c"] ["_law_state_here", "_law_alts"] (defScope s__law_core) := ⟨rfl, rfl, rfl, by decide +kernel, rfl, by decide +kernel, by decide +kernel⟩
abbrev p__law_core : List Str := ["_law_state_here", "_law_alts"]
/-- a core as data -/
structure CoreD where
  cells : Int
  chs : List Str
  ss : Ss
def CoreD.In (M : List Addr) (H : Hp) (cd : CoreD) (v : V) : Prop := ∃ p ch s, v = .ref p ∧ H p = some (.tup [.str "core", .int cd.cells, .ref ch, s]) ∧ H ch = some (.lst (cd.chs.map V.str)) ∧ ch ∉ M ∧ (Sx.seq cd.ss).In M H s
structure CoreD.ok (cd : CoreD) : Prop where
  c0 : 0 ≤ cd.cells
  c1 : cd.cells ≤ 400
  ch : ∃ i o j : Nat, i ≤ 2 ∧ o ≤ 2 ∧ cd.chs = List.replicate i ("in" : Str) ++ List.replicate o ("out" : Str) ++ List.replicate j ("inner" : Str) ∧
    cd.ss.fit ⟨fun x => 0 ≤ x ∧ x < cd.cells, fun x => 0 ≤ x ∧ x < cd.cells, fun x => (i : Int) ≤ x ∧ x < cd.chs.length, fun x => 0 ≤ x ∧ x < cd.chs.length ∧ (x < i ∨ (i + o : Int) ≤ x)⟩
  c24 : cd.chs.length ≤ 24
  rule : cd.ss.rule
  num : cd.ss.num 1
  cnt : cd.ss.cnt ≤ 11
  dep : cd.ss.dep ≤ 70
  sz : cd.ss.sz ≤ 6000
  wk0 : 0 ≤ cd.ss.wk
  wk : cd.ss.wk ≤ 2900
def sp_core : Sp := fun vs H Q _ => ∃ (st c : Addr) (al : Bool), vs = [.ref st, .bl al] ∧ StOk st c H ∧ ∀ (cd : CoreD) (v : V) (H' : Hp), cd.In [st, c] H' v → cd.ok → Kp [st, c] H H' → StOk st c H' → Q v H'
theorem q_eqB {a b : Int} {H : Hp} {Q : VK} (q : Q (.bl (decide (a = b))) H) : rEqA K (.int a) (.int b) H Q := by
  by_cases h : a = b
  · rw [decide_eq_true h] at q
    exact q_eqI (fun _ => q) (fun z => absurd h z)
  · rw [decide_eq_false h] at q
    exact q_eqI (fun z => absurd z h) (fun _ => q)
theorem q_ifc {lb : Bool} {a b : Int} {σ : L2.St} {H : Hp} {Q : VK} (q : Q (.int (if lb = true then a else b)) H) : if lb = true then tC (.int a) σ H Q else tC (.int b) σ H Q := by
  cases lb
  · exact q
  · exact q
/-- a new list for one of the env's -/
theorem EIn.takesN {a : Ea} {e : Ed} {H H' : Hp} {l : Addr} {kvs : List (Key × V)} {cs : List Int} (h : EIn a e H) (nd : a.all.Nodup) (hk : H a.e = some (.dK kvs)) (k : Kp [a.e] H H') (hn : H' a.e = some (.dK (putK kvs (Sum.inr "takes") (.ref l)))) (hl : H l = some (.lst (cs.map V.int))) (nl : l ≠ a.e) : EIn { a with ta := l } { e with takes := cs } H' := by
  obtain ⟨⟨kv, h1, h2, h3, h4, h5, h6, h7⟩, hc, hr, hg, ht, vs, hs, hp⟩ := h
  rw [hk] at h1
  cases h1
  have nd' : [a.e, a.ca, a.ra, a.sa, a.ga, a.ta].Nodup := nd
  simp only [List.nodup_cons, List.mem_cons, List.not_mem_nil, or_false, not_or] at nd'
  obtain ⟨⟨n01, n02, n03, n04, n05⟩, _⟩ := nd'
  have o : ∀ {x : Addr} {u : HO}, a.e ≠ x → H x = some u → H' x = some u := fun {x u} n h => k.out _ _ (fun z => n (List.mem_singleton.mp z).symm) h
  have hv : valV (putK kvs (Sum.inr "takes") (.ref l)) (Sum.inr "takes") = some (.ref l) := vput_eq
  exact ⟨⟨_, hn, by rw [putK_len h7]; exact h2, vput_ne h3 (by decide +kernel), vput_ne h4 (by decide +kernel), vput_ne h5 (by decide +kernel), vput_ne h6 (by decide +kernel), hv⟩, o n01 hc, o n02 hr, o n04 hg, o (Ne.symm nl) hl, vs, o n03 hs, Paired.mapP hp fun _ _ ⟨q, e, z⟩ => ⟨q, e, k.tup _ _ z⟩⟩
theorem EIn.givesN {a : Ea} {e : Ed} {H H' : Hp} {l : Addr} {kvs : List (Key × V)} {cs : List Int} (h : EIn a e H) (n01 : a.e ≠ a.ca) (n02 : a.e ≠ a.ra) (n03 : a.e ≠ a.sa) (n05 : a.e ≠ a.ta) (hk : H a.e = some (.dK kvs)) (k : Kp [a.e] H H') (hn : H' a.e = some (.dK (putK kvs (Sum.inr "gives") (.ref l)))) (hl : H l = some (.lst (cs.map V.int))) (nl : l ≠ a.e) : EIn { a with ga := l } { e with gives := cs } H' := by
  obtain ⟨⟨kv, h1, h2, h3, h4, h5, h6, h7⟩, hc, hr, hg, ht, vs, hs, hp⟩ := h
  rw [hk] at h1
  cases h1
  have o : ∀ {x : Addr} {u : HO}, a.e ≠ x → H x = some u → H' x = some u := fun {x u} n h => k.out _ _ (fun z => n (List.mem_singleton.mp z).symm) h
  have hv : valV (putK kvs (Sum.inr "gives") (.ref l)) (Sum.inr "gives") = some (.ref l) := vput_eq
  exact ⟨⟨_, hn, by rw [putK_len h6]; exact h2, vput_ne h3 (by decide +kernel), vput_ne h4 (by decide +kernel), vput_ne h5 (by decide +kernel), hv, vput_ne h7 (by decide +kernel)⟩, o n01 hc, o n02 hr, o (Ne.symm nl) hl, o n05 ht, vs, o n03 hs, Paired.mapP hp fun _ _ ⟨q, e, z⟩ => ⟨q, e, k.tup _ _ z⟩⟩
/-- the body of a core under construction -/
structure BdI (F0 : Fr) (d d' : Wd) (A B : Int) (ss : Ss) : Prop where
  evo : Evo d d' ss.cnt
  fit : ∀ F, F0.le F → Rg d d' F → ss.fit F
  rule : ss.rule
  num : ss.num d.threads
  dep : (ss.dep : Int) ≤ 4 * d.left + 8
  sz : (ss.sz : Int) ≤ A + 140 * (d.items - d'.items) + 7 * (d.left - d'.left)
  wk0 : 0 ≤ ss.wk
  wk : ss.wk ≤ B + wkb 3 d.loops (d.items - d'.items) (d.left - d'.left)
theorem BdI.nil {F0 : Fr} {d : Wd} (o : d.ok) : BdI F0 d d 0 0 .nil := by
  have := o.lf0
  have h5 := @wkb_nn 3 d.loops (d.items - d.items) (d.left - d.left) (by omega) (by omega)
  exact ⟨Evo.refl o, fun _ _ _ => trivial, trivial, trivial, by simp only [Ss.dep]; omega, by simp [Ss.sz], by simp [Ss.wk], by simp only [Ss.wk]; omega⟩
theorem BdI.plain {F0 : Fr} {d d' : Wd} {A B k : Int} {ss : Ss} {s : Sx} {D S : Nat} (h : BdI F0 d d' A B ss) (o : d.ok) (p : s.Pl F0 D S k) (hD : D ≤ 3) (hS : S ≤ 5) : BdI F0 d d' (A + 5) (B + k) (ss.app (.cons s .nil)) := by
  have h1 := h.dep
  have h2 := h.sz
  have h3 := h.wk
  have h4 := h.wk0
  have p1 := p.dep
  have p2 := p.sz
  have p3 := p.wk
  have p4 := Sx.wk0 p.fit
  have p0 := p.cnt
  have l0 := o.lf0
  refine ⟨?_, fun F l r => Ss.app_fit.mpr ⟨h.fit F l r, p.fit.mono l, trivial⟩, Ss.app_rule.mpr ⟨h.rule, p.rule, trivial⟩, Ss.app_num.mpr ⟨h.num, Sx.num0 p0 _, trivial⟩, ?_, ?_, ?_, ?_⟩
  · rw [Ss.app_cnt]
    simp only [Ss.cnt, p0]
    exact h.evo
  · rw [Ss.app_dep]
    simp only [Ss.dep]
    omega
  · rw [Ss.app_sz]
    simp only [Ss.sz]
    omega
  · rw [Ss.app_wk]
    simp only [Ss.wk]
    omega
  · rw [Ss.app_wk]
    simp only [Ss.wk]
    omega
theorem BdI.par {F0 F1 : Fr} {d d1 d2 : Wd} {A B : Int} {ss : Ss} {s : Sx} (h : BdI F0 d d1 A B ss) (p : ParOut 1 F1 d1 d2 s) (hF : F1.le F0) : BdI F0 d d2 (A + 1) (B + 1) (ss.app (.cons s .nil)) := by
  have e1 := h.evo
  have e2 := p.evo
  have h1 := h.dep
  have h2 := h.sz
  have h3 := h.wk
  have h4 := h.wk0
  have p1 := p.dep
  have p2 := p.sz
  have p3 := p.wk
  have p4 := p.wk0
  have l1 := e1.lf
  rw [e1.lo] at p3
  have h9 := @wkb_add 3 d.loops (d.items - d1.items) (d1.items - d2.items) (d.left - d1.left) (d1.left - d2.left)
  rw [show d.items - d1.items + (d1.items - d2.items) = d.items - d2.items by omega, show d.left - d1.left + (d1.left - d2.left) = d.left - d2.left by omega] at h9
  rw [if_neg (by decide)] at p3
  refine ⟨?_, fun F l r => Ss.app_fit.mpr ⟨h.fit F l (r.left e2), p.fit F (hF.trans l) (r.right e1), trivial⟩, Ss.app_rule.mpr ⟨h.rule, p.rule, trivial⟩, Ss.app_num.mpr ⟨h.num, ?_, trivial⟩, ?_, ?_, ?_, ?_⟩
  · rw [Ss.app_cnt]
    exact e1.trans e2
  · rw [← e1.th]
    exact p.num
  · rw [Ss.app_dep]
    simp only [Ss.dep]
    omega
  · rw [Ss.app_sz]
    simp only [Ss.sz]
    omega
  · rw [Ss.app_wk]
    simp only [Ss.wk]
    omega
  · rw [Ss.app_wk, h9]
    simp only [Ss.wk]
    omega
theorem BdI.up {F0 : Fr} {d d' : Wd} {A B A' B' : Int} {ss : Ss} (h : BdI F0 d d' A B ss) (a : A ≤ A') (b : B ≤ B') : BdI F0 d d' A' B' ss := ⟨h.evo, h.fit, h.rule, h.num, h.dep, by have := h.sz; omega, h.wk0, by have := h.wk; omega⟩
theorem range_nd : ∀ n : Nat, ∀ z : Int, ((List.range n).map fun k : Nat => z + ((0 : Int) + (k : Int))).Nodup
  | 0, _ => List.nodup_nil
  | n + 1, z => by
    rw [List.range_succ, List.map_append]
    refine nodup_snoc (range_nd n z) fun h => ?_
    obtain ⟨k, hk, e⟩ := List.mem_map.mp h
    have e' : z + ((0 : Int) + (k : Int)) = z + ((0 : Int) + (n : Int)) := e
    have := List.mem_range.mp hk
    omega
theorem ok_core (T : Glo K w mg) (D : Dn K mg "_law_core" s__law_core p__law_core) (G__law_draw : Cal P w K mg base "_law_draw" 1 p__law_draw sp_draw) (G__law_env : Cal P w K mg base "_law_env" 2 p__law_env sp_env) (G__law_expression : Cal P w K mg base "_law_expression" 7 p__law_expression (sp_expr 3))
    (G__law_set : Cal P w K mg base "_law_set" 8 p__law_set (sp_sx 1 1 1)) (G__law_simple : Cal P w K mg base "_law_simple" 9 p__law_simple (sp_sx 3 5 7)) (G__law_par : Cal P w K mg base "_law_par" 22 p__law_par (sp_par 5)) :
    Cal P w K mg base "_law_core" 23 p__law_core sp_core := by
  refine D.ok sc__law_core (fun vs H Q E h => ?_) (fun f cdv A outer s H vs Q E hr h => ?_)
  · obtain ⟨_, _, _, rfl, _⟩ := h
    rfl
  obtain ⟨st, c, al, rfl, so, q⟩ := h
  have so0 := so
  refine ⟨_, (pss_cons (ps_set (i := 2) sc__law_core.nd rfl (by first | exact Or.inl rfl | exact Or.inr rfl) (pe_cal G__law_draw (hr.mono (by (first | subst "lev" | fail))) rfl (pa_cons (pv 0) (pa_cons pe_int pa_nil)))) (pss_cons (ps_set (i := 3) sc__law_core.nd rfl (by first | exact Or.inl rfl | exact Or.inr rfl) (pe_cal G__law_draw (hr.mono (by (first | subst "lev" | fail))) rfl (pa_cons (pv 0) (pa_cons pe_int pa_nil)))) (pss_cons (ps_set (i := 4) sc__law_core.nd rfl (by first | exact Or.inl rfl | exact Or.inr rfl) (pe_op op_addA (pe_lc (own := [("_law_k", 9)]) (tt := tYes) rfl sc__law_core.nd (pi_range1 rfl T.n_range (pa_cons (pv 2) pa_nil)) (blkOk_by (N := ["_law_state_here", "_law_alts", "_law_ins", "_law_outs", "_law_channels", "_law_loops", "_law_world", "_law_env_here", "_law_body", "_law_k", "_law_c"]) (sc := defScope s__law_core) (by decide +kernel)) (fun _ _ _ _ _ => (pg_name (i := 9) sc__law_core.nd rfl (by first | exact Or.inl rfl | exact Or.inr rfl))) (fun _ _ _ _ _ => pts_nil) (fun _ _ _ _ _ => pe_str)) (pe_lc (own := [("_law_k", 9)]) (tt := tYes) rfl sc__law_core.nd (pi_range1 rfl T.n_range (pa_cons (pv 3) pa_nil)) (blkOk_by (N := ["_law_state_here", "_law_alts", "_law_ins", "_law_outs", "_law_channels", "_law_loops", "_law_world", "_law_env_here", "_law_body", "_law_k", "_law_c"]) (sc := defScope s__law_core) (by decide +kernel)) (fun _ _ _ _ _ => (pg_name (i := 9) sc__law_core.nd rfl (by first | exact Or.inl rfl | exact Or.inr rfl))) (fun _ _ _ _ _ => pts_nil) (fun _ _ _ _ _ => pe_str)))) (pss_cons (ps_set (i := 5) sc__law_core.nd rfl (by first | exact Or.inl rfl | exact Or.inr rfl) (pe_cmpR (op_eqA (hu64 hr)) (pe_cal G__law_draw (hr.mono (by (first | subst "lev" | fail))) rfl (pa_cons (pv 0) (pa_cons pe_int pa_nil))) pe_int (nomark _))) (pss_cons (ps_set (i := 6) sc__law_core.nd rfl (by first | exact Or.inl rfl | exact Or.inr rfl) (pe_disp (pps_cons pe_str pe_int (pps_cons pe_str pe_int (pps_cons pe_str (pe_ifExp (pt_val (pv 5)) pe_int pe_int) (pps_cons pe_str pe_int (pps_cons pe_str (pv 4) (pps_cons pe_str (pv 1) (pps_cons pe_str (pv 5) pps_nil))))))) rfl rfl (by simp) (by decide))) (pss_cons (ps_set (i := 7) sc__law_core.nd rfl (by first | exact Or.inl rfl | exact Or.inr rfl) (pe_cal G__law_env (hr.mono (by (first | subst "lev" | fail))) rfl (pa_cons (pv 0) (pa_cons (pv 6) pa_nil)))) (pss_cons (ps_dput (hu_of hr) (pv 7) pe_str (pe_lc (own := [("_law_c", 10)]) (tt := tYes) rfl sc__law_core.nd (pi_range1 rfl T.n_range (pa_cons (pv 2) pa_nil)) (blkOk_by (N := ["_law_state_here", "_law_alts", "_law_ins", "_law_outs", "_law_channels", "_law_loops", "_law_world", "_law_env_here", "_law_body", "_law_k", "_law_c"]) (sc := defScope s__law_core) (by decide +kernel)) (fun _ _ _ _ _ => (pg_name (i := 10) sc__law_core.nd rfl (by first | exact Or.inl rfl | exact Or.inr rfl))) (fun _ _ _ _ _ => pts_nil) (fun _ _ _ _ _ => (pv 10))) rfl) (pss_cons (ps_dput (hu_of hr) (pv 7) pe_str (pe_lc (own := [("_law_c", 10)]) (tt := tYes) rfl sc__law_core.nd (pi_range1 rfl T.n_range (pa_cons (pv 3) pa_nil)) (blkOk_by (N := ["_law_state_here", "_law_alts", "_law_ins", "_law_outs", "_law_channels", "_law_loops", "_law_world", "_law_env_here", "_law_body", "_law_k", "_law_c"]) (sc := defScope s__law_core) (by decide +kernel)) (fun _ _ _ _ _ => (pg_name (i := 10) sc__law_core.nd rfl (by first | exact Or.inl rfl | exact Or.inr rfl))) (fun _ _ _ _ _ => pts_nil) (fun _ _ _ _ _ => (pe_op (op_addK (K := K) rfl) (pv 2) (pv 10)))) rfl) (pss_cons (ps_setLc (i := 8) (own := [("_law_k", 9)]) (tt := tYes) rfl sc__law_core.nd rfl rfl (sw_true rfl rfl rfl (by decide +kernel)) (pi_range1 rfl T.n_range (pa_cons (pe_cal G__law_draw (hr.mono (by (first | subst "lev" | fail))) rfl (pa_cons (pv 0) (pa_cons pe_int pa_nil))) pa_nil)) (blkOk_by (N := ["_law_state_here", "_law_alts", "_law_ins", "_law_outs", "_law_channels", "_law_loops", "_law_world", "_law_env_here", "_law_body", "_law_k", "_law_c"]) (sc := defScope s__law_core) (by decide +kernel)) (fun _ _ _ _ _ => (pg_name (i := 9) sc__law_core.nd rfl (by first | exact Or.inl rfl | exact Or.inr rfl))) (fun _ _ _ _ _ => pts_nil) (fun _ _ _ _ _ => (pe_cal G__law_set (hr.mono (by (first | subst "lev" | fail))) rfl (pa_cons (pv 0) (pa_cons (pv 7) pa_nil))))) (pss_cons (ps_for PassesOwn.never rfl (pi_range1 rfl T.n_range (pa_cons (pe_op op_addA pe_int (pe_cal G__law_draw (hr.mono (by (first | subst "lev" | fail))) rfl (pa_cons (pv 0) (pa_cons pe_int pa_nil)))) pa_nil)) (pg_name (i := 9) sc__law_core.nd rfl (by first | exact Or.inl rfl | exact Or.inr rfl)) (pss_cons (ps_expr (pe_bm PySem.F.plainAttrs_list PySem.F.slot_list_append PySem.F.type_list_append mt_append (pv 8) (pa_cons (pe_cal G__law_par (hr.mono (by (first | subst "lev" | fail))) rfl (pa_cons (pv 0) (pa_cons (pv 7) (pa_cons (pv 6) (pa_cons pe_int pa_nil))))) pa_nil))) (pss_one (ps_expr (pe_bm PySem.F.plainAttrs_list PySem.F.slot_list_append PySem.F.type_list_append mt_append (pv 8) (pa_cons (pe_cal G__law_simple (hr.mono (by (first | subst "lev" | fail))) rfl (pa_cons (pv 0) (pa_cons (pv 7) pa_nil))) pa_nil)))))) (pss_cons (ps_for PassesOwn.never rfl (pi_list (pe_dget (hu_of hr) (pv 7) pe_str (fun _ _ => rfl))) (pg_name (i := 10) sc__law_core.nd rfl (by first | exact Or.inl rfl | exact Or.inr rfl)) (pss_one (ps_if (pt_cmpR (op_eqA (hu64 hr)) (pe_cal G__law_draw (hr.mono (by (first | subst "lev" | fail))) rfl (pa_cons (pv 0) (pa_cons pe_int pa_nil))) pe_int (nomark _)) (pss_one (ps_expr (pe_bm PySem.F.plainAttrs_list PySem.F.slot_list_append PySem.F.type_list_append mt_append (pv 8) (pa_cons (pe_tup (pa_cons pe_str (pa_cons (pv 10) (pa_cons (pe_cal G__law_expression (hr.mono (by (first | subst "lev" | fail))) rfl (pa_cons (pv 0) (pa_cons (pv 7) (pa_cons pe_int pa_nil)))) pa_nil)))) pa_nil)))) pss_nil))) (pss_one (ps_ret (pe_tup (pa_cons pe_str (pa_cons (pe_dget (hu_of hr) (pv 6) pe_str (fun _ _ => rfl)) (pa_cons (pe_dget (hu_of hr) (pv 6) pe_str (fun _ _ => rfl)) (pa_cons (pe_tup (pa_cons pe_str (pa_cons (pv 8) pa_nil))) pa_nil)))))))))))))))))), ?_⟩
  try dsimp only [cxOf, Cx.nox]
  repeat' (first | specialize "st" | fail)
  rename_i dI A1 i0 i1 k1 s1
  obtain ⟨ni, rfl⟩ : ∃ ni : Nat, dI = (ni : Int) := ⟨dI.toNat, by omega⟩
  obtain ⟨no, rfl⟩ : ∃ no : Nat, dn = (no : Int) := ⟨dn.toNat, by omega⟩
  have hni : ni ≤ 2 := by omega
  have hno : no ≤ 2 := by omega
  have kH0 : True ∧ Kp [st, c] H Hn := ⟨trivial, k1.trans ke⟩
  obtain ⟨H1, rfl⟩ : ∃ x, x = Hn := ⟨_, rfl⟩
  clear k1 s1 ke n0 n1 i0 i1
  intro D1 hD1
  refine lc_range (lo := 0) (n := _) (fun m H' => Ex H1 H' ∧ H' D1 = some (.lst ((List.replicate m ("in" : Str)).map V.str))) ?_ ?_ ?_
  · exact ⟨Ex.mk hD1 rfl, upd_same⟩
  · rintro m H' hm ⟨e, h1⟩
    have hm2 : m < 2 := by omega
    refine ⟨rfl, ?_⟩
    repeat' (first | specialize "st" | fail)
    refine ⟨_, h1, sl1000' (by rw [List.length_map, List.length_replicate]; omega), fun b u hb => ?_, ?_⟩
    · rw [upd_ne (ne_of_none hb hD1)]
      exact e _ _ hb
    · rw [upd_same, List.replicate_succ', List.map_append]
      rfl
  · rintro H2 ⟨e2, h2⟩
    rw [show ((ni : Int)).toNat = ni by omega] at h2
    repeat' (first | specialize "st" | fail)
    intro D2 hD2
    refine lc_range (lo := 0) (n := _) (fun m H' => Ex H2 H' ∧ H' D2 = some (.lst ((List.replicate m ("out" : Str)).map V.str))) ?_ ?_ ?_
    · exact ⟨Ex.mk hD2 rfl, upd_same⟩
    · rintro m H' hm ⟨e, h1⟩
      have hm2 : m < 2 := by omega
      refine ⟨rfl, ?_⟩
      repeat' (first | specialize "st" | fail)
      refine ⟨_, h1, sl1000' (by rw [List.length_map, List.length_replicate]; omega), fun b u hb => ?_, ?_⟩
      · rw [upd_ne (ne_of_none hb hD2)]
        exact e _ _ hb
      · rw [upd_same, List.replicate_succ', List.map_append]
        rfl
    · rintro H3 ⟨e3, h3⟩
      rw [show ((no : Int)).toNat = no by omega] at h3
      refine q_catN (e3 _ _ h2) h3 (by simp only [List.length_map, List.length_replicate]; omega) (fun ch H4 hch e4 h4 => ?_)
      rw [← List.map_append] at h4
      have kH4 : True ∧ Kp [st, c] H H4 := ⟨trivial, ((kH0.2.trans e2.kp).trans e3.kp).trans e4.kp⟩
      have so4 : StOk st c H4 := st_ex e4 (st_ex e3 (st_ex e2 so))
      have hnc : ch ∉ [st, c] := st_fresh (st_ex e3 (st_ex e2 so)) hch
      have hch0 : H ch = none := free_backK ((kH0.2.trans e2.kp).trans e3.kp) hnc hch
      clear e2 e3 e4 h2 h3 hD1 hD2 so kH0 hch
      iterate 12 ((first | specialize "st" | fail))
      refine q_eqB ?_
      obtain ⟨lb, elb⟩ : ∃ lb, lb = decide (dn = 0) := ⟨_, rfl⟩
      rw [← elb]
      repeat' (first | specialize "st" | fail)
      refine q_ifc ?_
      obtain ⟨it, eit⟩ : ∃ it : Int, it = (if lb = true then 10 else 14) := ⟨_, rfl⟩
      rw [← eit]
      have it30 : 10 ≤ it ∧ it ≤ 14 ∧ (lb = true → it = 10) := by
        rw [eit]
        cases lb <;> simp
      repeat' (first | specialize "st" | fail)
      rename_i H5 k5
      have h4' : H5 ch = some (.lst ((List.replicate ni ("in" : Str) ++ List.replicate no ("out" : Str)).map V.str)) := k5.out _ _ hnc h4
      have ndp : dp ∉ [st, c] := st_fresh so hdp
      have ncd : ch ≠ dp := ne_of_none h4' hdp
      have kH5 : Kp [st, c] H H5 := kH4.2.trans k5
      have hdp0 : H dp = none := free_backK kH5 ndp hdp
      have soN : StOk st c Hn := st_ex ke so
      obtain ⟨chs, echs⟩ : ∃ chs, chs = List.replicate ni ("in" : Str) ++ List.replicate no ("out" : Str) := ⟨_, rfl⟩
      rw [← echs] at h4'
      refine q_disp [(Sum.inr "threads", .int 1), (Sum.inr "left", .int 11), (Sum.inr "items", .int it), (Sum.inr "cells", .int 0), (Sum.inr "channels", .ref ch), (Sum.inr "alts", .bl al), (Sum.inr "loops", .bl lb)] hdn rfl (by show ([Sum.inr "threads", Sum.inr "left", Sum.inr "items", Sum.inr "cells", Sum.inr "channels", Sum.inr "alts", Sum.inr "loops"] : List Key).Nodup; decide +kernel) (by show 7 ≤ 15; decide) ?_
      intro H6 k6 h6
      have wi6 : WIn dp ch ⟨1, 11, it, 0, al, lb, chs⟩ H6 := ⟨⟨_, h6, by show 7 ≤ 20; decide, rfl, rfl, rfl, rfl, rfl, rfl, rfl⟩, k6.out _ _ (fun z => ncd (List.mem_singleton.mp z)) (ke _ _ h4'), Ne.symm ncd⟩
      have so6 : StOk st c H6 := st_kpx k6 (alln_c ndp alln_n) soN
      have kH6 : Kp [st, c] H H6 := kp_fresh (kH5.trans ke.kp) k6 (fun x hx => .inr (by rw [List.mem_singleton.mp hx]; exact hdp0))
      clear kH4 kH5 h4 h4' hdp hdn soN so so4 k5 ke k6 h6
      repeat' (first | specialize "st" | fail)
      refine c_env so6 wi6 ndp hnc (by show (0 : Int) ≤ 0; decide) (by show (0 : Int) ≤ 2000; decide) ?_
      intro a ed m H7 hf nd hin fr k7 so7 wi7
      obtain ⟨wa, rfl⟩ : ∃ x, x = dp := ⟨_, rfl⟩
      have fr : ed.fresh 0 m := fr
      obtain ⟨⟨kvs, g1, g2, _⟩, _⟩ := id hin
      have ha0 : ∀ x ∈ a.all, H x = none ∧ x ∉ [st, c] := fun x hx => ⟨free_backK kH6 (st_fresh so6 (hf x hx)) (hf x hx), st_fresh so6 (hf x hx)⟩
      have kH7 : Kp [st, c] H H7 := kp_fresh kH6 k7 (fun x hx => by
        simp only [List.mem_cons, List.not_mem_nil, or_false] at hx ⊢
        rcases hx with h | h | h
        · exact .inl (.inl h)
        · exact .inl (.inr h)
        · exact .inr (by rw [h]; exact hdp0))
      have nd' : [a.e, a.ca, a.ra, a.sa, a.ga, a.ta].Nodup := nd
      simp only [List.nodup_cons, List.mem_cons, List.not_mem_nil, or_false, not_or] at nd'
      obtain ⟨⟨n01, n02, n03, n04, n05⟩, _⟩ := nd'
      have hae := ha0 a.e (by simp [Ea.all])
      have hwa := wi7.al
      have nae : wa ∉ [a.e] ∧ ch ∉ [a.e] := by
        have h1 : H6 a.e = none := hf a.e (by simp [Ea.all])
        constructor <;>
        · intro z
          have z' := List.mem_singleton.mp z
          first
          | exact wi6.al.1 (by rw [z']; exact h1)
          | exact wi6.al.2 (by rw [z']; exact h1)
      have out7 : a.out [wa, ch] := fun x hx z => by
        have h1 := hf x hx
        simp only [List.mem_cons, List.not_mem_nil, or_false] at z
        rcases z with rfl | rfl
        · exact wi6.al.1 h1
        · exact wi6.al.2 h1
      clear wi6 so6 k7 kH6 hf
      repeat' (first | specialize "st" | fail)
      intro DT hDT
      refine lc_range (lo := 0) (n := _) (fun i H' => Ex H7 H' ∧ H' DT = some (.lst (((List.range i).map fun k : Nat => (0 : Int) + k).map V.int))) ?_ ?_ ?_
      · exact ⟨Ex.mk hDT rfl, upd_same⟩
      · rintro i H' hi ⟨e, h1⟩
        refine ⟨rfl, ?_⟩
        repeat' (first | specialize "st" | fail)
        refine ⟨_, h1, sl1000' (by rw [List.length_map, List.length_map, List.length_range]; omega), fun b u hb => ?_, ?_⟩
        · rw [upd_ne (ne_of_none hb hDT)]
          exact e _ _ hb
        · rw [upd_same, List.range_succ, List.map_append, List.map_append]
          rfl
      · rintro H8 ⟨e8, h8⟩
        rw [show ((ni : Int)).toNat = ni by omega] at h8
        have g18 := e8 _ _ g1
        have hin8 := hin.exx e8
        have nDT : DT ≠ a.e := Ne.symm (ne_of_none g1 hDT)
        have kH8 : Kp [st, c] H H8 := kH7.trans e8.kp
        have hDT0 : H DT = none := free_backK kH7 (st_fresh so7 hDT) hDT
        have so8 : StOk st c H8 := st_ex e8 so7
        have wi8 := wi7.exx e8
        have nDTw : DT ∉ [wa, ch] := fun z => by
          simp only [List.mem_cons, List.not_mem_nil, or_false] at z
          rcases z with rfl | rfl
          · exact wi7.al.1 hDT
          · exact wi7.al.2 hDT
        clear e8 g1 hin so7 wi7 kH7 hDT
        repeat' (first | specialize "st" | fail)
        refine q_dputS g18 (by omega) ?_
        intro H9 k9 u9
        obtain ⟨tks, etk⟩ : ∃ tks, tks = (List.range ni).map fun k : Nat => (0 : Int) + k := ⟨_, rfl⟩
        rw [← etk] at h8
        have ein9 := hin8.takesN nd g18 k9 u9 h8 nDT
        have kH9 : Kp [st, c] H H9 := kp_fresh kH8 k9 (fun x hx => .inr (by rw [List.mem_singleton.mp hx]; exact hae.1))
        have so9 : StOk st c H9 := st_kpx k9 (alln_c hae.2 alln_n) so8
        have wi9 := wi8.kp k9 nae.1 nae.2
        have hlen9 : (putK kvs (Sum.inr "takes") (V.ref DT)).length ≤ 1000 := by
          obtain ⟨⟨kv2, q1, q2, _⟩, _⟩ := ein9
          have q1' : H9 a.e = some (.dK kv2) := q1
          rw [u9] at q1'
          cases q1'
          omega
        clear hin8 g18 kH8 so8 wi8 k9 h8
        repeat' (first | specialize "st" | fail)
        intro DG hDG
        refine lc_range (lo := 0) (n := _) (fun i H' => Ex H9 H' ∧ H' DG = some (.lst (((List.range i).map fun k : Nat => (ni : Int) + ((0 : Int) + k)).map V.int))) ?_ ?_ ?_
        · exact ⟨Ex.mk hDG rfl, upd_same⟩
        · rintro i H' hi ⟨e, h1⟩
          refine ⟨rfl, ?_⟩
          repeat' (first | specialize "st" | fail)
          refine ⟨_, h1, sl1000' (by rw [List.length_map, List.length_map, List.length_range]; omega), fun b u hb => ?_, ?_⟩
          · rw [upd_ne (ne_of_none hb hDG)]
            exact e _ _ hb
          · rw [upd_same, List.range_succ, List.map_append, List.map_append]
            rfl
        · rintro H10 ⟨e10, h10⟩
          rw [show ((no : Int)).toNat = no by omega] at h10
          have u10 := e10 _ _ u9
          have nDG : DG ≠ a.e := Ne.symm (ne_of_none u9 hDG)
          have kH10 : Kp [st, c] H H10 := kH9.trans e10.kp
          have hDG0 : H DG = none := free_backK kH9 (st_fresh so9 hDG) hDG
          have so10 : StOk st c H10 := st_ex e10 so9
          have wi10 := wi9.exx e10
          have nDGw : DG ∉ [wa, ch] := fun z => by
            simp only [List.mem_cons, List.not_mem_nil, or_false] at z
            rcases z with rfl | rfl
            · exact wi9.al.1 hDG
            · exact wi9.al.2 hDG
          have ein10 := ein9.exx e10
          clear e10 u9 ein9 so9 wi9 kH9 hDG
          repeat' (first | specialize "st" | fail)
          refine q_dputS u10 hlen9 ?_
          intro H11 k11 u11
          obtain ⟨gvs, egv⟩ : ∃ gvs, gvs = (List.range no).map fun k : Nat => (ni : Int) + ((0 : Int) + k) := ⟨_, rfl⟩
          rw [← egv] at h10
          have ein11 := ein10.givesN (l := DG) n01 n02 n03 (Ne.symm nDT) u10 k11 u11 h10 nDG
          have kH11 : Kp [st, c] H H11 := kp_fresh kH10 k11 (fun x hx => .inr (by rw [List.mem_singleton.mp hx]; exact hae.1))
          have so11 : StOk st c H11 := st_kpx k11 (alln_c hae.2 alln_n) so10
          have wi11 := wi10.kp k11 nae.1 nae.2
          obtain ⟨a2, ea2⟩ : ∃ a2 : Ea, a2 = { a with ta := DT, ga := DG } := ⟨_, rfl⟩
          obtain ⟨ed2, eed2⟩ : ∃ ed2 : Ed, ed2 = { ed with takes := tks, gives := gvs } := ⟨_, rfl⟩
          have ein : EIn a2 ed2 H11 := by
            rw [ea2, eed2]
            exact ein11
          have hae2 : a2.e = a.e := by rw [ea2]
          have fr0 : ∀ x ∈ a2.all, H x = none := fun x hx => by
            rw [ea2] at hx
            have hx' : x ∈ [a.e, a.ca, a.ra, a.sa, DG, DT] := hx
            simp only [List.mem_cons, List.not_mem_nil, or_false] at hx'
            rcases hx' with rfl | rfl | rfl | rfl | rfl | rfl
            · exact (ha0 _ (by simp [Ea.all])).1
            · exact (ha0 _ (by simp [Ea.all])).1
            · exact (ha0 _ (by simp [Ea.all])).1
            · exact (ha0 _ (by simp [Ea.all])).1
            · exact hDG0
            · exact hDT0
          have ou2 : a2.out (Mw st c wa ch) := fun x hx z => by
            have h0 := fr0 x hx
            rw [ea2] at hx
            have hx' : x ∈ [a.e, a.ca, a.ra, a.sa, DG, DT] := hx
            have hw : x ∉ [wa, ch] := by
              simp only [List.mem_cons, List.not_mem_nil, or_false] at hx'
              rcases hx' with rfl | rfl | rfl | rfl | rfl | rfl
              · exact out7 _ (by simp [Ea.all])
              · exact out7 _ (by simp [Ea.all])
              · exact out7 _ (by simp [Ea.all])
              · exact out7 _ (by simp [Ea.all])
              · exact nDGw
              · exact nDTw
            simp only [List.mem_cons, List.not_mem_nil, or_false, not_or] at z hw
            obtain ⟨⟨ns, zz, s1, s2, _⟩, _⟩ := so0
            rcases z with rfl | rfl | rfl | rfl
            · rw [s1] at h0; cases h0
            · rw [s2] at h0; cases h0
            · exact hw.1 rfl
            · exact hw.2 rfl
          rw [← hae2]
          clear ein10 ein11 u10 u11 k11 kH10 so10 wi10 h10
          repeat' (first | specialize "st" | fail)
          obtain ⟨d1, ed1⟩ : ∃ x, x = (⟨1, 11, it, m, al, lb, chs⟩ : Wd) := ⟨_, rfl⟩
          have wiN : WIn wa ch d1 Hn := by
            rw [ed1]
            exact wi11.kp ke ndp hnc
          have m2 := fr.lo
          have m6 := fr.hi
          have hcl : chs.length = ni + no := by
            rw [echs, List.length_append, List.length_replicate, List.length_replicate]
          have ok1 : d1.ok := by
            rw [ed1]
            exact ⟨by show (0 : Int) ≤ 11; decide, by show 0 ≤ it; omega, by show 0 ≤ m; omega, by show m + 9 * 11 + it ≤ 400; omega, by show chs.length ≤ 24; omega⟩
          have eb1 : EdB ed2 d1 := by
            rw [eed2, ed1]
            refine ⟨⟨fun k hk => ?_, fun p hp => ?_, ?_, ?_, ?_, ?_⟩, ?_, fun k hk => ?_, ?_, fun x hx => ?_, ?_, fun x hx => ?_, ?_, ?_, ?_⟩
            · have hk : k ∈ ed.cells := hk
              show k ∈ ed.reads
              rw [fr.cells] at hk
              rw [fr.reads]
              exact hk
            · have := fr.spans p hp
              exact ⟨this.2.1, this.2.2.1⟩
            · show 0 < ed.cells.length
              rw [fr.cells]
              simp
            · show ed.cells.length < 1000
              rw [fr.cells]
              simp
            · show ed.reads.length < 1000
              rw [fr.reads]
              simp
            · show ed.spans.length < 1000
              have := fr.sl
              omega
            · show ed.cells.Nodup
              rw [fr.cells]
              simp
            · have hk : k ∈ ed.cells := hk
              show 0 ≤ k ∧ k < m
              rw [fr.cells] at hk
              simp only [List.mem_cons, List.not_mem_nil, or_false] at hk
              omega
            · show gvs.Nodup
              rw [egv]
              exact range_nd _ _
            · have hx : x ∈ gvs := hx
              show 0 ≤ x ∧ x < (chs.length : Int)
              rw [egv] at hx
              obtain ⟨k, hk, e⟩ := List.mem_map.mp hx
              have := List.mem_range.mp hk
              omega
            · show tks.Nodup
              rw [etk]
              have := range_nd ni 0
              simpa using this
            · have hx : x ∈ tks := hx
              show 0 ≤ x ∧ x < (chs.length : Int)
              rw [etk] at hx
              obtain ⟨k, hk, e⟩ := List.mem_map.mp hx
              have := List.mem_range.mp hk
              omega
            · show (ed.cells.length : Int) + 11 ≤ 20
              rw [fr.cells]
              simp
            · show gvs.length ≤ 24
              rw [egv, List.length_map, List.length_range]
              omega
            · show tks.length ≤ 24
              rw [etk, List.length_map, List.length_range]
              omega
          have einN : EIn a2 ed2 Hn := ein.kp ke (ou2.sub (subm_c (by simp) (subm_c (by simp) subm_n)))
          have kHN : Kp [st, c] H Hn := kH11.trans ke
          obtain ⟨H12, rfl⟩ : ∃ x, x = Hn := ⟨_, rfl⟩
          clear ein ke so11 wi11 kH11
          intro bl hbl
          have nbs : bl ∉ [st, c] := st_fresh so hbl
          have nbw : wa ≠ bl := fun z => wiN.al.1 (z ▸ hbl)
          have nbc : ch ≠ bl := fun z => wiN.al.2 (z ▸ hbl)
          have hbl0 : H bl = none := free_backK kHN nbs hbl
          obtain ⟨M5, e5⟩ : ∃ M5, M5 = bl :: Mw st c wa ch := ⟨_, rfl⟩
          have m51 : st ∈ M5 := by rw [e5]; simp
          have m52 : c ∈ M5 := by rw [e5]; simp
          have m53 : wa ∈ M5 := by rw [e5]; simp
          have m54 : ch ∈ M5 := by rw [e5]; simp
          have m55 : bl ∈ M5 := by rw [e5]; simp
          have ms5 : ∀ x, x ∈ Mw st c wa ch → x ∈ M5 := fun x hx => by rw [e5]; exact List.mem_cons_of_mem _ hx
          have ma5 : a2.out M5 := e5 ▸ einN.more ou2 hbl
          have ex0 : Ex H12 (upd H12 bl (.lst [])) := Ex.mk hbl rfl
          have mo0 : MoS M5 st c (upd H12 bl (.lst [])) := by
            rw [e5]
            refine MoS.cons (fun x hx n => ?_) (fsome upd_same)
            have w := (wiN.exx ex0).al
            simp only [List.mem_cons, List.not_mem_nil, or_false, not_or] at hx n
            rcases hx with rfl | rfl | rfl | rfl
            · exact absurd rfl n.1
            · exact absurd rfl n.2
            · cases h1 : upd H12 bl (.lst []) x with
              | none => exact absurd h1 w.1
              | some o => exact ⟨o, rfl⟩
            · cases h1 : upd H12 bl (.lst []) x with
              | none => exact absurd h1 w.2
              | some o => exact ⟨o, rfl⟩
          refine lc_range (lo := 0) (n := _) (fun i H' => ∃ (ss : Ss) (xs : List V), H' bl = some (.lst xs) ∧ xs.length = i ∧ ss.In M5 H' xs ∧ BdI (ed2.fr []) d1 d1 (5 * i) i ss ∧ Kp M5 (upd H12 bl (.lst [])) H' ∧ Kp [st, c] H H' ∧ StOk st c H' ∧ WIn wa ch d1 H' ∧ MoS M5 st c H') ?_ ?_ ?_
          · exact ⟨.nil, [], upd_same, rfl, rfl, BdI.nil ok1, Kp.refl _, kHN.trans ex0.kp, st_ex ex0 so, wiN.exx ex0, mo0⟩
          · rintro i H' hi ⟨ss, xs, hbx, hxl, hss, hB, kM, kH, so, wi, mo⟩
            have hi2 : i < 3 := by omega
            have ei : EIn a2 ed2 H' := (einN.exx ex0).ksub kM ma5 (fun _ h => h)
            have en : EnvS (ed2.fr []).W (ed2.fr []).R M5 a2.e H' := ei.env eb1.ok ma5
            refine ⟨rfl, ?_⟩
            have kG : True ∧ Kp M5 (upd H12 bl (.lst [])) H' ∧ Kp [st, c] H H' := ⟨trivial, kM, kH⟩
            clear kM kH mo0 ex0 wiN einN kHN
            repeat' (first | specialize "st" | fail)
            have hbx2 : Hn bl = some (.lst xs) := by (first | exists "lift" | fail)
            refine ⟨xs, hbx2, sl1000' (by omega), ?_⟩
            generalize hq : upd Hn bl _ = H9
            have k9 := kp_upd hbx2 hq
            have h9 := at_new hq
            clear hq
            have kM := kG.2.1
            have kH := kG.2.2
            exact ⟨ss.app (.cons sx .nil), xs ++ [v], h9, by rw [List.length_append, hxl]; rfl, Ss.app_in (by (first | subst "ss" | fail)) ⟨v, [], rfl, by (first | subst "sx" | fail), rfl⟩, (hB.plain ok1 sk (by decide) (by decide)).up (by omega) (by omega), by (first | subst "kp5" | fail), by (first | subst "kpx" | fail), by (first | subst "st_ok" | fail), by (first | subst "win" | fail), by (first | exists "mok" | fail)⟩
          · rintro H13 ⟨ss0, xs0, hbx0, hxl0, hss0, hB0, kM0, kH0, so, wi0, mo0'⟩
            have hds : (dn.toNat : Int) ≤ 2 := by omega
            have ei0 : EIn a2 ed2 H13 := (einN.exx ex0).ksub kM0 ma5 (fun _ h => h)
            have hB1 : BdI (ed2.fr []) d1 d1 15 3 ss0 := hB0.up (by omega) (by omega)
            clear ex0 mo0 wiN einN kHN kM0 hB0
            repeat' (first | specialize "st" | fail)
            have kk : True ∧ Kp [st, c] H Hn := ⟨trivial, kH0.trans ke⟩
            have hbx1 : Hn bl = some (.lst xs0) := ke.out _ _ nbs hbx0
            have sw : ∀ x, x ∈ [st, c] → x ∈ M5 := subm_c m51 (subm_c m52 subm_n)
            have hss1 : ss0.In M5 Hn xs0 := hss0.kp (ke.sub sw)
            have ei1 : EIn a2 ed2 Hn := ei0.ksub ke ma5 sw
            have wi1 : WIn wa ch d1 Hn := wi0.kp ke ndp hnc
            have mo1 : MoS M5 st c Hn := mo0'.kp ke
            obtain ⟨HB, rfl⟩ : ∃ x, x = Hn := ⟨_, rfl⟩
            clear hbx0 hss0 ei0 wi0 mo0' ke kH0
            have sob := so
            refine w_rng (lo := 0) (n := _) (fun k σ H' => ∃ (x9 x10 : Option V) (d' : Wd) (ss : Ss) (xs : List V), σ = [some (.ref st), some (.bl al), some (.int (ni : Int)), some (.int (no : Int)), some (.ref ch), some (.bl lb), some (.ref wa), some (.ref a2.e), some (.ref bl), x9, x10] ∧ H' bl = some (.lst xs) ∧ ss.In M5 H' xs ∧ BdI (ed2.fr []) d1 d' (15 + 6 * k) (3 + 8 * k) ss ∧ Kp M5 HB H' ∧ Kp [st, c] H H' ∧ StOk st c H' ∧ WIn wa ch d' H' ∧ MoS M5 st c H') ?_ ?_ ?_
            · exact ⟨none, none, d1, ss0, xs0, rfl, hbx1, hss1, by simpa using hB1, Kp.refl _, kk.2, sob, wi1, mo1⟩
            · rintro k σ H' hk ⟨x9, x10, d', ss, xs, rfl, hbx, hss, hB, kM, kH, so, wi, mo⟩
              have ei : EIn a2 ed2 H' := ei1.ksub kM ma5 (fun _ h => h)
              have en : EnvS (ed2.fr []).W (ed2.fr []).R M5 a2.e H' := ei.env eb1.ok ma5
              have okd := hB.evo.wok ok1
              have ebd := eb1.evo hB.evo
              have hk2 : k < 2 := by omega
              have hld : d'.left ≤ 2 * (5 : Nat) + 1 := by
                have h1 := hB.evo.lf
                have h2 : d1.left = 11 := by rw [ed1]
                omega
              have hxl : xs.length ≤ 60000 := by
                have h1 := Ss.in_len hss
                have h2 := hB.sz
                have h3 := ok1.pot
                have h4 := okd.lf0
                have h5 := okd.it0
                have h6 := ok1.ce0
                have h7 := ok1.lf0
                have h8 := ok1.it0
                omega
              have kG : True ∧ Kp M5 HB H' ∧ Kp [st, c] H H' := ⟨trivial, kM, kH⟩
              clear kM kH ei1 wi1 mo1 hbx1 hss1 hB1 kk
              repeat' (first | specialize "st" | fail)
              refine c_par ms5 mo so wi ndp hnc ei ma5 ebd okd hld (.inr rfl) ?_
              intro s1 v1 d3 H4 hs1 po kp4 so4 wi4
              have mo4 : MoS M5 st c H4 := moS_mw kp4 so4 wi4 mo
              have nbM : bl ∉ Mw st c wa ch := fun z => by
                simp only [List.mem_cons, List.not_mem_nil, or_false, not_or] at z nbs
                rcases z with z | z | z | z
                · exact nbs.1 z
                · exact nbs.2 z
                · exact nbw z.symm
                · exact nbc z.symm
              have hbx4 : H4 bl = some (.lst xs) := kp4.out _ _ nbM hbx
              repeat' (first | specialize "st" | fail)
              have kM := kG.2.1
              have kH := kG.2.2
              exact ⟨_, _, d3, (ss.app (.cons s1 .nil)).app (.cons sx .nil), xs ++ [v1] ++ [v], rfl, hu, Ss.app_in (Ss.app_in (by (first | subst "ss" | fail)) ⟨v1, [], rfl, by (first | subst "sx" | fail), rfl⟩) ⟨v, [], rfl, by (first | subst "sx" | fail), rfl⟩, ((hB.par po (Fr.le.refl _)).plain ok1 sk (by decide) (by decide)).up (by omega) (by omega), by (first | subst "kp5" | fail), by (first | subst "kpx" | fail), by (first | subst "st_ok" | fail), by (first | subst "win" | fail), by (first | exists "mok" | fail)⟩
            · rintro σ H' ⟨x9, x10, d', ss, xs, rfl, hbx, hss, hB, kM, kH, so, wi, mo⟩
              have hB2 : BdI (ed2.fr []) d1 d' 27 19 ss := hB.up (by omega) (by omega)
              have ei2 : EIn a2 ed2 H' := ei1.ksub kM ma5 (fun _ h => h)
              have nga : a2.ga ∉ M5 ∧ a2.e ∉ M5 := ⟨ma5 _ (by simp [Ea.all]), ma5 _ (by simp [Ea.all])⟩
              obtain ⟨⟨kv, q1, q2, _, _, _, qg, _⟩, _, _, hgl, _⟩ := id ei2
              have okd := hB.evo.wok ok1
              clear hB ei1 wi1 mo1 hbx1 hss1 hB1 kk kM
              repeat' (first | specialize "st" | fail)
              refine w_list (xs := ed2.gives.map V.int) (fun i σ H2 => ∃ (x9 x10 : Option V) (ss : Ss) (xs : List V), σ = [some (.ref st), some (.bl al), some (.int (ni : Int)), some (.int (no : Int)), some (.ref ch), some (.bl lb), some (.ref wa), some (.ref a2.e), some (.ref bl), x9, x10] ∧ H2 bl = some (.lst xs) ∧ ss.In M5 H2 xs ∧ BdI (ed2.fr []) d1 d' (27 + 5 * i) (19 + 2 * i) ss ∧ Kp M5 H' H2 ∧ Kp [st, c] H H2 ∧ StOk st c H2 ∧ WIn wa ch d' H2 ∧ MoS M5 st c H2) ?_ ?_ ?_ ?_
              · exact ⟨_, _, ss, xs, rfl, hbx, hss, by simpa using hB2, Kp.refl _, kH, so, wi, mo⟩
              · rintro i σ H2 _ ⟨x9, x10, ss, xs, rfl, _, _, _, kM, _⟩
                exact sql (kM.out _ _ nga.1 hgl)
              · rintro i x σ H2 hx ⟨x9, x10, ss, xs, rfl, hbx, hss, hB, kM, kH, so, wi, mo⟩
                rw [List.getElem?_map] at hx
                obtain ⟨cc, hcc, rfl⟩ := Option.map_eq_some_iff.mp hx
                have hcg : cc ∈ ed2.gives := List.mem_of_getElem? hcc
                have ei : EIn a2 ed2 H2 := ei2.ksub kM ma5 (fun _ h => h)
                have en : EnvS (ed2.fr []).W (ed2.fr []).R M5 a2.e H2 := ei.env eb1.ok ma5
                have hi24 : i < 24 := by
                  have h1 := (List.getElem?_eq_some_iff.mp hcc).1
                  have h2 := eb1.gl
                  omega
                have hxl : xs.length ≤ 60000 := by
                  have h1 := Ss.in_len hss
                  have h2 := hB.sz
                  have h3 := ok1.pot
                  have h4 := okd.lf0
                  have h5 := okd.it0
                  have h6 := ok1.ce0
                  have h7 := ok1.lf0
                  have h8 := ok1.it0
                  omega
                have kG : True ∧ Kp M5 H' H2 ∧ Kp [st, c] H H2 := ⟨trivial, kM, kH⟩
                clear kM kH ei2 hB2 hgl q1
                repeat' (first | specialize "st" | fail)
                · have kM := kG.2.1
                  have kH := kG.2.2
                  exact ⟨_, _, ss.app (.cons (.give cc t) .nil), xs ++ [_], rfl, hu, Ss.app_in (by (first | subst "ss" | fail)) ⟨_, [], rfl, by (first | subst "sxc" | fail), rfl⟩, (hB.plain (s := .give cc t) ok1 (D := 1) (S := 1) (k := 2) ⟨⟨hcg, ok, by omega⟩, trivial, rfl, by simp [Sx.dep], by simp [Sx.sz], by simp [Sx.wk]⟩ (by decide) (by decide)).up (by omega) (by omega), by (first | subst "kp5" | fail), by (first | subst "kpx" | fail), by (first | subst "st_ok" | fail), by (first | subst "win" | fail), by (first | exists "mok" | fail)⟩
                · have kM := kG.2.1
                  have kH := kG.2.2
                  exact ⟨_, _, ss, xs, rfl, by (first | exists "lift" | fail), by (first | subst "ss" | fail), hB.up (by omega) (by omega), by (first | subst "kp5" | fail), by (first | subst "kpx" | fail), by (first | subst "st_ok" | fail), by (first | subst "win" | fail), by (first | exists "mok" | fail)⟩
              · rintro σ H2 ⟨x9, x10, ss, xs, rfl, hbx, hss, hB, kM, kH, so, wi, mo⟩
                have hgl2 : ed2.gives.length ≤ 2 := by
                  rw [eed2]
                  show gvs.length ≤ 2
                  rw [egv, List.length_map, List.length_range]
                  exact hno
                rw [List.length_map] at hB
                have hB3 : BdI (ed2.fr []) d1 d' 37 23 ss := hB.up (by omega) (by omega)
                clear kM hB hB2 ei2
                repeat' (first | specialize "st" | fail)
                rename_i ps Hs hps es hns
                have v1 : d1.cells = m ∧ d1.threads = 1 ∧ d1.left = 11 ∧ d1.items = it ∧ d1.loops = lb ∧ d1.chs = chs := by
                  rw [ed1]
                  exact ⟨rfl, rfl, rfl, rfl, rfl, rfl⟩
                obtain ⟨v2, v3, v4, v5, v6, v7⟩ := v1
                have e := hB3.evo
                have ece := e.ce
                have elf := e.lf
                have elf0 := e.lf0
                have eit := e.it
                have eit0 := e.it0
                have ehl := e.chl
                rw [v7, hcl] at ehl
                have hwi : WIn wa ch d' Hn := (wi.exx es).exx ke
                have hss2 : ss.In M5 Hn xs := (hss.kp es.kp).kp ke.kp
                have sw : ∀ x, x ∈ [st, c] → x ∈ M5 := subm_c m51 (subm_c m52 subm_n)
                refine q ⟨d'.cells, d'.chs, ss⟩ _ Hn ⟨p, ch, .ref ps, rfl, hn, hwi.hc, hnc, ⟨ps, bl, xs, rfl, ke _ _ hns, ke _ _ (es _ _ hbx), nbs, Ss.In.less sw hss2⟩⟩ ⟨okd.ce0, ?_, ?_, e.c24, hB3.rule, ?_, ?_, ?_, ?_, hB3.wk0, ?_⟩ ((kH.trans es.kp).trans ke.kp) (st_ex ke (st_ex es so))
                · have h1 := okd.pot
                  have h2 := okd.lf0
                  have h3 := okd.it0
                  show d'.cells ≤ 400
                  omega
                · obtain ⟨j, ej⟩ := e.ch
                  refine ⟨ni, no, j, hni, hno, by show d'.chs = _; rw [ej, v7, echs], ?_⟩
                  refine hB3.fit _ ⟨fun x h => ?_, fun x h => ?_, fun x h => ?_, fun x h => ?_⟩ ⟨fun x a b => ?_, fun x a b => ?_⟩
                  · show 0 ≤ x ∧ x < d'.cells
                    rcases h with h | ⟨pp, h, h1, h2⟩ | h
                    · have := eb1.cb x h
                      omega
                    · rw [eed2] at h
                      have := fr.spans pp h
                      omega
                    · cases h
                  · show 0 ≤ x ∧ x < d'.cells
                    rcases h with h | ⟨pp, h, h1, h2⟩ | h
                    · rw [eed2] at h
                      have h : x ∈ ed.reads := h
                      rw [fr.reads] at h
                      simp only [List.mem_cons, List.not_mem_nil, or_false] at h
                      omega
                    · rw [eed2] at h
                      have := fr.spans pp h
                      omega
                    · cases h
                  · show (ni : Int) ≤ x ∧ x < (d'.chs.length : Int)
                    have h : x ∈ ed2.gives := h
                    rw [eed2] at h
                    have h : x ∈ gvs := h
                    rw [egv] at h
                    obtain ⟨k, hk, e1⟩ := List.mem_map.mp h
                    have := List.mem_range.mp hk
                    omega
                  · show 0 ≤ x ∧ x < (d'.chs.length : Int) ∧ (x < ni ∨ (ni + no : Int) ≤ x)
                    have h : x ∈ ed2.takes := h
                    rw [eed2] at h
                    have h : x ∈ tks := h
                    rw [etk] at h
                    obtain ⟨k, hk, e1⟩ := List.mem_map.mp h
                    have := List.mem_range.mp hk
                    omega
                  · show (0 ≤ x ∧ x < d'.cells) ∧ 0 ≤ x ∧ x < d'.cells
                    omega
                  · rw [v7, hcl] at a
                    show ((ni : Int) ≤ x ∧ x < (d'.chs.length : Int)) ∧ 0 ≤ x ∧ x < (d'.chs.length : Int) ∧ (x < ni ∨ (ni + no : Int) ≤ x)
                    omega
                · have h := hB3.num
                  rw [v3] at h
                  exact h
                · show ss.cnt ≤ 11
                  omega
                · have h := hB3.dep
                  show ss.dep ≤ 70
                  omega
                · have h := hB3.sz
                  show ss.sz ≤ 6000
                  omega
                · have h := hB3.wk
                  show ss.wk ≤ 2900
                  rw [v6] at h
                  unfold wkb at h
                  rw [if_neg (by decide)] at h
                  cases hlb : lb
                  · rw [hlb, if_pos (.inr rfl)] at h
                    omega
                  · rw [hlb, if_neg (by rintro (z | z); omega; cases z)] at h
                    have := it30.2.2 hlb
                    omega
abbrev s_parts_of : Stmt := topS 11
theorem sc_parts_of : FnScope ["s", "kind", "row"] ["s"] (defScope s_parts_of) := ⟨rfl, rfl, rfl, by decide +kernel, rfl, by decide +kernel, by decide +kernel⟩
abbrev p_parts_of : List Str := ["s"]
/-! the parts of a statement -/
def Ss.list : Ss → List Sx
  | .nil => []
  | .cons s r => s :: r.list
def Ps.list : Ps → List Sx
  | .nil => []
  | .cons _ s r => s :: r.list
def As.list : As → List Sx
  | .nil => []
  | .cons _ _ _ s r => s :: r.list
def Sx.parts : Sx → List Sx
  | .seq ss => ss.list
  | .par ps => ps.list
  | .alt rs => rs.list
  | .ife _ a b => [a, b]
  | .rep _ _ a => [a]
  | _ => []
abbrev SxL (M : List Addr) (H : Hp) (vs : List V) (ss : List Sx) : Prop := Paired (fun v (s : Sx) => s.In M H v) vs ss
theorem Ss.in_list {M : List Addr} {H : Hp} : ∀ {ss : Ss} {vs : List V}, ss.In M H vs → SxL M H vs ss.list
  | .nil, _, h => by cases h; exact .nil
  | .cons _ _, _, ⟨x, ys, e, a, b⟩ => by subst e; exact .cons a (Ss.in_list b)
theorem Ps.in_at {M : List Addr} {H : Hp} : ∀ {ps : Ps} {vs : List V} {i : Nat} {v : V}, ps.In M H vs → vs[i]? = some v → ∃ q t x s, v = .ref q ∧ H q = some (.tup [.int t, x]) ∧ ps.list[i]? = some s ∧ s.In M H x
  | .nil, _, _, _, h, e => by cases h; simp at e
  | .cons t s r, _, i, v, ⟨q, x, ys, e0, h, a, b⟩, e => by
    subst e0
    cases i with
    | zero =>
      simp at e
      subst e
      exact ⟨q, t, x, s, rfl, h, rfl, a⟩
    | succ i =>
      obtain ⟨q, t, x, s, e1, e2, e3, e4⟩ := Ps.in_at (i := i) b (by simpa using e)
      exact ⟨q, t, x, s, e1, e2, by simpa [Ps.list] using e3, e4⟩
theorem Ps.list_len {M : List Addr} {H : Hp} : ∀ {ps : Ps} {vs : List V}, ps.In M H vs → ps.list.length = vs.length
  | .nil, _, h => by cases h; rfl
  | .cons _ _ _, _, ⟨_, _, _, e0, _, _, b⟩ => by subst e0; simp only [Ps.list, List.length_cons, Ps.list_len b]
theorem As.in_at2 {M : List Addr} {H : Hp} : ∀ {rs : As} {vs : List V} {i : Nat} {v : V}, rs.In M H vs → vs[i]? = some v → ∃ q u c y x s, v = .ref q ∧ H q = some (.tup [u, .int c, y, x]) ∧ rs.list[i]? = some s ∧ s.In M H x
  | .nil, _, _, _, h, e => by cases h; simp at e
  | .cons _ c _ s r, _, i, v, ⟨q, u, y, x, ys, e0, h, g, t, a, b⟩, e => by
    subst e0
    cases i with
    | zero =>
      simp at e
      subst e
      exact ⟨q, u, c, y, x, s, rfl, h, rfl, a⟩
    | succ i =>
      obtain ⟨q, u, c, y, x, s, e1, e2, e3, e4⟩ := As.in_at2 (i := i) b (by simpa using e)
      exact ⟨q, u, c, y, x, s, e1, e2, by simpa [As.list] using e3, e4⟩
theorem As.list_len {M : List Addr} {H : Hp} : ∀ {rs : As} {vs : List V}, rs.In M H vs → rs.list.length = vs.length
  | .nil, _, h => by cases h; rfl
  | .cons _ _ _ _ _, _, ⟨_, _, _, _, _, e0, _, _, _, _, b⟩ => by subst e0; simp only [As.list, List.length_cons, As.list_len b]
/-- the parts' list: a new one (parts_of), or the statement's own -/
def sp_parts : Sp := fun vs H Q _ => ∃ (M : List Addr) (s : Sx) (v : V), vs = [v] ∧ s.In M H v ∧ s.sz ≤ 50000 ∧ ∀ (l : Addr) (ys : List V) (H' : Hp), H' l = some (.lst ys) → SxL M H' ys s.parts → Ex H H' → Q (.ref l) H'
theorem sxl_ex {M : List Addr} {H H' : Hp} {vs : List V} {ss : List Sx} (e : Ex H H') (h : SxL M H vs ss) : SxL M H' vs ss := Paired.mapP h fun _ _ q => sx_ex e q
/-! ### the law's own def is called from the top: there no repr is under way (guards), and the def's body may use that -/
open PyProof.Rows in
structure TopOk (P : Program) (w : World) (K : PySem.W.Frag) (mg : Str → Option Value) (base : Heap) (f : Addr) (fd : FuncData) (ps : List Str) (sp : Sp) : Prop where
  go : ∀ (s : Shared) (H : Hp) (ar : Args) (us : List Value) (vs : List V) (Q : VK), Env0 P w K mg base callerA [] s H → BindsTo s fd ar (ps.zip us) → Vals vs us → sp vs H Q E0 →
    codeAny (model P w) callerA (Code.call (Value.ref f) ar) (CR CX0 [] P w H s Q E0) s
section
open PyProof.Rows
variable {P : Program} {w : World} {K : PySem.W.Frag} {mg : Str → Option Value} {base : Heap}
theorem fun_top {x qual : Str} {st : Stmt} {f : Addr} {fd : FuncData} {N ps : List Str} {k : Nat} {sp : Sp} (F : Fun K x qual st f fd) (S : FnScope N ps (defScope st)) (room : Room (k + 1) callerA)
    (len : ∀ vs H Q E, sp vs H Q E → vs.length = ps.length)
    (bd : ∀ (cdv : Value) (s : Shared) (H : Hp) (vs : List V) (Q : VK), Room k (callerA.deeper (envOfC qual (defScope st) s.heap.objs.size f cdv)) → sp vs H Q E0 →
      ∃ t, PSs (cxOf CX0 P w K mg base N qual (defScope st) f cdv callerA [] s H E0).nox (defBody st) t ∧ t { nx := fun _ H' => Q .non H', rt := Q } (start N vs) H) : TopOk P w K mg base f fd ps sp := by
  obtain ⟨oc, od, kV, doc, pm, an, cdv, ct, osl, rfl, lk, hcd⟩ := F.ex
  constructor
  intro s H ar us vs Q e0 hb rv hsp
  have n1 : vs.length = ps.length := len _ _ _ _ hsp
  have inK : K.In s.heap := e0.mod.kin.keeps fun b o z => (e0.bs b o z).left
  have noL : s.heap.NoLimit := e0.mod.nolimit.keeps fun b o z => (e0.bs b o z).left
  obtain ⟨t, ht, hq⟩ := bd cdv s H vs Q (room.deeper _) hsp
  refine codeAny_call_function room.depth (inK _ _ lk) rfl S.co S.gen rfl
    (PySem.W.codeRec_of inK hcd) (hb _ _ _ _ (wpAny_newFunctionEnv_cells S.kind ?kinds fun env ee s1 x => ?run))
  case kinds =>
    rintro ⟨n, v⟩ hy
    refine (S.par n (List.of_mem_zip hy).left).imp id fun q => ?_
    exact ⟨q, PySem.W.cellsFrom_some _ _ _ (Or.inl q)⟩
  case run =>
    subst ee
    have I := inv_start (CX := CX0) (E := E0) S room.hd e0 n1 rv x
    refine ⟨noL.keeps x.toInCall.keep, codeAny_func (wpAny_mono (ht.nox.run [] s1 (start N vs) H _ I hq) ?_ fun _ _ z => z)⟩
    rintro (_ | _ | _ | u) s2 hs
    all_goals first
      | (obtain ⟨_, _, _, q⟩ := hs; exact False.elim q)
      | (obtain ⟨σ', H', J, q⟩ := hs; exact ⟨V.non, H', J.os, J.bare, J.base, J.hok, rfl, q⟩)
      | (obtain ⟨v, σ', H', J, r, q⟩ := hs; exact ⟨v, H', J.os, J.bare, J.base, J.hok, r, q⟩)
/-- from the heap behind the top to the promise of the law's def -/
theorem top_call {mb : Str → Option Value} {fa a : Addr} {fd : FuncData} {x : Str} {sp : Sp} {s₁ : Shared} {vs : List Value} {ns : List Int} (inK : K.In s₁.heap) (gG : s₁.heap.Ns mainGlobals mg) (gB : s₁.heap.Ns builtinsNs mb)
    (boot : ∀ y : Str, y ≠ "__name__" → mb y = bootBuiltins y) (noL : s₁.heap.NoLimit) (noG : s₁.gens = #[]) (scr : s₁.heap.get? a = some { cls := .type "list", data := .seq vs.toArray }) (isI : IntsAre vs ns) (few : ns.length ≤ sizeLine)
    (F : ∀ base : Heap, K.In base → base.Ns mainGlobals mg → TopOk P w K mg base fa fd [x] sp) (bnd : ∀ (s : Shared) (u : Value), BindsTo s fd ⟨[u], []⟩ [(x, u)])
    (say : ∀ H : Hp, Only H → SqL K H a (ns.map V.int) → sp [.ref a] H (fun v _ => v = .bl true) E0) :
    codeAny (model P w) callerA (.call (.ref fa) ⟨[.ref a], []⟩) (fun r t => r = .ok (.ret (.bool true)) ∧ OldK s₁.heap t.heap ∧ t.os = s₁.os ∧ AllBare t.gens) s₁ := by
  have rel : Vals (ns.map V.int) vs := vals_ints isI
  -- H tracks at most the script
  have main : ∀ H : Hp, Only H → SqL K H a (ns.map V.int) → HOk P w H s₁.heap → (∀ b u, H b = some u → b = a) → (∀ u, H a = some u → K.lookup a = none) →
      codeAny (model P w) callerA (.call (.ref fa) ⟨[.ref a], []⟩) (fun r t => r = .ok (.ret (.bool true)) ∧ OldK s₁.heap t.heap ∧ t.os = s₁.os ∧ AllBare t.gens) s₁ := by
    intro H oH sH kH aH nK
    have none_or : ∀ b, H b = none ∨ b = a := fun b => by
      rcases hb : H b with _ | u
      · exact Or.inl rfl
      · exact Or.inr (aH b u hb)
    have ns' : ∀ {b : Addr} {m : Str → Option Value}, s₁.heap.Ns b m → (hidT s₁.heap H).Ns b m := by
      rintro b m ⟨o, es, ep, e, d, r⟩
      refine ⟨o, es, ep, hidT_get e ((none_or b).resolve_right ?_), d, r⟩
      rintro rfl
      rw [scr] at e
      cases e
      cases (show Data.seq vs.toArray _ = Data.dict es ep from d)
    have kb : K.In (hidT s₁.heap H) := by
      intro b o e
      refine hidT_get (inK b o e) ?_
      rcases hb : H b with _ | u
      · rfl
      · obtain rfl := aH b u hb
        rw [nK u hb] at e
        cases e
    obtain ⟨mc, z1, z2⟩ := noL
    have env : Env0 P w K mg (hidT s₁.heap H) callerA [] s₁ H := ⟨rfl, ⟨kb, ns' gG, ⟨mb, ns' gB, boot⟩, ⟨mc, ns' z1, z2⟩⟩, fun _ _ e => of_hidT e, Nat.le_of_eq (hidT_size _ _), trivial, fun b z => (List.not_mem_nil (show b ∈ ([] : List Addr) from z)).elim, kH, .of_eq noG⟩
    refine codeAny_mono ((F _ kb (ns' gG)).go s₁ H _ [.ref a] [.ref a] _ env (bnd s₁ (.ref a)) (.cons rfl .nil) (say H oH sH)) ?_
    rintro (e | _ | _ | _ | u) t hz
    all_goals first
      | exact (show False from hz).elim
      | skip
    obtain ⟨v, H', os, bare, un, ok', rv, q⟩ := hz
    obtain rfl : v = .bl true := q
    obtain rfl : u = Value.bool true := rv
    refine ⟨rfl, OldK.of_keep ?_, os, bare⟩
    intro b o e
    rcases hb : H b with _ | u
    · exact un.keep b o e hb (fun z => List.not_mem_nil (show b ∈ ([] : List Addr) from z)) List.not_mem_nil
    · rcases oH b with z | ⟨ob, xs, z⟩
      · rw [hb] at z
        cases z
      · have p1 := (kH b _ z).1
        rw [e] at p1
        cases p1
        exact (ok' b _ (un.frzs b o _ z)).1
  rcases hk : K.lookup a with _ | o
  · refine main (fun b => if b = a then some (.frz { data := .seq vs.toArray, cls := .type "list" } (.lst (ns.map V.int))) else none) ?_ ?_ ?_ ?_ fun _ _ => hk
    · intro b
      by_cases e : b = a
      · exact Or.inr ⟨_, _, if_pos e⟩
      · exact Or.inl (if_neg e)
    · exact Or.inl (Or.inr ⟨_, if_pos rfl⟩)
    · intro b u z
      by_cases e : b = a
      · cases (if_pos e).symm.trans z
        subst e
        exact ⟨scr, by rw [List.length_map]; exact few, vs, _, rel, scr⟩
      · cases (if_neg e).symm.trans z
    · intro b u z
      by_cases e : b = a
      · exact e
      · cases (if_neg e).symm.trans z
  · have e := inK a o hk
    rw [scr] at e
    cases e
    refine main (fun _ => none) (fun _ => Or.inl rfl) (Or.inr ⟨_, vs.toArray, _, hk, rfl, rfl, rfl, ?_, by simpa using rel⟩) ?_ ?_ ?_
    · rw [List.size_toArray, isI.length]
      exact few
    · intro b u z
      cases (show (none : Option HO) = some u from z)
    · intro b u z
      cases (show (none : Option HO) = some u from z)
    · intro u z
      cases (show (none : Option HO) = some u from z)
end
/-! ### repr of data -/
section
variable {X : Cx}
def rRepr (K : PySem.W.Frag) : List V → Hp → VK → Prop := fun vs H Q => ∃ (a : Addr) (d : PyData), vs = [.ref a] ∧ Dp K H (.ref a) d ∧ d.showable = true ∧ d.hasDict = false ∧ d.depth ≤ 1000 ∧ d.shown.length ≤ sizeLine ∧ Q (.str d.shown) H
theorem call_reprD (hg : X.A.guards = some []) (hu : X.A.units + 1100 < cLine) : CallR X (.builtin "repr") (rRepr X.K) := by
  intro pins s σ H vs us Q I r h
  obtain ⟨a, d, rfl, hd, h1, h2, h3, h4, q⟩ := h
  rw [Vals.ref1 r]
  obtain ⟨as, rd⟩ := Dp.reads I d (.ref a) (.ref a) hd rfl
  refine repr_of_reads' rd h1 (fun z => by rw [h2] at z; cases z) hg (by omega) (fun _ _ e => e) (fun h' u tk hk => ?_) h4
  refine ⟨.str d.shown, H, I.kept hk, ⟨_, rfl⟩, q⟩
end
/-! ### == of lists and tuples whose parts are the same objects, or flat, or again such -/
def Sm (K : PySem.W.Frag) (H : Hp) : Nat → V → V → Prop
  | 0, x, y => (x = y ∧ flatB x = true) ∨ ∃ a, x = .ref a ∧ y = .ref a
  | n + 1, x, y => ((x = y ∧ flatB x = true) ∨ ∃ a, x = .ref a ∧ y = .ref a) ∨ ∃ a b xs ys, x = .ref a ∧ y = .ref b ∧ ((SqL K H a xs ∧ SqL K H b ys) ∨ (SqT K H a xs ∧ SqT K H b ys)) ∧ Paired (Sm K H n) xs ys
section
variable {X : Cx} {pins : List (Addr × Obj)} {σ : L2.St} {H : Hp} {s : Shared}
theorem sm_items {A : Around} {F : V → V → Prop} (ih : ∀ x y v u, F x y → RelV x v → RelV y u → SeqAt.EqAt A s v u true) {xs ys : List V} (hp : Paired F xs ys) : ∀ {us ws : List Value}, Vals xs us → Vals ys ws → us.length = ws.length ∧ ∀ j (p : j < us.length) (q : j < ws.length), SeqAt.EqAt A s us[j] ws[j] true := by
  induction hp with
  | nil =>
    rintro us ws (_ | _) (_ | _)
    exact ⟨rfl, fun j p _ => absurd p (Nat.not_lt_zero j)⟩
  | cons h _ k =>
    rintro us ws (_ | ⟨a1, b1⟩) (_ | ⟨a2, b2⟩)
    obtain ⟨e, g⟩ := k b1 b2
    refine ⟨by simp only [List.length_cons, e], ?_⟩
    rintro (_ | j) p q
    · exact ih _ _ _ _ h a1 a2
    · exact g j (Nat.lt_of_succ_lt_succ p) (Nat.lt_of_succ_lt_succ q)
theorem sm_rc (I : Inv X pins σ H s) {A : Around} {F : V → V → Prop} (hu : A.units < cLine) (ih : ∀ x y v u, F x y → RelV x v → RelV y u → SeqAt.EqAt A.in1 s v u true) {a b : Addr} {xs ys : List V} (h : (SqL X.K H a xs ∧ SqL X.K H b ys) ∨ (SqT X.K H a xs ∧ SqT X.K H b ys))
    (hp : Paired F xs ys) : SeqAt.RcAt A s (.ref a) (.ref b) true := by
  rcases h with ⟨ha, hb⟩ | ⟨ha, hb⟩
  · obtain ⟨us, r1, p1, _⟩ := I.list ha
    obtain ⟨ws, r2, p2, _⟩ := I.list hb
    obtain ⟨e, g⟩ := sm_items ih hp r1 r2
    have r := SeqAt.RcAt.lists (e := fun _ => true) p1.isList p2.isList (by simpa using e) hu fun j h1 h2 => by simpa using g j (by simpa using h1) (by simpa using h2)
    rwa [show ((List.range us.toArray.size).all fun _ => true) = true from List.all_eq_true.mpr fun _ _ => rfl] at r
  · obtain ⟨us, r1, p1, _⟩ := I.tuple ha
    obtain ⟨ws, r2, p2, _⟩ := I.tuple hb
    obtain ⟨e, g⟩ := sm_items ih hp r1 r2
    have r := SeqAt.RcAt.tuples (e := fun _ => true) p1 p2 hu fun j h1 h2 => by simpa using g j (by simpa using h1) (by simpa using h2)
    rwa [show ((List.range (min us.toArray.size ws.toArray.size)).all fun _ => true) = true from List.all_eq_true.mpr fun _ _ => rfl, show (us.toArray.size == ws.toArray.size) = true by simpa using e] at r
theorem sm_at (I : Inv X pins σ H s) : ∀ (n : Nat) (A : Around), A.units + n < cLine → ∀ (x y : V) (v u : Value), Sm X.K H n x y → RelV x v → RelV y u → SeqAt.EqAt A s v u true
  | 0, _, _, _, _, _, _, h, rx, ry => by
    rcases h with ⟨rfl, f⟩ | ⟨a, rfl, rfl⟩
    · exact eqAt_same rx ry f
    · cases rx
      cases ry
      exact SeqAt.EqAt.same _
  | n + 1, A, hu, _, _, _, _, h, rx, ry => by
    rcases h with (⟨rfl, f⟩ | ⟨a, rfl, rfl⟩) | ⟨a, b, xs, ys, rfl, rfl, hs, hp⟩
    · exact eqAt_same rx ry f
    · cases rx
      cases ry
      exact SeqAt.EqAt.same _
    · cases rx
      cases ry
      by_cases e : a = b
      · subst e
        exact SeqAt.EqAt.same _
      · exact SeqAt.EqAt.of_refs e (sm_rc I (by omega) (sm_at I n A.in1 (by show A.units + 1 + n < cLine; omega)) hs hp)
end
section
variable {X : Cx}
def rEqS (K : PySem.W.Frag) : R2 := fun x y H Q => ∃ n a b xs ys, n ≤ 60 ∧ x = .ref a ∧ y = .ref b ∧ ((SqL K H a xs ∧ SqL K H b ys) ∨ (SqT K H a xs ∧ SqT K H b ys)) ∧ Paired (Sm K H n) xs ys ∧ Q (.bl true) H
theorem op_eqS (hu : X.A.units + 64 < cLine) : OpR X (compareOp .Eq) (rEqS X.K) := by
  intro pins s σ H x y v u Q I rx ry h
  obtain ⟨n, a, b, xs, ys, hn, rfl, rfl, hs, hp, q⟩ := h
  cases rx
  cases ry
  exact sm_rc I (by omega) (sm_at I n X.A.in1 (by show X.A.units + 1 + n < cLine; omega)) hs hp _ _ _ _ ⟨.bl true, H, I, rfl, q⟩
end
/-! ### all(..) of a list of bools -/
def rAllX (K : PySem.W.Frag) : List V → Hp → VK → Prop := rAll K
theorem call_allX {X : Cx} (hc : X.calm = true) : CallR X (.builtin "all") (rAllX X.K) := cr_all hc
theorem all_rep : ∀ n : Nat, (List.replicate n true).all id = true
  | 0 => rfl
  | n + 1 => by rw [List.replicate_succ, List.all_cons, all_rep n]; rfl
theorem q_allT {K : PySem.W.Frag} {H : Hp} {Q : VK} {a : Addr} {n : Nat} (h : H a = some (.lst (List.replicate n (.bl true)))) (q : Q (.bl true) H) : rAllX K [.ref a] H Q :=
  ⟨a, List.replicate n true, rfl, by rw [List.map_replicate]; exact .inl (.inl h), by rw [all_rep]; exact q⟩
/-! ### != of the same -/
section
variable {X : Cx} {pins : List (Addr × Obj)} {σ : L2.St} {H : Hp} {s : Shared}
theorem sm_rcn (I : Inv X pins σ H s) {A : Around} {F : V → V → Prop} (hu : A.units < cLine) (ih : ∀ x y v u, F x y → RelV x v → RelV y u → SeqAt.EqAt A.in1 s v u true) {a b : Addr} {xs ys : List V} (h : (SqL X.K H a xs ∧ SqL X.K H b ys) ∨ (SqT X.K H a xs ∧ SqT X.K H b ys))
    (hp : Paired F xs ys) : SeqAt.RcNeAt A s (.ref a) (.ref b) false := by
  rcases h with ⟨ha, hb⟩ | ⟨ha, hb⟩
  · obtain ⟨us, r1, p1, _⟩ := I.list ha
    obtain ⟨ws, r2, p2, _⟩ := I.list hb
    obtain ⟨e, g⟩ := sm_items ih hp r1 r2
    have r := SeqAt.RcNeAt.lists (e := fun _ => true) p1.isList p2.isList (by simpa using e) hu fun j h1 h2 => by simpa using g j (by simpa using h1) (by simpa using h2)
    rwa [show ((List.range us.toArray.size).all fun _ => true) = true from List.all_eq_true.mpr fun _ _ => rfl] at r
  · obtain ⟨us, r1, p1, _⟩ := I.tuple ha
    obtain ⟨ws, r2, p2, _⟩ := I.tuple hb
    obtain ⟨e, g⟩ := sm_items ih hp r1 r2
    have r := SeqAt.RcNeAt.tuples (e := fun _ => true) p1 p2 hu fun j h1 h2 => by simpa using g j (by simpa using h1) (by simpa using h2)
    rwa [show ((List.range (min us.toArray.size ws.toArray.size)).all fun _ => true) = true from List.all_eq_true.mpr fun _ _ => rfl, show (us.toArray.size == ws.toArray.size) = true by simpa using e] at r
end
section
variable {X : Cx}
def rNeS (K : PySem.W.Frag) : R2 := fun x y H Q => ∃ n a b xs ys, n ≤ 60 ∧ x = .ref a ∧ y = .ref b ∧ ((SqL K H a xs ∧ SqL K H b ys) ∨ (SqT K H a xs ∧ SqT K H b ys)) ∧ Paired (Sm K H n) xs ys ∧ Q (.bl false) H
theorem op_neS (hu : X.A.units + 64 < cLine) : OpR X (compareOp .NotEq) (rNeS X.K) := by
  intro pins s σ H x y v u Q I rx ry h
  obtain ⟨n, a, b, xs, ys, hn, rfl, rfl, hs, hp, q⟩ := h
  cases rx
  cases ry
  exact sm_rcn I (by omega) (sm_at I n X.A.in1 (by show X.A.units + 1 + n < cLine; omega)) hs hp _ _ _ _ ⟨.bl false, H, I, rfl, q⟩
end
/-! ### [x] * n, xs.count(text) -/
theorem q_rep1 {x : V} {l : Addr} {k : Int} {H : Hp} {Q : VK} (h : H l = some (.lst [x])) (k0 : 0 ≤ k) (k1 : k ≤ 100000) (q : ∀ p Hn, H p = none → Ex H Hn → Hn p = some (.lst (List.replicate k.toNat x)) → Q (.ref p) Hn) : rRep (.ref l) (.int k) H Q := by
  refine ⟨l, k, [x], rfl, rfl, h, by omega, by omega, ?_, fun p hp => q p _ hp (Ex.mk hp rfl) ?_⟩
  · simp only [List.length_cons, List.length_nil, Nat.zero_add, Nat.one_mul]
    have e : sizeLine = 16777216 := by decide
    omega
  · rw [upd_same]
    have e : ∀ m : Nat, (List.replicate m [x]).flatten = List.replicate m x := fun m => by
      induction m with
      | zero => rfl
      | succ m ih => rw [List.replicate_succ, List.flatten_cons, ih, List.replicate_succ]; rfl
    rw [e]
def rCntS (K : PySem.W.Frag) : V → List V → Hp → VK → Prop := fun x xs H Q => ∃ (p : Addr) (ss : List Str) (k : Str), x = .ref p ∧ xs = [.str k] ∧ SqL K H p (ss.map V.str) ∧ Q (.int (ss.count k : Nat)) H
theorem strD_all {K : PySem.W.Frag} {H : Hp} : ∀ l : List Str, DpAll K H (l.map V.str) (l.map PyData.str)
  | [] => .nil
  | x :: l => .cons (.str x) (strD_all l)
theorem strD_plain : ∀ l : List Str, PyData.plainAll (l.map PyData.str) = true
  | [] => by simp [PyData.plainAll]
  | x :: l => by simp [PyData.plainAll, PyData.plain, strD_plain l]
theorem strD_depth : ∀ l : List Str, PyData.depthAll (l.map PyData.str) = 0
  | [] => by simp [PyData.depthAll]
  | x :: l => by simp [PyData.depthAll, PyData.depth, strD_depth l]
theorem strD_count (k : Str) : ∀ l : List Str, ((l.map PyData.str).countP fun y => PyData.eqv y (.str k)) = l.count k
  | [] => rfl
  | x :: l => by
    rw [List.map_cons, List.countP_cons, strD_count k l, List.count_cons]
    simp [PyData.eqv]
theorem mt_lcountS {X : Cx} (hu : X.A.units + 64 < cLine) : MtR X "list.count" (rCntS X.K) := by
  intro pins s σ H x xs v us Q I rx rxs h
  obtain ⟨p, ss, k, rfl, rfl, hs, q⟩ := h
  cases rx
  obtain ⟨u, rfl, t, rfl⟩ := rxs.one
  obtain ⟨its, rv, hl, _⟩ := I.list hs
  obtain ⟨as, rd⟩ := Dp.readsAll I (ss.map PyData.str) _ its (strD_all ss) rv
  refine SeqAt.count_list_data (xs := ss.map PyData.str) (d := .str k) hl.isList rd (Reads.str k t) (strD_plain ss) (by simp [PyData.plain]) (by rw [strD_depth]; simp only [PyData.depth]; omega) ?_
  rw [strD_count]
  exact ⟨.int (ss.count k : Nat), H, I.tok _, ⟨s.toks, rfl⟩, q⟩
theorem pe_globR {X : Cx} {x : Str} {a : Addr} {pos : Pos} (hg : Gl X x) (hm : X.mg x = some (.ref a)) (hd : (x == ("__debug__" : Str)) = false := by decide) : PE X (.Name x pos) (tC (.ref a)) := pe_glob hg hm rfl hd
/-! ### data that repr tells: n signs at most, nested k deep at most -/
structure Ni (d : PyData) (n k : Nat) : Prop where
  lay : d.canLay0 = true
  shw : d.showable = true
  dep : d.depth ≤ k
  len : d.shown.length ≤ n
structure Nis (ds : List PyData) (n k : Nat) : Prop where
  lay : PyData.canLayAll0 ds = true
  shw : PyData.showableAll ds = true
  dep : PyData.depthAll ds ≤ k
  len : piled (PyData.shownAll ds) ≤ n
theorem Ni.up {d : PyData} {n k n' k' : Nat} (h : Ni d n k) (a : n ≤ n') (b : k ≤ k') : Ni d n' k' := ⟨h.lay, h.shw, Nat.le_trans h.dep b, Nat.le_trans h.len a⟩
theorem Nis.up {d : List PyData} {n k n' k' : Nat} (h : Nis d n k) (a : n ≤ n') (b : k ≤ k') : Nis d n' k' := ⟨h.lay, h.shw, Nat.le_trans h.dep b, Nat.le_trans h.len a⟩
theorem Ni.int {i : Int} (h : i.natAbs < 10 ^ 5) : Ni (.int i) 6 0 := by
  refine ⟨by simp [PyData.canLay0], ?_, by simp [PyData.depth], ?_⟩
  · simp only [PyData.showable]
    refine decide_eq_true ?_
    rcases Nat.eq_zero_or_pos i.natAbs with e | e
    · rw [e]
      decide
    · exact Nat.lt_of_lt_of_le ((Nat.log2_lt (k := 17) (by omega)).mpr (Nat.lt_of_lt_of_le h (by decide : 10 ^ 5 ≤ 2 ^ 17))) (by decide : 17 ≤ 1920)
  · simp only [PyData.shown]
    show (Str.ofString (toString i)).length ≤ 6
    rw [ofString_length]
    exact int_text_length_le10 (k := 5) (by decide) h
theorem Ni.non : Ni .none 4 0 := ⟨by simp [PyData.canLay0], by simp [PyData.showable], by simp [PyData.depth], by simp only [PyData.shown]; decide +kernel⟩
theorem Ni.str {x : Str} {n : Nat} (o : PyData.canLay0 (.str x) = true) (h : (reprText x).length ≤ n) : Ni (.str x) n 0 := ⟨o, by simp [PyData.showable], by simp [PyData.depth], by simp only [PyData.shown]; exact h⟩
theorem Nis.nil : Nis [] 0 0 := ⟨by simp [PyData.canLayAll0], by simp [PyData.showableAll], by simp [PyData.depthAll], by simp [PyData.shownAll, piled]⟩
theorem Nis.cons {d : PyData} {ds : List PyData} {a b k : Nat} (h : Ni d a k) (t : Nis ds b k) : Nis (d :: ds) (a + 2 + b) k := by
  refine ⟨by simp [PyData.canLayAll0, h.lay, t.lay], by simp [PyData.showableAll, h.shw, t.shw], ?_, ?_⟩
  · simp only [PyData.depthAll]
    exact Nat.max_le.mpr ⟨h.dep, t.dep⟩
  · simp only [PyData.shownAll, piled_cons]
    have h1 := h.len
    have h2 := t.len
    omega
theorem tuple_len (ts : List Str) : (tupleText ts).length ≤ piled ts + 2 := by
  unfold tupleText
  rw [strLen_append, strLen_append]
  have e1 : ((("(" : String) : Str)).length = 1 := rfl
  have e3 : (((if ts.length == 1 then ",)" else ")" : String) : Str)).length ≤ 2 := by split <;> decide
  rw [e1]
  by_cases h : ts = []
  · subst h
    decide +kernel
  · have := join_length_add ts h
    omega
theorem list_len (ts : List Str) : (listText ts).length ≤ piled ts + 2 := by
  cases ts with
  | nil => decide +kernel
  | cons t r =>
    have h := textFrom_length_pos r 1 (("[" : Str) ++ (if (0 : Nat) > 0 then ", " else "" : String) ++ t) (Nat.succ_pos 0)
    rw [strLen_append, strLen_append] at h
    have e : (("[" : String) : Str).length + (((if (0 : Nat) > 0 then ", " else "" : String)) : Str).length = 1 := rfl
    have hX : (listText (t :: r)).length = (textFrom 1 (("[" : Str) ++ (if (0 : Nat) > 0 then ", " else "" : String) ++ t) r).length + 1 := by
      show (textFrom 0 "[" (t :: r) ++ "]").length = _
      rw [strLen_append]
      rfl
    rw [hX, h, piled_cons]
    omega
theorem Nis.tup {ds : List PyData} {n k : Nat} (h : Nis ds n k) : Ni (.tuple ds) (n + 2) (k + 1) := by
  refine ⟨by simp [PyData.canLay0, h.lay], by simp [PyData.showable, h.shw], ?_, ?_⟩
  · simp only [PyData.depth]
    have := h.dep
    omega
  · simp only [PyData.shown]
    have := h.len
    have := tuple_len (PyData.shownAll ds)
    omega
theorem Nis.lst {ds : List PyData} {n k : Nat} (h : Nis ds n k) : Ni (.list ds) (n + 2) (k + 1) := by
  refine ⟨by simp [PyData.canLay0, h.lay], by simp [PyData.showable, h.shw], ?_, ?_⟩
  · simp only [PyData.depth]
    have := h.dep
    omega
  · simp only [PyData.shown]
    have := h.len
    have := list_len (PyData.shownAll ds)
    omega
theorem nabs {k : Int} (h : 0 ≤ k ∧ k < 65536) : k.natAbs < 10 ^ 5 := by
  have : (10 : Nat) ^ 5 = 100000 := by decide
  omega
/-! terms -/
def Tm.dat : Tm → PyData
  | .num n => .tuple [.str "num", .int n]
  | .cell k => .tuple [.str "cell", .int k]
  | .at f s e => .tuple [.str "at", .int f, .int s, e.dat]
  | .neg e => .tuple [.str "neg", e.dat]
  | .not e => .tuple [.str "not", e.dat]
  | .bin o a b => .tuple [.str o.str, a.dat, b.dat]
theorem Tm.In.dp {K : PySem.W.Frag} {H : Hp} : ∀ {e : Tm} {v : V}, e.In H v → Dp K H v e.dat
  | .num _, _, ⟨_, h, a⟩ => by subst h; exact .tup (sqt a) (.cons (.str _) (.cons (.int _) .nil))
  | .cell _, _, ⟨_, h, a⟩ => by subst h; exact .tup (sqt a) (.cons (.str _) (.cons (.int _) .nil))
  | .at _ _ _, _, ⟨_, _, h, a, b⟩ => by subst h; exact .tup (sqt a) (.cons (.str _) (.cons (.int _) (.cons (.int _) (.cons (Tm.In.dp b) .nil))))
  | .neg _, _, ⟨_, _, h, a, b⟩ => by subst h; exact .tup (sqt a) (.cons (.str _) (.cons (Tm.In.dp b) .nil))
  | .not _, _, ⟨_, _, h, a, b⟩ => by subst h; exact .tup (sqt a) (.cons (.str _) (.cons (Tm.In.dp b) .nil))
  | .bin _ _ _, _, ⟨_, _, _, h, a, b, c⟩ => by subst h; exact .tup (sqt a) (.cons (.str _) (.cons (Tm.In.dp b) (.cons (Tm.In.dp c) .nil)))
def tln : Nat → Nat
  | 0 => 3
  | n + 1 => 2 * tln n + 13
theorem tln_ge3 : ∀ n, 3 ≤ tln n
  | 0 => Nat.le_refl _
  | n + 1 => by
    show 3 ≤ 2 * tln n + 13
    omega
theorem tln_ge {n : Nat} (h : 0 < n) : 19 ≤ tln n := by
  obtain ⟨m, rfl⟩ : ∃ m, n = m + 1 := ⟨n - 1, by omega⟩
  have := tln_ge3 m
  show 19 ≤ 2 * tln m + 13
  omega
theorem tln_mono {m n : Nat} (h : m ≤ n) : tln m ≤ tln n := by
  induction h with
  | refl => exact Nat.le_refl _
  | step _ ih =>
    refine Nat.le_trans ih ?_
    show _ ≤ 2 * tln _ + 13
    omega
theorem ni_op (o : Op) : Ni (.str o.str) 5 0 := by cases o <;> exact Ni.str (by decide +kernel) (by decide +kernel)
theorem Tm.ni {R : Int → Prop} (hR : ∀ k, R k → 0 ≤ k ∧ k < 65536) : ∀ {e : Tm}, e.fit R → Ni e.dat (tln e.deep) e.deep
  | .num k, h => ((Nis.cons (Ni.str (x := "num") (n := 5) (by decide +kernel) (by decide +kernel)) (Nis.cons (Ni.int (nabs h)) Nis.nil)).tup).up (Nat.le_trans (by decide) (tln_ge (Tm.deep_pos _))) (Nat.le_refl _)
  | .cell k, h => ((Nis.cons (Ni.str (x := "cell") (n := 6) (by decide +kernel) (by decide +kernel)) (Nis.cons (Ni.int (nabs (hR _ h))) Nis.nil)).tup).up (Nat.le_trans (by decide) (tln_ge (Tm.deep_pos _))) (Nat.le_refl _)
  | .at f s e, h => by
    have i := Tm.ni hR h.2.2.2
    have hf := hR f (h.2.2.1 f (Int.le_refl f) (by have := h.1; omega))
    have hs : 0 ≤ s ∧ s < 65536 := ⟨by have := h.1; omega, by have := h.2.1; omega⟩
    refine ((Nis.cons ((Ni.str (x := "at") (n := 4) (by decide +kernel) (by decide +kernel)).up (Nat.le_refl _) (Nat.zero_le _)) (Nis.cons ((Ni.int (nabs hf)).up (Nat.le_refl _) (Nat.zero_le _)) (Nis.cons ((Ni.int (nabs hs)).up (Nat.le_refl _) (Nat.zero_le _)) (Nis.cons i (Nis.nil.up (Nat.le_refl _) (Nat.zero_le _)))))).tup).up ?_ (Nat.le_refl _)
    have := tln_ge e.deep_pos
    show _ ≤ 2 * tln e.deep + 13
    omega
  | .neg e, h => by
    have i := Tm.ni (e := e) hR h
    refine ((Nis.cons ((Ni.str (x := "neg") (n := 5) (by decide +kernel) (by decide +kernel)).up (Nat.le_refl _) (Nat.zero_le _)) (Nis.cons i (Nis.nil.up (Nat.le_refl _) (Nat.zero_le _)))).tup).up ?_ (Nat.le_refl _)
    have := tln_ge e.deep_pos
    show _ ≤ 2 * tln e.deep + 13
    omega
  | .not e, h => by
    have i := Tm.ni (e := e) hR h
    refine ((Nis.cons ((Ni.str (x := "not") (n := 5) (by decide +kernel) (by decide +kernel)).up (Nat.le_refl _) (Nat.zero_le _)) (Nis.cons i (Nis.nil.up (Nat.le_refl _) (Nat.zero_le _)))).tup).up ?_ (Nat.le_refl _)
    have := tln_ge e.deep_pos
    show _ ≤ 2 * tln e.deep + 13
    omega
  | .bin o a b, h => by
    have i := Tm.ni hR h.1
    have j := Tm.ni hR h.2
    have i2 := i.up (tln_mono (Nat.le_max_left a.deep b.deep)) (Nat.le_max_left a.deep b.deep)
    have j2 := j.up (tln_mono (Nat.le_max_right a.deep b.deep)) (Nat.le_max_right a.deep b.deep)
    refine ((Nis.cons ((ni_op o).up (Nat.le_refl _) (Nat.zero_le _)) (Nis.cons i2 (Nis.cons j2 (Nis.nil.up (Nat.le_refl _) (Nat.zero_le _))))).tup).up ?_ (Nat.le_refl _)
    show _ ≤ 2 * tln (max a.deep b.deep) + 13
    omega
theorem Tm.aim.fitR {W R : Int → Prop} (hW : ∀ k, W k → 0 ≤ k ∧ k < 65536) (hR : ∀ k, R k → 0 ≤ k ∧ k < 65536) {e : Tm} (h : e.aim W R) : e.fit fun k => 0 ≤ k ∧ k < 65536 := h.fit hW hR
/-- a term of a statement: 483 signs at most -/
theorem Tm.ni5 {R : Int → Prop} (hR : ∀ k, R k → 0 ≤ k ∧ k < 65536) {e : Tm} (h : e.fit R) (d : e.deep ≤ 5) : Ni e.dat 600 5 := (Tm.ni hR h).up (Nat.le_trans (tln_mono d) (by decide)) d
theorem Tm.ni5a {W R : Int → Prop} (hW : ∀ k, W k → 0 ≤ k ∧ k < 65536) (hR : ∀ k, R k → 0 ≤ k ∧ k < 65536) {e : Tm} (h : e.aim W R) (d : e.deep ≤ 5) : Ni e.dat 600 5 := Tm.ni5 (fun _ z => z) (h.fitR hW hR) d
/-! ### as fit, but what is stored may be one `+ cell` deeper (the statements that a law has mixed) -/
def Tm.d5 (e : Tm) : Prop := e.deep ≤ 5 ∨ ∃ a k, e = .bin .add a (.cell k) ∧ a.deep ≤ 5
theorem Tm.d5.le6 {e : Tm} (h : e.d5) : e.deep ≤ 6 := by
  rcases h with h | ⟨a, k, rfl, h⟩
  · omega
  · simp only [Tm.deep]
    omega
mutual
def Sx.fw (F : Fr) : Sx → Prop
  | .skip => True
  | .stop => True
  | .set t e => t.aim F.W F.R ∧ t.deep ≤ 5 ∧ e.fit F.R ∧ e.d5
  | .give c e => F.G c ∧ e.fit F.R ∧ e.deep ≤ 5
  | .take c t => F.T c ∧ t.aim F.W F.R ∧ t.deep ≤ 5
  | .ife e a b => e.fit F.R ∧ e.deep ≤ 5 ∧ a.fw F ∧ b.fw F
  | .rep e n a => e.fit F.R ∧ e.deep ≤ 5 ∧ 0 ≤ n ∧ n < 100 ∧ a.fw F
  | .seq ss => ss.fw F
  | .par ps => ps.fw F
  | .alt rs => rs.fw F
def Ss.fw (F : Fr) : Ss → Prop
  | .nil => True
  | .cons s r => s.fw F ∧ r.fw F
def Ps.fw (F : Fr) : Ps → Prop
  | .nil => True
  | .cons _ s r => s.fw F ∧ r.fw F
def As.fw (F : Fr) : As → Prop
  | .nil => True
  | .cons g c t s r => gFit F.R g ∧ F.T c ∧ t.aim F.W F.R ∧ t.deep ≤ 5 ∧ s.fw F ∧ r.fw F
end
mutual
theorem Sx.fit.fw {F : Fr} : ∀ {s : Sx}, s.fit F → s.fw F
  | .skip, h => h
  | .stop, h => h
  | .set _ _, h => ⟨h.1, h.2.1, h.2.2.1, .inl h.2.2.2⟩
  | .give _ _, h => h
  | .take _ _, h => h
  | .ife _ _ _, h => ⟨h.1, h.2.1, Sx.fit.fw h.2.2.1, Sx.fit.fw h.2.2.2⟩
  | .rep _ _ _, h => ⟨h.1, h.2.1, h.2.2.1, h.2.2.2.1, Sx.fit.fw h.2.2.2.2⟩
  | .seq _, h => Ss.fit.fw h
  | .par _, h => Ps.fit.fw h
  | .alt _, h => As.fit.fw h
theorem Ss.fit.fw {F : Fr} : ∀ {s : Ss}, s.fit F → s.fw F
  | .nil, h => h
  | .cons _ _, h => ⟨Sx.fit.fw h.1, Ss.fit.fw h.2⟩
theorem Ps.fit.fw {F : Fr} : ∀ {s : Ps}, s.fit F → s.fw F
  | .nil, h => h
  | .cons _ _ _, h => ⟨Sx.fit.fw h.1, Ps.fit.fw h.2⟩
theorem As.fit.fw {F : Fr} : ∀ {s : As}, s.fit F → s.fw F
  | .nil, h => h
  | .cons _ _ _ _ _, h => ⟨h.1, h.2.1, h.2.2.1, h.2.2.2.1, Sx.fit.fw h.2.2.2.2.1, As.fit.fw h.2.2.2.2.2⟩
end
/-! ### statements and cores as data -/
def gDat : Option Tm → PyData
  | none => .none
  | some e => e.dat
mutual
def Sx.dat : Sx → PyData
  | .skip => .tuple [.str "skip"]
  | .stop => .tuple [.str "stop"]
  | .set t e => .tuple [.str "set", t.dat, e.dat]
  | .give c e => .tuple [.str "give", .int c, e.dat]
  | .take c t => .tuple [.str "take", .int c, t.dat]
  | .ife e a b => .tuple [.str "if", e.dat, a.dat, b.dat]
  | .rep e n a => .tuple [.str "repeat", e.dat, .int n, a.dat]
  | .seq ss => .tuple [.str "seq", .list ss.dats]
  | .par ps => .tuple [.str "par", .list ps.dats]
  | .alt rs => .tuple [.str "alt", .list rs.dats]
def Ss.dats : Ss → List PyData
  | .nil => []
  | .cons s r => s.dat :: r.dats
def Ps.dats : Ps → List PyData
  | .nil => []
  | .cons t s r => .tuple [.int t, s.dat] :: r.dats
def As.dats : As → List PyData
  | .nil => []
  | .cons g c t s r => .tuple [gDat g, .int c, t.dat, s.dat] :: r.dats
end
theorem gIn.dp {K : PySem.W.Frag} {H : Hp} : ∀ {g : Option Tm} {v : V}, gIn H g v → Dp K H v (gDat g)
  | none, _, h => by cases h; exact .non
  | some _, _, h => Tm.In.dp h
mutual
theorem Sx.In.dp {M : List Addr} {K : PySem.W.Frag} {H : Hp} : ∀ {s : Sx} {v : V}, s.In M H v → Dp K H v s.dat
  | .skip, _, ⟨_, e, h⟩ => by subst e; exact .tup (sqt h) (.cons (.str _) .nil)
  | .stop, _, ⟨_, e, h⟩ => by subst e; exact .tup (sqt h) (.cons (.str _) .nil)
  | .set _ _, _, ⟨_, _, _, e, h, a, b⟩ => by subst e; exact .tup (sqt h) (.cons (.str _) (.cons a.dp (.cons b.dp .nil)))
  | .give _ _, _, ⟨_, _, e, h, a⟩ => by subst e; exact .tup (sqt h) (.cons (.str _) (.cons (.int _) (.cons a.dp .nil)))
  | .take _ _, _, ⟨_, _, e, h, a⟩ => by subst e; exact .tup (sqt h) (.cons (.str _) (.cons (.int _) (.cons a.dp .nil)))
  | .ife _ _ _, _, ⟨_, _, _, _, e, h, a, b, c⟩ => by subst e; exact .tup (sqt h) (.cons (.str _) (.cons a.dp (.cons (Sx.In.dp b) (.cons (Sx.In.dp c) .nil))))
  | .rep _ _ _, _, ⟨_, _, _, e, h, a, b⟩ => by subst e; exact .tup (sqt h) (.cons (.str _) (.cons a.dp (.cons (.int _) (.cons (Sx.In.dp b) .nil))))
  | .seq _, _, ⟨_, _, _, e, h, hl, m, a⟩ => by subst e; exact .tup (sqt h) (.cons (.str _) (.cons (.lst (sql hl) (Ss.In.dp a)) .nil))
  | .par _, _, ⟨_, _, _, e, h, hl, m, a⟩ => by subst e; exact .tup (sqt h) (.cons (.str _) (.cons (.lst (sql hl) (Ps.In.dp a)) .nil))
  | .alt _, _, ⟨_, _, _, e, h, hl, m, a⟩ => by subst e; exact .tup (sqt h) (.cons (.str _) (.cons (.lst (sql hl) (As.In.dp a)) .nil))
theorem Ss.In.dp {M : List Addr} {K : PySem.W.Frag} {H : Hp} : ∀ {s : Ss} {v : List V}, s.In M H v → DpAll K H v s.dats
  | .nil, _, h => by cases h; exact .nil
  | .cons _ _, _, ⟨_, _, e, a, b⟩ => by subst e; exact .cons (Sx.In.dp a) (Ss.In.dp b)
theorem Ps.In.dp {M : List Addr} {K : PySem.W.Frag} {H : Hp} : ∀ {s : Ps} {v : List V}, s.In M H v → DpAll K H v s.dats
  | .nil, _, h => by cases h; exact .nil
  | .cons _ _ _, _, ⟨_, _, _, e, h, a, b⟩ => by subst e; exact .cons (.tup (sqt h) (.cons (.int _) (.cons (Sx.In.dp a) .nil))) (Ps.In.dp b)
theorem As.In.dp {M : List Addr} {K : PySem.W.Frag} {H : Hp} : ∀ {s : As} {v : List V}, s.In M H v → DpAll K H v s.dats
  | .nil, _, h => by cases h; exact .nil
  | .cons _ _ _ _ _, _, ⟨_, _, _, _, _, e, h, g, a, b, c⟩ => by subst e; exact .cons (.tup (sqt h) (.cons (gIn.dp g) (.cons (.int _) (.cons a.dp (.cons (Sx.In.dp b) .nil))))) (As.In.dp c)
end
/-- small numbers all over -/
structure Fr.sm (F : Fr) : Prop where
  w : ∀ k, F.W k → 0 ≤ k ∧ k < 65536
  r : ∀ k, F.R k → 0 ≤ k ∧ k < 65536
  g : ∀ k, F.G k → 0 ≤ k ∧ k < 65536
  t : ∀ k, F.T k → 0 ≤ k ∧ k < 65536
theorem ni_s {x : Str} {k : Nat} (o : PyData.canLay0 (.str x) = true) (h : (reprText x).length ≤ 8) : Ni (.str x) 8 k := (Ni.str o h).up (Nat.le_refl _) (Nat.zero_le _)
theorem ni_i {i : Int} {k : Nat} (h : 0 ≤ i ∧ i < 65536) : Ni (.int i) 6 k := (Ni.int (nabs h)).up (Nat.le_refl _) (Nat.zero_le _)
theorem nis0 {k : Nat} : Nis [] 0 k := Nis.nil.up (Nat.le_refl _) (Nat.zero_le _)
theorem ni_g {R : Int → Prop} (hR : ∀ k, R k → 0 ≤ k ∧ k < 65536) {k : Nat} (hk : 5 ≤ k) : ∀ {g : Option Tm}, gFit R g → Ni (gDat g) 600 k
  | none, _ => Ni.non.up (by decide) (Nat.zero_le _)
  | some _, h => (Tm.ni5 hR h.1 h.2).up (Nat.le_refl _) hk
theorem Tm.ni6 {R : Int → Prop} (hR : ∀ k, R k → 0 ≤ k ∧ k < 65536) {e : Tm} (h : e.fit R) (d : e.d5) : Ni e.dat 600 6 := by
  rcases d with d | ⟨a, k, rfl, d⟩
  · exact (Tm.ni5 hR h d).up (Nat.le_refl _) (by omega)
  · have ha : Ni a.dat 500 5 := (Tm.ni (fun k z => hR k z) h.1).up (Nat.le_trans (tln_mono d) (by decide)) d
    have hk : Ni (Tm.cell k).dat 20 5 := (Tm.ni (fun k z => hR k z) h.2).up (Nat.le_trans (tln_mono (m := 1) (Nat.le_refl _)) (by decide)) (show 1 ≤ 5 by decide)
    exact ((Nis.cons (ni_s (x := "+") (by decide +kernel) (by decide +kernel)) (Nis.cons ha (Nis.cons hk nis0))).tup).up (by omega) (by omega)
mutual
theorem Sx.ni {F : Fr} (hF : F.sm) : ∀ {s : Sx} {t : Int}, s.fw F → s.num t → 0 ≤ t → t + s.cnt < 65536 → Ni s.dat (2600 * s.sz - 1300) (3 * s.dep + 5)
  | .skip, _, _, _, _, _ => ((Nis.cons (ni_s (x := "skip") (by decide +kernel) (by decide +kernel)) nis0).tup).up (by simp only [Sx.sz]; omega) (by simp only [Sx.dep]; omega : 0 + 1 ≤ _)
  | .stop, _, _, _, _, _ => ((Nis.cons (ni_s (x := "stop") (by decide +kernel) (by decide +kernel)) nis0).tup).up (by simp only [Sx.sz]; omega) (by simp only [Sx.dep]; omega : 0 + 1 ≤ _)
  | .set _ _, _, h, _, _, _ => ((Nis.cons (ni_s (x := "set") (by decide +kernel) (by decide +kernel)) (Nis.cons ((Tm.ni5a hF.w hF.r h.1 h.2.1).up (Nat.le_refl _) (by omega : 5 ≤ 6)) (Nis.cons (Tm.ni6 hF.r h.2.2.1 h.2.2.2) nis0))).tup).up (by simp only [Sx.sz]; omega) (by simp only [Sx.dep]; omega)
  | .give _ _, _, h, _, _, _ => ((Nis.cons (ni_s (x := "give") (by decide +kernel) (by decide +kernel)) (Nis.cons (ni_i (hF.g _ h.1)) (Nis.cons (Tm.ni5 hF.r h.2.1 h.2.2) nis0))).tup).up (by simp only [Sx.sz]; omega) (by simp only [Sx.dep]; omega)
  | .take _ _, _, h, _, _, _ => ((Nis.cons (ni_s (x := "take") (by decide +kernel) (by decide +kernel)) (Nis.cons (ni_i (hF.t _ h.1)) (Nis.cons (Tm.ni5a hF.w hF.r h.2.1 h.2.2) nis0))).tup).up (by simp only [Sx.sz]; omega) (by simp only [Sx.dep]; omega)
  | .ife e a b, t, h, hn, h0, h1 => by
    simp only [Sx.cnt] at h1
    have ia := Sx.ni hF h.2.2.1 hn.1 h0 (by omega)
    have ib := Sx.ni hF h.2.2.2 hn.2 (by omega) (by omega)
    refine ((Nis.cons (ni_s (x := "if") (k := 3 * max a.dep b.dep + 5) (by decide +kernel) (by decide +kernel)) (Nis.cons ((Tm.ni5 hF.r h.1 h.2.1).up (Nat.le_refl _) (by omega)) (Nis.cons (ia.up (Nat.le_refl _) (by omega)) (Nis.cons (ib.up (Nat.le_refl _) (by omega)) nis0)))).tup).up ?_ (by simp only [Sx.dep]; omega)
    simp only [Sx.sz]
    omega
  | .rep e n a, t, h, hn, h0, h1 => by
    simp only [Sx.cnt] at h1
    have ia := Sx.ni (s := a) hF h.2.2.2.2 hn h0 (by omega)
    refine ((Nis.cons (ni_s (x := "repeat") (k := 3 * a.dep + 5) (by decide +kernel) (by decide +kernel)) (Nis.cons ((Tm.ni5 hF.r h.1 h.2.1).up (Nat.le_refl _) (by omega)) (Nis.cons (ni_i ⟨h.2.2.1, by have := h.2.2.2.1; omega⟩) (Nis.cons ia nis0)))).tup).up ?_ (by simp only [Sx.dep]; omega)
    simp only [Sx.sz]
    omega
  | .seq ss, t, h, hn, h0, h1 => by
    have ia := Ss.ni (s := ss) hF h hn h0 h1
    refine ((Nis.cons (ni_s (x := "seq") (by decide +kernel) (by decide +kernel)) (Nis.cons ia.lst nis0)).tup).up ?_ (by simp only [Sx.dep]; omega)
    simp only [Sx.sz]
    omega
  | .par ss, t, h, hn, h0, h1 => by
    have ia := Ps.ni (s := ss) hF h hn h0 h1
    refine ((Nis.cons (ni_s (x := "par") (by decide +kernel) (by decide +kernel)) (Nis.cons ia.lst nis0)).tup).up ?_ (by simp only [Sx.dep]; omega)
    simp only [Sx.sz]
    omega
  | .alt ss, t, h, hn, h0, h1 => by
    have ia := As.ni (s := ss) hF h hn h0 h1
    refine ((Nis.cons (ni_s (x := "alt") (by decide +kernel) (by decide +kernel)) (Nis.cons ia.lst nis0)).tup).up ?_ (by simp only [Sx.dep]; omega)
    simp only [Sx.sz]
    omega
theorem Ss.ni {F : Fr} (hF : F.sm) : ∀ {s : Ss} {t : Int}, s.fw F → s.num t → 0 ≤ t → t + s.cnt < 65536 → Nis s.dats (2600 * s.sz) (3 * s.dep + 5)
  | .nil, _, _, _, _, _ => nis0.up (Nat.zero_le _) (Nat.le_refl _)
  | .cons s r, t, h, hn, h0, h1 => by
    simp only [Ss.cnt] at h1
    have ia := Sx.ni hF h.1 hn.1 h0 (by omega)
    have ib := Ss.ni hF h.2 hn.2 (by omega) (by omega)
    have hz : 0 < s.sz := by cases s <;> simp only [Sx.sz] <;> omega
    refine (Nis.cons (ia.up (Nat.le_refl _) (k' := 3 * max s.dep r.dep + 5) (by omega)) (ib.up (Nat.le_refl _) (by omega))).up ?_ (by simp only [Ss.dep]; omega)
    simp only [Ss.sz]
    omega
theorem Ps.ni {F : Fr} (hF : F.sm) : ∀ {s : Ps} {t : Int}, s.fw F → s.num t → 0 ≤ t → t + s.cnt < 65536 → Nis s.dats (2600 * s.sz) (3 * s.dep + 6)
  | .nil, _, _, _, _, _ => nis0.up (Nat.zero_le _) (Nat.le_refl _)
  | .cons k s r, t, h, hn, h0, h1 => by
    simp only [Ps.cnt] at h1
    have ia := Sx.ni hF h.1 hn.2.1 (by omega) (by omega)
    have ib := Ps.ni hF h.2 hn.2.2 (by omega) (by omega)
    have hz : 0 < s.sz := by cases s <;> simp only [Sx.sz] <;> omega
    have hk : 0 ≤ k ∧ k < 65536 := by
      have := hn.1
      omega
    have ir := ((Nis.cons (ni_i hk) (Nis.cons ia nis0)).tup)
    refine (Nis.cons (ir.up (Nat.le_refl _) (k' := 3 * max s.dep r.dep + 6) (by omega)) (ib.up (Nat.le_refl _) (by omega))).up ?_ (by simp only [Ps.dep]; omega)
    simp only [Ps.sz]
    omega
theorem As.ni {F : Fr} (hF : F.sm) : ∀ {s : As} {t : Int}, s.fw F → s.num t → 0 ≤ t → t + s.cnt < 65536 → Nis s.dats (2600 * s.sz) (3 * s.dep + 6)
  | .nil, _, _, _, _, _ => nis0.up (Nat.zero_le _) (Nat.le_refl _)
  | .cons g c u s r, t, h, hn, h0, h1 => by
    simp only [As.cnt] at h1
    have ia := Sx.ni hF h.2.2.2.2.1 hn.1 h0 (by omega)
    have ib := As.ni hF h.2.2.2.2.2 hn.2 (by omega) (by omega)
    have hz : 0 < s.sz := by cases s <;> simp only [Sx.sz] <;> omega
    have ir := ((Nis.cons (ni_g hF.r (k := 3 * s.dep + 5) (by omega) h.1) (Nis.cons (ni_i (hF.t _ h.2.1)) (Nis.cons ((Tm.ni5a hF.w hF.r h.2.2.1 h.2.2.2.1).up (Nat.le_refl _) (by omega)) (Nis.cons ia nis0)))).tup)
    refine (Nis.cons (ir.up (Nat.le_refl _) (k' := 3 * max s.dep r.dep + 6) (by omega)) (ib.up (Nat.le_refl _) (by omega))).up ?_ (by simp only [As.dep]; omega)
    simp only [As.sz]
    omega
end
def strDs (l : List Str) : List PyData := l.map PyData.str
theorem strs_dp {K : PySem.W.Frag} {H : Hp} : ∀ l : List Str, DpAll K H (l.map V.str) (strDs l)
  | [] => .nil
  | x :: l => .cons (.str x) (strs_dp l)
theorem strs_ni {k : Nat} : ∀ {l : List Str}, (∀ x ∈ l, x = ("in" : Str) ∨ x = ("out" : Str) ∨ x = ("inner" : Str)) → Nis (strDs l) (10 * l.length) k
  | [], _ => nis0.up (Nat.zero_le _) (Nat.le_refl _)
  | x :: l, h => by
    have i := strs_ni (k := k) fun y hy => h y (List.mem_cons_of_mem _ hy)
    have hx : Ni (.str x) 8 k := by
      rcases h x (List.mem_cons_self ..) with rfl | rfl | rfl <;> exact ni_s (by decide +kernel) (by decide +kernel)
    refine (Nis.cons hx i).up ?_ (Nat.le_refl _)
    simp only [List.length_cons]
    omega
def CoreD.dat (cd : CoreD) : PyData := .tuple [.str "core", .int cd.cells, .list (strDs cd.chs), (Sx.seq cd.ss).dat]
theorem CoreD.In.dp {M : List Addr} {K : PySem.W.Frag} {H : Hp} {cd : CoreD} {v : V} (h : cd.In M H v) : Dp K H v cd.dat := by
  obtain ⟨p, ch, s, rfl, hp, hc, _, hs⟩ := h
  exact .tup (sqt hp) (.cons (.str _) (.cons (.int _) (.cons (.lst (sql hc) (strs_dp _)) (.cons hs.dp .nil))))
/-- a core whose statements may be mixed anew -/
structure CoreD.okw (cd : CoreD) : Prop where
  c0 : 0 ≤ cd.cells
  c1 : cd.cells ≤ 400
  chs : ∀ x ∈ cd.chs, x = ("in" : Str) ∨ x = ("out" : Str) ∨ x = ("inner" : Str)
  c24 : cd.chs.length ≤ 24
  fw : cd.ss.fw ⟨fun x => 0 ≤ x ∧ x < cd.cells, fun x => 0 ≤ x ∧ x < cd.cells, fun x => 0 ≤ x ∧ x < cd.chs.length, fun x => 0 ≤ x ∧ x < cd.chs.length⟩
  num : cd.ss.num 1
  cnt : cd.ss.cnt ≤ 11
  dep : cd.ss.dep ≤ 70
  sz : cd.ss.sz ≤ 6000
theorem CoreD.ok.okw {cd : CoreD} (h : cd.ok) : cd.okw := by
  obtain ⟨i, o, j, hi, ho, hc, hf⟩ := h.ch
  have hle : Fr.le ⟨fun x => 0 ≤ x ∧ x < cd.cells, fun x => 0 ≤ x ∧ x < cd.cells, fun x => (i : Int) ≤ x ∧ x < cd.chs.length, fun x => 0 ≤ x ∧ x < cd.chs.length ∧ (x < i ∨ (i + o : Int) ≤ x)⟩ ⟨fun x => 0 ≤ x ∧ x < cd.cells, fun x => 0 ≤ x ∧ x < cd.cells, fun x => 0 ≤ x ∧ x < cd.chs.length, fun x => 0 ≤ x ∧ x < cd.chs.length⟩ := ⟨fun k z => z, fun k z => z, fun k z => ⟨by have := z.1; omega, z.2⟩, fun k z => ⟨z.1, z.2.1⟩⟩
  have hg : cd.ss.fit ⟨fun x => 0 ≤ x ∧ x < cd.cells, fun x => 0 ≤ x ∧ x < cd.cells, fun x => 0 ≤ x ∧ x < cd.chs.length, fun x => 0 ≤ x ∧ x < cd.chs.length⟩ := Ss.fit.mono hle hf
  refine ⟨h.c0, h.c1, fun x hx => ?_, h.c24, hg.fw, h.num, h.cnt, h.dep, h.sz⟩
  rw [hc] at hx
  simp only [List.mem_append, List.mem_replicate] at hx
  rcases hx with (⟨_, hx⟩ | ⟨_, hx⟩) | ⟨_, hx⟩
  · exact .inl hx
  · exact .inr (.inl hx)
  · exact .inr (.inr hx)
theorem CoreD.okw.ni {cd : CoreD} (h : cd.okw) : Ni cd.dat 15700000 300 := by
  have h24 := h.c24
  have hcn := h.cnt
  have hsz := h.sz
  have hdp := h.dep
  have hc0 := h.c0
  have hc1 := h.c1
  have hs := Sx.ni (s := .seq cd.ss) (t := 1) (F := ⟨fun x => 0 ≤ x ∧ x < cd.cells, fun x => 0 ≤ x ∧ x < cd.cells, fun x => 0 ≤ x ∧ x < cd.chs.length, fun x => 0 ≤ x ∧ x < cd.chs.length⟩)
    ⟨fun k z => ⟨z.1, by have := z.2; omega⟩, fun k z => ⟨z.1, by have := z.2; omega⟩, fun k z => ⟨z.1, by have := z.2; omega⟩, fun k z => ⟨z.1, by have := z.2; omega⟩⟩ h.fw h.num (by decide) (by simp only [Sx.cnt]; omega)
  simp only [Sx.sz, Sx.dep] at hs
  exact ((Nis.cons (ni_s (x := "core") (k := 299) (by decide +kernel) (by decide +kernel)) (Nis.cons (ni_i ⟨hc0, by omega⟩) (Nis.cons (((strs_ni (k := 298) h.chs : Nis (strDs cd.chs) _ 298)).lst) (Nis.cons (hs.up (Nat.le_refl _) (by omega)) nis0)))).tup).up (by omega) (Nat.le_refl _)
theorem CoreD.ok.ni {cd : CoreD} (h : cd.ok) : Ni cd.dat 15700000 300 := h.okw.ni
theorem sizeLine_big {n : Nat} (h : n ≤ 16000000) : n ≤ sizeLine := Nat.le_trans h (by decide)
/-- repr of data -/
theorem q_repr {K : PySem.W.Frag} {H : Hp} {Q : VK} {a : Addr} {d : PyData} {n k : Nat} (h : Dp K H (.ref a) d) (i : Ni d n k) (hn : n ≤ 16000000) (hk : k ≤ 1000) (q : Q (.str d.shown) H) : rRepr K [.ref a] H Q :=
  ⟨a, d, rfl, h, i.shw, PyData.hasDict_of_canLay _ i.lay, Nat.le_trans i.dep hk, Nat.le_trans i.len (sizeLine_big hn), q⟩
/-! ### the parts of a statement, as the objects that they are -/
mutual
theorem Sx.In.to {M N : List Addr} {H : Hp} (n : ∀ l xs, H l = some (.lst xs) → l ∉ M → l ∉ N) : ∀ {s : Sx} {v : V}, s.In M H v → s.In N H v
  | .skip, _, h => h
  | .stop, _, h => h
  | .set _ _, _, h => h
  | .give _ _, _, h => h
  | .take _ _, _, h => h
  | .ife _ _ _, _, ⟨q, x, y, z, e, h, a, b, c⟩ => ⟨q, x, y, z, e, h, a, Sx.In.to n b, Sx.In.to n c⟩
  | .rep _ _ _, _, ⟨q, x, y, e, h, a, b⟩ => ⟨q, x, y, e, h, a, Sx.In.to n b⟩
  | .seq _, _, ⟨q, l, xs, e, h, hl, m, a⟩ => ⟨q, l, xs, e, h, hl, n _ _ hl m, Ss.In.to n a⟩
  | .par _, _, ⟨q, l, xs, e, h, hl, m, a⟩ => ⟨q, l, xs, e, h, hl, n _ _ hl m, Ps.In.to n a⟩
  | .alt _, _, ⟨q, l, xs, e, h, hl, m, a⟩ => ⟨q, l, xs, e, h, hl, n _ _ hl m, As.In.to n a⟩
theorem Ss.In.to {M N : List Addr} {H : Hp} (n : ∀ l xs, H l = some (.lst xs) → l ∉ M → l ∉ N) : ∀ {s : Ss} {v : List V}, s.In M H v → s.In N H v
  | .nil, _, h => h
  | .cons _ _, _, ⟨x, ys, e, a, b⟩ => ⟨x, ys, e, Sx.In.to n a, Ss.In.to n b⟩
theorem Ps.In.to {M N : List Addr} {H : Hp} (n : ∀ l xs, H l = some (.lst xs) → l ∉ M → l ∉ N) : ∀ {s : Ps} {v : List V}, s.In M H v → s.In N H v
  | .nil, _, h => h
  | .cons _ _ _, _, ⟨q, x, ys, e, h, a, b⟩ => ⟨q, x, ys, e, h, Sx.In.to n a, Ps.In.to n b⟩
theorem As.In.to {M N : List Addr} {H : Hp} (n : ∀ l xs, H l = some (.lst xs) → l ∉ M → l ∉ N) : ∀ {s : As} {v : List V}, s.In M H v → s.In N H v
  | .nil, _, h => h
  | .cons _ _ _ _ _, _, ⟨q, u, x, y, ys, e, h, g, a, b, c⟩ => ⟨q, u, x, y, ys, e, h, g, a, Sx.In.to n b, As.In.to n c⟩
end
theorem to_add {M : List Addr} {H : Hp} {p : Addr} (n : H p = none) : ∀ l xs, H l = some (.lst xs) → l ∉ M → l ∉ p :: M := fun _ _ h m => nin_c (ne_of_none h n) m
theorem Sx.In.add {M : List Addr} {H : Hp} {p : Addr} (n : H p = none) {s : Sx} {v : V} (h : s.In M H v) : s.In (p :: M) H v := h.to (to_add n)
abbrev RowP (H : Hp) (x y : V) : Prop := ∃ q t, x = .ref q ∧ H q = some (.tup [.int t, y])
abbrev RowA (H : Hp) (x y : V) : Prop := ∃ q u c t, x = .ref q ∧ H q = some (.tup [u, .int c, t, y])
def Sx.Pv (M : List Addr) (H : Hp) (v : V) : Sx → List V → Prop
  | .seq _, pl => ∃ p l, v = .ref p ∧ H p = some (.tup [.str "seq", .ref l]) ∧ H l = some (.lst pl) ∧ l ∉ M
  | .par _, pl => ∃ p l xs, v = .ref p ∧ H p = some (.tup [.str "par", .ref l]) ∧ H l = some (.lst xs) ∧ l ∉ M ∧ Paired (RowP H) xs pl
  | .alt _, pl => ∃ p l xs, v = .ref p ∧ H p = some (.tup [.str "alt", .ref l]) ∧ H l = some (.lst xs) ∧ l ∉ M ∧ Paired (RowA H) xs pl
  | .ife _ _ _, pl => ∃ p x y z, v = .ref p ∧ H p = some (.tup [.str "if", x, y, z]) ∧ pl = [y, z]
  | .rep _ n _, pl => ∃ p x y, v = .ref p ∧ H p = some (.tup [.str "repeat", x, .int n, y]) ∧ pl = [y]
  | _, pl => pl = []
theorem Sx.Pv.kp {M : List Addr} {H H' : Hp} {v : V} (k : Kp M H H') : ∀ {s : Sx} {pl : List V}, s.Pv M H v pl → s.Pv M H' v pl
  | .skip, _, h => h
  | .stop, _, h => h
  | .set _ _, _, h => h
  | .give _ _, _, h => h
  | .take _ _, _, h => h
  | .ife _ _ _, _, ⟨p, x, y, z, e, h, a⟩ => ⟨p, x, y, z, e, k.tup _ _ h, a⟩
  | .rep _ _ _, _, ⟨p, x, y, e, h, a⟩ => ⟨p, x, y, e, k.tup _ _ h, a⟩
  | .seq _, _, ⟨p, l, e, h, hl, m⟩ => ⟨p, l, e, k.tup _ _ h, k.out _ _ m hl, m⟩
  | .par _, _, ⟨p, l, xs, e, h, hl, m, a⟩ => ⟨p, l, xs, e, k.tup _ _ h, k.out _ _ m hl, m, Paired.mapP a fun _ _ ⟨q, t, z, y⟩ => ⟨q, t, z, k.tup _ _ y⟩⟩
  | .alt _, _, ⟨p, l, xs, e, h, hl, m, a⟩ => ⟨p, l, xs, e, k.tup _ _ h, k.out _ _ m hl, m, Paired.mapP a fun _ _ ⟨q, u, c, t, z, y⟩ => ⟨q, u, c, t, z, k.tup _ _ y⟩⟩
theorem Sx.Pv.to {M N : List Addr} {H : Hp} {v : V} (n : ∀ l xs, H l = some (.lst xs) → l ∉ M → l ∉ N) : ∀ {s : Sx} {pl : List V}, s.Pv M H v pl → s.Pv N H v pl
  | .skip, _, h => h
  | .stop, _, h => h
  | .set _ _, _, h => h
  | .give _ _, _, h => h
  | .take _ _, _, h => h
  | .ife _ _ _, _, h => h
  | .rep _ _ _, _, h => h
  | .seq _, _, ⟨p, l, e, h, hl, m⟩ => ⟨p, l, e, h, hl, n _ _ hl m⟩
  | .par _, _, ⟨p, l, xs, e, h, hl, m, a⟩ => ⟨p, l, xs, e, h, hl, n _ _ hl m, a⟩
  | .alt _, _, ⟨p, l, xs, e, h, hl, m, a⟩ => ⟨p, l, xs, e, h, hl, n _ _ hl m, a⟩
theorem Ps.pv {M : List Addr} {H : Hp} : ∀ {ps : Ps} {xs : List V}, ps.In M H xs → ∃ pl, Paired (RowP H) xs pl ∧ SxL M H pl ps.list
  | .nil, _, h => by cases h; exact ⟨[], .nil, .nil⟩
  | .cons t s r, _, ⟨q, x, ys, e, h, a, b⟩ => by
    obtain ⟨pl, g1, g2⟩ := Ps.pv b
    subst e
    exact ⟨x :: pl, .cons ⟨q, t, rfl, h⟩ g1, .cons a g2⟩
theorem As.pv {M : List Addr} {H : Hp} : ∀ {ps : As} {xs : List V}, ps.In M H xs → ∃ pl, Paired (RowA H) xs pl ∧ SxL M H pl ps.list
  | .nil, _, h => by cases h; exact ⟨[], .nil, .nil⟩
  | .cons _ c _ s r, _, ⟨q, u, x, y, ys, e, h, g, t, a, b⟩ => by
    obtain ⟨pl, g1, g2⟩ := As.pv b
    subst e
    exact ⟨y :: pl, .cons ⟨q, u, c, x, rfl, h⟩ g1, .cons a g2⟩
theorem Sx.In.pv {M : List Addr} {H : Hp} : ∀ {s : Sx} {v : V}, s.In M H v → ∃ pl, s.Pv M H v pl ∧ SxL M H pl s.parts
  | .skip, _, _ => ⟨[], rfl, .nil⟩
  | .stop, _, _ => ⟨[], rfl, .nil⟩
  | .set _ _, _, _ => ⟨[], rfl, .nil⟩
  | .give _ _, _, _ => ⟨[], rfl, .nil⟩
  | .take _ _, _, _ => ⟨[], rfl, .nil⟩
  | .ife _ _ _, _, ⟨p, x, y, z, e, h, _, a, b⟩ => ⟨[y, z], ⟨p, x, y, z, e, h, rfl⟩, .cons a (.cons b .nil)⟩
  | .rep _ _ _, _, ⟨p, x, y, e, h, _, a⟩ => ⟨[y], ⟨p, x, y, e, h, rfl⟩, .cons a .nil⟩
  | .seq _, _, ⟨p, l, xs, e, h, hl, m, a⟩ => ⟨xs, ⟨p, l, e, h, hl, m⟩, Ss.in_list a⟩
  | .par _, _, ⟨p, l, xs, e, h, hl, m, a⟩ => by
    obtain ⟨pl, g1, g2⟩ := Ps.pv a
    exact ⟨pl, ⟨p, l, xs, e, h, hl, m, g1⟩, g2⟩
  | .alt _, _, ⟨p, l, xs, e, h, hl, m, a⟩ => by
    obtain ⟨pl, g1, g2⟩ := As.pv a
    exact ⟨pl, ⟨p, l, xs, e, h, hl, m, g1⟩, g2⟩
theorem paired_at {α β : Type} {F : α → β → Prop} : ∀ {xs : List α} {ys : List β} {i : Nat} {x : α}, Paired F xs ys → xs[i]? = some x → ∃ y, ys[i]? = some y ∧ F x y
  | _, _, _, _, .nil, h => by simp at h
  | _, _, 0, _, .cons a t, h => by
    simp at h
    subst h
    exact ⟨_, rfl, a⟩
  | _, _, i + 1, _, .cons a t, h => by
    obtain ⟨y, h1, h2⟩ := paired_at (i := i) t (by simpa using h)
    exact ⟨y, by simpa using h1, h2⟩
/-- the list of the parts, the objects themselves -/
def sp_partsV : Sp := fun vs H Q _ => ∃ (M : List Addr) (s : Sx) (v : V) (pl : List V), vs = [v] ∧ s.In M H v ∧ s.Pv M H v pl ∧ pl.length ≤ 50000 ∧ ∀ (l : Addr) (H' : Hp), H' l = some (.lst pl) → Ex H H' → (H l = none ∨ l ∉ M) → Q (.ref l) H'
theorem ok_parts_ofV (T : Glo K w mg) (D : Dn K mg "parts_of" s_parts_of p_parts_of) : Cal P w K mg base "parts_of" 1 p_parts_of sp_partsV := by
  refine D.ok sc_parts_of (fun vs H Q E h => ?_) (fun f cdv A outer s H vs Q E hr h => ?_)
  · obtain ⟨_, _, _, _, rfl, _⟩ := h
    rfl
  obtain ⟨M, s0, v, pl, rfl, hs, hv, hz, q⟩ := h
  refine ⟨_, (pss_cons (ps_set (i := 1) sc_parts_of.nd rfl (by first | exact Or.inl rfl | exact Or.inr rfl) (pe_ix ix_seq (pv 0) pe_int (fun _ _ => rfl))) (pss_cons (ps_if (pt_cmpR (op_eqA (hu64 hr)) (pv 1) pe_str (nomark _)) (pss_one (ps_ret (pe_callTy call_listA rfl T.n_list (by decide +kernel) (pa_cons (pe_ix ix_seq (pv 0) pe_int (fun _ _ => rfl)) pa_nil)))) pss_nil) (pss_cons (ps_if (pt_cmpR (op_eqA (hu64 hr)) (pv 1) pe_str (nomark _)) (pss_one (ps_ret (pe_lc (own := [("row", 2)]) (tt := tYes) rfl sc_parts_of.nd (pi_list (pe_ix ix_seq (pv 0) pe_int (fun _ _ => rfl))) (blkOk_by (N := ["s", "kind", "row"]) (sc := defScope s_parts_of) (by decide +kernel)) (fun _ _ _ _ _ => (pg_name (i := 2) sc_parts_of.nd rfl (by first | exact Or.inl rfl | exact Or.inr rfl))) (fun _ _ _ _ _ => pts_nil) (fun _ _ _ _ _ => (pe_ix (ix_seqK (K := K) rfl) (pv 2) pe_int (fun _ _ => rfl)))))) pss_nil) (pss_cons (ps_if (pt_cmpR (op_eqA (hu64 hr)) (pv 1) pe_str (nomark _)) (pss_one (ps_ret (pe_lc (own := [("row", 2)]) (tt := tYes) rfl sc_parts_of.nd (pi_list (pe_ix ix_seq (pv 0) pe_int (fun _ _ => rfl))) (blkOk_by (N := ["s", "kind", "row"]) (sc := defScope s_parts_of) (by decide +kernel)) (fun _ _ _ _ _ => (pg_name (i := 2) sc_parts_of.nd rfl (by first | exact Or.inl rfl | exact Or.inr rfl))) (fun _ _ _ _ _ => pts_nil) (fun _ _ _ _ _ => (pe_ix (ix_seqK (K := K) rfl) (pv 2) pe_int (fun _ _ => rfl)))))) pss_nil) (pss_cons (ps_if (pt_cmpR (op_eqA (hu64 hr)) (pv 1) pe_str (nomark _)) (pss_one (ps_ret (pe_lst (pa_cons (pe_ix ix_seq (pv 0) pe_int (fun _ _ => rfl)) (pa_cons (pe_ix ix_seq (pv 0) pe_int (fun _ _ => rfl)) pa_nil))))) pss_nil) (pss_cons (ps_if (pt_cmpR (op_eqA (hu64 hr)) (pv 1) pe_str (nomark _)) (pss_one (ps_ret (pe_lst (pa_cons (pe_ix ix_seq (pv 0) pe_int (fun _ _ => rfl)) pa_nil)))) pss_nil) (pss_one (ps_ret (pe_lst pa_nil))))))))), ?_⟩
  try dsimp only [cxOf, Cx.nox]
  cases s0 with
  | skip =>
    obtain ⟨p, rfl, hp⟩ := hs
    cases hv
    repeat' (first | specialize "st" | fail)
    exact q _ _ hn ke (.inl hp)
  | stop =>
    obtain ⟨p, rfl, hp⟩ := hs
    cases hv
    repeat' (first | specialize "st" | fail)
    exact q _ _ hn ke (.inl hp)
  | set t e =>
    obtain ⟨p, x, y, rfl, hp, _⟩ := hs
    cases hv
    repeat' (first | specialize "st" | fail)
    exact q _ _ hn ke (.inl hp)
  | give k e =>
    obtain ⟨p, x, rfl, hp, _⟩ := hs
    cases hv
    repeat' (first | specialize "st" | fail)
    exact q _ _ hn ke (.inl hp)
  | take k t =>
    obtain ⟨p, x, rfl, hp, _⟩ := hs
    cases hv
    repeat' (first | specialize "st" | fail)
    exact q _ _ hn ke (.inl hp)
  | ife e a b =>
    obtain ⟨p, x, y, z, rfl, hp, rfl⟩ := hv
    repeat' (first | specialize "st" | fail)
    exact q _ _ hn ke (.inl hp)
  | rep e k a =>
    obtain ⟨p, x, y, rfl, hp, rfl⟩ := hv
    repeat' (first | specialize "st" | fail)
    exact q _ _ hn ke (.inl hp)
  | seq ss =>
    obtain ⟨p, l, rfl, hp, hl, nl⟩ := hv
    repeat' (first | specialize "st" | fail)
    exact q _ _ hn ke (.inl hp)
  | par ps =>
    obtain ⟨p, l, xs, rfl, hp, hl, nl, hpr⟩ := hv
    have hxl := Paired.length hpr
    repeat' (first | specialize "st" | fail)
    intro D hD
    refine lc_list (xs := xs) (fun i H' => Ex H H' ∧ H' D = some (.lst (pl.take i))) ?_ ?_ ?_ ?_
    · exact ⟨Ex.mk hD rfl, upd_same⟩
    · rintro i H' _ ⟨e, _⟩
      exact sql (e _ _ hl)
    · rintro i x H' hx ⟨e, h1⟩
      obtain ⟨y0, e3, ⟨q0, t, rfl, hq⟩⟩ := paired_at hpr hx
      have hq := e _ _ hq
      have hi : i < pl.length := (List.getElem?_eq_some_iff.mp e3).1
      refine ⟨rfl, ?_⟩
      repeat' (first | specialize "st" | fail)
      refine ⟨_, h1, sl1000' (by rw [List.length_take]; omega), fun b u hb => ?_, ?_⟩
      · rw [upd_ne (ne_of_none hb hD)]
        exact e _ _ hb
      · rw [List.take_add_one, e3]
        exact upd_same
    · rintro H' ⟨e, h1⟩
      rw [hxl, List.take_length] at h1
      exact q _ _ h1 e (.inl hD)
  | alt rs =>
    obtain ⟨p, l, xs, rfl, hp, hl, nl, hpr⟩ := hv
    have hxl := Paired.length hpr
    repeat' (first | specialize "st" | fail)
    intro D hD
    refine lc_list (xs := xs) (fun i H' => Ex H H' ∧ H' D = some (.lst (pl.take i))) ?_ ?_ ?_ ?_
    · exact ⟨Ex.mk hD rfl, upd_same⟩
    · rintro i H' _ ⟨e, _⟩
      exact sql (e _ _ hl)
    · rintro i x H' hx ⟨e, h1⟩
      obtain ⟨y0, e3, ⟨q0, u, c1, y, rfl, hq⟩⟩ := paired_at hpr hx
      have hq := e _ _ hq
      have hi : i < pl.length := (List.getElem?_eq_some_iff.mp e3).1
      refine ⟨rfl, ?_⟩
      repeat' (first | specialize "st" | fail)
      refine ⟨_, h1, sl1000' (by rw [List.length_take]; omega), fun b u hb => ?_, ?_⟩
      · rw [upd_ne (ne_of_none hb hD)]
        exact e _ _ hb
      · rw [List.take_add_one, e3]
        exact upd_same
    · rintro H' ⟨e, h1⟩
      rw [hxl, List.take_length] at h1
      exact q _ _ h1 e (.inl hD)
/-! ### the branches of a statement in the order of the text: (parent, statement), the objects themselves -/
def BrsL (R : Sx → V → V → List (V × V) → Prop) : List Sx → List V → V → List (V × V) → Prop
  | [], vs, _, l => vs = [] ∧ l = []
  | s :: ss, vs, p, l => ∃ v ws l1 l2, vs = v :: ws ∧ l = l1 ++ l2 ∧ R s v p l1 ∧ BrsL R ss ws p l2
def BrsP (H : Hp) (R : Sx → V → V → List (V × V) → Prop) : Ps → List V → V → List (V × V) → Prop
  | .nil, xs, _, l => xs = [] ∧ l = []
  | .cons t s r, xs, p, l => ∃ q x ys l1 l2, xs = .ref q :: ys ∧ H q = some (.tup [.int t, x]) ∧ l = (p, x) :: (l1 ++ l2) ∧ R s x (.int t) l1 ∧ BrsP H R r ys p l2
def Sx.isPar : Sx → Option Ps
  | .par ps => some ps
  | _ => none
def Brs (M : List Addr) (H : Hp) : Nat → Sx → V → V → List (V × V) → Prop
  | 0, _, _, _, _ => False
  | n + 1, s, v, p, l => s.In M H v ∧ ((∃ ps q l0 xs, s = .par ps ∧ v = .ref q ∧ H q = some (.tup [.str "par", .ref l0]) ∧ H l0 = some (.lst xs) ∧ l0 ∉ M ∧ BrsP H (Brs M H n) ps xs p l) ∨ (s.isPar = none ∧ ∃ pl, s.Pv M H v pl ∧ BrsL (Brs M H n) s.parts pl p l))
theorem BrsL.imp {R R' : Sx → V → V → List (V × V) → Prop} (h : ∀ s v p l, R s v p l → R' s v p l) : ∀ {ss : List Sx} {vs : List V} {p : V} {l : List (V × V)}, BrsL R ss vs p l → BrsL R' ss vs p l
  | [], _, _, _, g => g
  | _ :: _, _, _, _, ⟨v, ws, l1, l2, a, b, c, d⟩ => ⟨v, ws, l1, l2, a, b, h _ _ _ _ c, BrsL.imp h d⟩
theorem BrsP.imp {H H' : Hp} {R R' : Sx → V → V → List (V × V) → Prop} (k : ∀ q xs, H q = some (.tup xs) → H' q = some (.tup xs)) (h : ∀ s v p l, R s v p l → R' s v p l) : ∀ {ss : Ps} {vs : List V} {p : V} {l : List (V × V)}, BrsP H R ss vs p l → BrsP H' R' ss vs p l
  | .nil, _, _, _, g => g
  | .cons _ _ _, _, _, _, ⟨q, x, ys, l1, l2, a, b, c, d, e⟩ => ⟨q, x, ys, l1, l2, a, k _ _ b, c, h _ _ _ _ d, BrsP.imp k h e⟩
theorem Brs.kp {M : List Addr} {H H' : Hp} (k : Kp M H H') : ∀ {n : Nat} {s : Sx} {v p : V} {l : List (V × V)}, Brs M H n s v p l → Brs M H' n s v p l
  | 0, _, _, _, _, h => h
  | n + 1, s, v, p, l, ⟨i, h⟩ => ⟨i.kp k, h.imp (fun ⟨ps, q, l0, xs, a, b, c, d, e, f⟩ => ⟨ps, q, l0, xs, a, b, k.tup _ _ c, k.out _ _ e d, e, BrsP.imp k.tup (fun _ _ _ _ z => Brs.kp (n := n) k z) f⟩)
      (fun ⟨a, pl, b, c⟩ => ⟨a, pl, b.kp k, BrsL.imp (fun _ _ _ _ z => Brs.kp (n := n) k z) c⟩)⟩
theorem Brs.to {M N : List Addr} {H : Hp} (k : ∀ l xs, H l = some (.lst xs) → l ∉ M → l ∉ N) : ∀ {n : Nat} {s : Sx} {v p : V} {l : List (V × V)}, Brs M H n s v p l → Brs N H n s v p l
  | 0, _, _, _, _, h => h
  | n + 1, s, v, p, l, ⟨i, h⟩ => ⟨i.to k, h.imp (fun ⟨ps, q, l0, xs, a, b, c, d, e, f⟩ => ⟨ps, q, l0, xs, a, b, c, d, k _ _ d e, BrsP.imp (fun _ _ z => z) (fun _ _ _ _ z => Brs.to (n := n) k z) f⟩)
      (fun ⟨a, pl, b, c⟩ => ⟨a, pl, b.to k, BrsL.imp (fun _ _ _ _ z => Brs.to (n := n) k z) c⟩)⟩
theorem Ss.dep_in : ∀ {ss : Ss} {x : Sx}, x ∈ ss.list → x.dep ≤ ss.dep
  | .cons s r, x, h => by
    simp only [Ss.dep]
    rcases List.mem_cons.mp h with rfl | h
    · exact Nat.le_max_left ..
    · exact Nat.le_trans (Ss.dep_in h) (Nat.le_max_right ..)
theorem Ps.dep_in : ∀ {ss : Ps} {x : Sx}, x ∈ ss.list → x.dep ≤ ss.dep
  | .cons _ s r, x, h => by
    simp only [Ps.dep]
    rcases List.mem_cons.mp h with rfl | h
    · exact Nat.le_max_left ..
    · exact Nat.le_trans (Ps.dep_in h) (Nat.le_max_right ..)
theorem As.dep_in : ∀ {ss : As} {x : Sx}, x ∈ ss.list → x.dep ≤ ss.dep
  | .cons _ _ _ s r, x, h => by
    simp only [As.dep]
    rcases List.mem_cons.mp h with rfl | h
    · exact Nat.le_max_left ..
    · exact Nat.le_trans (As.dep_in h) (Nat.le_max_right ..)
theorem Sx.dep_in {s x : Sx} (h : x ∈ s.parts) : x.dep < s.dep := by
  cases s with
  | skip => cases h
  | stop => cases h
  | set _ _ => cases h
  | give _ _ => cases h
  | take _ _ => cases h
  | ife e a b =>
    simp only [Sx.parts, List.mem_cons, List.not_mem_nil, or_false] at h
    simp only [Sx.dep]
    rcases h with rfl | rfl <;> omega
  | rep e n a =>
    simp only [Sx.parts, List.mem_cons, List.not_mem_nil, or_false] at h
    simp only [Sx.dep]
    subst h
    omega
  | seq ss =>
    have := Ss.dep_in h
    simp only [Sx.dep]
    omega
  | par ss =>
    have := Ps.dep_in h
    simp only [Sx.dep]
    omega
  | alt ss =>
    have := As.dep_in h
    simp only [Sx.dep]
    omega
theorem brsL_ex {M : List Addr} {H : Hp} {R : Sx → V → V → List (V × V) → Prop} : ∀ {ss : List Sx} {vs : List V} (p : V), SxL M H vs ss → (∀ s v, s ∈ ss → s.In M H v → ∃ l, R s v p l) → ∃ l, BrsL R ss vs p l
  | _, _, _, .nil, _ => ⟨[], rfl, rfl⟩
  | _, _, p, .cons a t, h => by
    obtain ⟨l1, h1⟩ := h _ _ (List.mem_cons_self ..) a
    obtain ⟨l2, h2⟩ := brsL_ex p t fun s v m => h s v (List.mem_cons_of_mem _ m)
    exact ⟨l1 ++ l2, _, _, l1, l2, rfl, rfl, h1, h2⟩
theorem brsP_ex {M : List Addr} {H : Hp} {R : Sx → V → V → List (V × V) → Prop} : ∀ {ss : Ps} {xs : List V} (p : V), ss.In M H xs → (∀ s v t, s ∈ ss.list → s.In M H v → ∃ l, R s v t l) → ∃ l, BrsP H R ss xs p l
  | .nil, _, _, h, _ => by cases h; exact ⟨[], rfl, rfl⟩
  | .cons t s r, _, p, ⟨q, x, ys, e, g, a, b⟩, h => by
    obtain ⟨l1, h1⟩ := h _ x (.int t) (List.mem_cons_self ..) a
    obtain ⟨l2, h2⟩ := brsP_ex p b fun s v t m => h s v t (List.mem_cons_of_mem _ m)
    exact ⟨_, q, x, ys, l1, l2, e, g, rfl, h1, h2⟩
theorem brs_ex {M : List Addr} {H : Hp} : ∀ {n : Nat} {s : Sx} {v : V} (p : V), s.In M H v → s.dep ≤ n → ∃ l, Brs M H n s v p l
  | 0, s, _, _, _, hd => by cases s <;> simp only [Sx.dep] at hd <;> omega
  | n + 1, s, v, p, h, hd => by
    by_cases hp : s.isPar = none
    · obtain ⟨pl, h1, h2⟩ := h.pv
      obtain ⟨l, hl⟩ := brsL_ex (R := Brs M H n) p h2 fun s' v' m i => brs_ex p i (by have := Sx.dep_in m; omega)
      exact ⟨l, h, .inr ⟨hp, pl, h1, hl⟩⟩
    · cases s with
      | par ps =>
        obtain ⟨q, l0, xs, e, g, gl, gm, a⟩ := id h
        obtain ⟨l, hl⟩ := brsP_ex (R := Brs M H n) p a fun s' v' t m i => brs_ex t i (by have := Ps.dep_in m; simp only [Sx.dep] at hd; omega)
        exact ⟨l, h, .inl ⟨ps, q, l0, xs, rfl, e, g, gl, gm, hl⟩⟩
      | _ => exact absurd rfl hp
/-! numbers, counts and sizes over the parts -/
def numL : List Sx → Int → Prop
  | [], _ => True
  | s :: r, t => s.num t ∧ numL r (t + s.cnt)
def cntL : List Sx → Nat
  | [] => 0
  | s :: r => s.cnt + cntL r
def szL : List Sx → Nat
  | [] => 0
  | s :: r => s.sz + szL r
theorem Ss.cntL : ∀ {ss : Ss}, ss.cnt = Y.cntL ss.list
  | .nil => rfl
  | .cons s r => by simp only [Ss.cnt, Ss.list, Y.cntL, Ss.cntL (ss := r)]
theorem As.cntL : ∀ {ss : As}, ss.cnt = Y.cntL ss.list
  | .nil => rfl
  | .cons _ _ _ s r => by simp only [As.cnt, As.list, Y.cntL, As.cntL (ss := r)]
theorem Ss.szL : ∀ {ss : Ss}, ss.sz = Y.szL ss.list
  | .nil => rfl
  | .cons s r => by simp only [Ss.sz, Ss.list, Y.szL, Ss.szL (ss := r)]
theorem As.szL : ∀ {ss : As}, ss.sz = Y.szL ss.list
  | .nil => rfl
  | .cons _ _ _ s r => by simp only [As.sz, As.list, Y.szL, As.szL (ss := r)]
theorem Ps.szL : ∀ {ss : Ps}, ss.sz = Y.szL ss.list
  | .nil => rfl
  | .cons _ s r => by simp only [Ps.sz, Ps.list, Y.szL, Ps.szL (ss := r)]
theorem Ss.numL : ∀ {ss : Ss} {t : Int}, ss.num t → Y.numL ss.list t
  | .nil, _, _ => trivial
  | .cons _ _, _, h => ⟨h.1, Ss.numL h.2⟩
theorem As.numL : ∀ {ss : As} {t : Int}, ss.num t → Y.numL ss.list t
  | .nil, _, _ => trivial
  | .cons _ _ _ _ _, _, h => ⟨h.1, As.numL h.2⟩
theorem Sx.cntL {s : Sx} (h : s.isPar = none) : s.cnt = Y.cntL s.parts := by
  cases s with
  | ife e a b => simp [Sx.cnt, Sx.parts, Y.cntL]
  | rep e n a => simp [Sx.cnt, Sx.parts, Y.cntL]
  | seq ss => exact Ss.cntL
  | alt ss => exact As.cntL
  | par ss => cases h
  | _ => rfl
theorem Sx.numL {s : Sx} {t : Int} (h : s.isPar = none) (n : s.num t) : Y.numL s.parts t := by
  cases s with
  | ife e a b => exact ⟨n.1, n.2, trivial⟩
  | rep e k a => exact ⟨n, trivial⟩
  | seq ss => exact Ss.numL n
  | alt ss => exact As.numL n
  | par ss => cases h
  | _ => trivial
theorem Sx.szL {s : Sx} : Y.szL s.parts < s.sz := by
  cases s with
  | ife e a b => simp only [Sx.sz, Sx.parts, Y.szL]; omega
  | rep e n a => simp only [Sx.sz, Sx.parts, Y.szL]; omega
  | seq ss => have := Ss.szL (ss := ss); simp only [Sx.sz, Sx.parts]; omega
  | alt ss => have := As.szL (ss := ss); simp only [Sx.sz, Sx.parts]; omega
  | par ss => have := Ps.szL (ss := ss); simp only [Sx.sz, Sx.parts]; omega
  | _ => simp only [Sx.sz, Sx.parts, Y.szL]; omega
theorem Sx.sz0 {s : Sx} : 0 < s.sz := by cases s <;> simp only [Sx.sz] <;> omega
theorem szL_len : ∀ {l : List Sx}, l.length ≤ szL l
  | [] => Nat.le_refl 0
  | s :: r => by
    have := s.sz0
    have := szL_len (l := r)
    simp only [List.length_cons, szL]
    omega
theorem szL_mem : ∀ {l : List Sx} {x : Sx}, x ∈ l → x.sz ≤ szL l
  | s :: r, x, h => by
    simp only [szL]
    rcases List.mem_cons.mp h with rfl | h
    · omega
    · have := szL_mem h
      omega
theorem Sx.In.notPar {M : List Addr} {H : Hp} {s0 : Sx} {v : V} (hs : s0.In M H v) (hp : s0.isPar = none) : ∃ (p0 : Addr) (k0 : Str) (r0 : List V), v = .ref p0 ∧ H p0 = some (.tup (.str k0 :: r0)) ∧ ¬ V.str k0 = V.str "par" := by
  cases s0 with
  | par ps => cases hp
  | skip => obtain ⟨p0, e, h⟩ := hs; exact ⟨p0, _, _, e, h, by decide +kernel⟩
  | stop => obtain ⟨p0, e, h⟩ := hs; exact ⟨p0, _, _, e, h, by decide +kernel⟩
  | set _ _ => obtain ⟨p0, _, _, e, h, _⟩ := hs; exact ⟨p0, _, _, e, h, by decide +kernel⟩
  | give _ _ => obtain ⟨p0, _, e, h, _⟩ := hs; exact ⟨p0, _, _, e, h, by decide +kernel⟩
  | take _ _ => obtain ⟨p0, _, e, h, _⟩ := hs; exact ⟨p0, _, _, e, h, by decide +kernel⟩
  | ife _ _ _ => obtain ⟨p0, _, _, _, e, h, _⟩ := hs; exact ⟨p0, _, _, e, h, by decide +kernel⟩
  | rep _ _ _ => obtain ⟨p0, _, _, e, h, _⟩ := hs; exact ⟨p0, _, _, e, h, by decide +kernel⟩
  | seq _ => obtain ⟨p0, _, _, e, h, _⟩ := hs; exact ⟨p0, _, _, e, h, by decide +kernel⟩
  | alt _ => obtain ⟨p0, _, _, e, h, _⟩ := hs; exact ⟨p0, _, _, e, h, by decide +kernel⟩
theorem brsL_len {R : Sx → V → V → List (V × V) → Prop} : ∀ {ss : List Sx} {vs : List V} {p : V} {l : List (V × V)}, BrsL R ss vs p l → vs.length = ss.length
  | [], _, _, _, ⟨a, _⟩ => by rw [a]; rfl
  | _ :: ss, _, _, _, ⟨v, ws, l1, l2, a, b, c, d⟩ => by rw [a, List.length_cons, List.length_cons, brsL_len d]
theorem brsP_len {H : Hp} {R : Sx → V → V → List (V × V) → Prop} : ∀ {ss : Ps} {vs : List V} {p : V} {l : List (V × V)}, BrsP H R ss vs p l → vs.length = ss.list.length
  | .nil, _, _, _, ⟨a, _⟩ => by rw [a]; rfl
  | .cons _ _ r, _, _, _, ⟨q, x, ys, l1, l2, a, b, c, d, e⟩ => by rw [a, Ps.list, List.length_cons, List.length_cons, brsP_len e]
/-- the pairs stand as tuples -/
abbrev Prs (H : Hp) (us : List V) (l : List (V × V)) : Prop := Paired (fun u (x : V × V) => ∃ q, u = .ref q ∧ H q = some (.tup [x.1, x.2])) us l
theorem prs_kp {M : List Addr} {H H' : Hp} {us : List V} {l : List (V × V)} (k : Kp M H H') (h : Prs H us l) : Prs H' us l := Paired.mapP h fun _ _ ⟨q, e, z⟩ => ⟨q, e, k.tup _ _ z⟩
theorem cal_imp {x : Str} {k : Nat} {ps : List Str} {sp sp' : Sp} (G : Cal P w K mg base x k ps sp) (h : ∀ vs H Q E, sp' vs H Q E → sp vs H Q E) : Cal P w K mg base x k ps sp' := by
  obtain ⟨f, fd, F, m, kp, b⟩ := G
  exact ⟨f, fd, F.imp h, m, kp, b⟩
abbrev s_note_branches : Stmt := topS 14
theorem sc_note_branches : FnScope ["found", "parent", "s", "part", "thread"] ["found", "parent", "s"] (defScope s_note_branches) := ⟨rfl, rfl, rfl, by decide +kernel, rfl, by decide +kernel, by decide +kernel⟩
abbrev p_note_branches : List Str := ["found", "parent", "s"]
abbrev s_threads_of : Stmt := topS 13
theorem sc_threads_of : FnScope ["core", "found", "thread"] ["core"] (defScope s_threads_of) := ⟨rfl, rfl, rfl, by decide +kernel, rfl, by decide +kernel, by decide +kernel⟩
abbrev p_threads_of : List Str := ["core"]
def rowsK : Nat → List V → List (Key × V)
  | _, [] => []
  | i, v :: r => (Sum.inl (i : Int), v) :: rowsK (i + 1) r
theorem rowsK_len : ∀ {i : Nat} {ws : List V}, (rowsK i ws).length = ws.length
  | _, [] => rfl
  | i, _ :: r => by simp only [rowsK, List.length_cons, rowsK_len (ws := r)]
theorem rowsK_not : ∀ {i : Nat} {ws : List V} {k : Int}, k < i ∨ (i + ws.length : Nat) ≤ k → valV (rowsK i ws) (Sum.inl k) = none
  | _, [], _, _ => rfl
  | i, w :: r, k, h => by
    have e : (w :: r).length = r.length + 1 := rfl
    rw [e] at h
    have ih := rowsK_not (i := i + 1) (ws := r) (k := k) (by omega)
    simp only [rowsK]
    rw [valV_neg (fun z => by have := Sum.inl.inj z; omega)]
    exact ih
theorem rowsK_app : ∀ {i : Nat} {ws us : List V}, rowsK i (ws ++ us) = rowsK i ws ++ rowsK (i + ws.length) us
  | _, [], _ => rfl
  | i, w :: r, us => by
    have e : (w :: r).length = r.length + 1 := rfl
    simp only [rowsK, List.cons_append, rowsK_app (ws := r), e]
    rw [show i + 1 + r.length = i + (r.length + 1) by omega]
theorem rowsK_put {v : V} {ws : List V} : putK (rowsK 0 ws) (Sum.inl ((ws.length : Nat) : Int)) v = rowsK 0 (ws ++ [v]) := by
  have h := rowsK_not (i := 0) (ws := ws) (k := ws.length) (.inr (by omega))
  unfold putK
  rw [valV_any, h, if_neg (by decide), rowsK_app, Nat.zero_add]
  rfl
theorem rowsK_val : ∀ {i : Nat} {ws : List V} {j : Nat} {v : V}, ws[j]? = some v → valV (rowsK i ws) (Sum.inl ((i + j : Nat) : Int)) = some v
  | i, [], _, _, h => by simp at h
  | i, w :: r, 0, v, h => by
    simp at h
    subst h
    exact valV_pos rfl
  | i, w :: r, j + 1, v, h => by
    have ih := rowsK_val (i := i + 1) (j := j) (v := v) (ws := r) (by simpa using h)
    rw [show i + 1 + j = i + (j + 1) by omega] at ih
    simp only [rowsK]
    rw [valV_neg (fun z => by have := Sum.inl.inj z; omega)]
    exact ih
def sp_note (n : Nat) : Sp := fun vs H Q _ => ∃ (M : List Addr) (s : Sx) (v p : V) (r : Addr) (ws : List V) (l : List (V × V)), vs = [.ref r, p, v] ∧ Brs (r :: M) H n s v p l ∧ s.num ws.length ∧ H r = some (.dK (rowsK 0 ws)) ∧ ws.length + s.cnt ≤ 1000 ∧ s.sz ≤ 50000 ∧
  ∀ (us : List V) (H' : Hp), Kp [r] H H' → H' r = some (.dK (rowsK 0 (ws ++ us))) → Prs H' us l → us.length = s.cnt → Q .non H'
theorem ok_note (T : Glo K w mg) (D : Dn K mg "note_branches" s_note_branches p_note_branches) (n : Nat) (G_parts_of : Cal P w K mg base "parts_of" 1 p_parts_of sp_partsV) (G_note_branches : Cal P w K mg base "note_branches" (1 + n) p_note_branches (sp_note n)) :
    Cal P w K mg base "note_branches" (1 + n + 1) p_note_branches (sp_note (n + 1)) := by
  refine D.ok sc_note_branches (fun vs H Q E h => ?_) (fun f cdv A outer s H vs Q E hr h => ?_)
  · obtain ⟨_, _, _, _, _, _, _, rfl, _⟩ := h
    rfl
  obtain ⟨M, s0, v, pt, r, ws, l, rfl, ⟨hs, hb⟩, hnm, hrw, hc, hz, q⟩ := h
  refine ⟨_, (pss_cons (ps_if (pt_cmpR (op_eqA (hu64 hr)) (pe_ix ix_seq (pv 2) pe_int (fun _ _ => rfl)) pe_str (nomark _)) (pss_cons (ps_for PassesOwn.never rfl (pi_list (pe_ix ix_seq (pv 2) pe_int (fun _ _ => rfl))) (pg_tup rfl (pgs_cons (pg_name (i := 4) sc_note_branches.nd rfl (by first | exact Or.inl rfl | exact Or.inr rfl)) (pgs_cons (pg_name (i := 3) sc_note_branches.nd rfl (by first | exact Or.inl rfl | exact Or.inr rfl)) pgs_nil))) (pss_cons (ps_dput (hu_of hr) (pv 0) (pv 4) (pe_tup (pa_cons (pv 1) (pa_cons (pv 3) pa_nil))) rfl) (pss_one (ps_expr (pe_cal G_note_branches (hr.mono (by (first | subst "lev" | fail))) rfl (pa_cons (pv 0) (pa_cons (pv 4) (pa_cons (pv 3) pa_nil)))))))) (pss_one ps_retN)) pss_nil) (pss_one (ps_for PassesOwn.never rfl (pi_list (pe_cal G_parts_of (hr.mono (by (first | subst "lev" | fail))) rfl (pa_cons (pv 2) pa_nil))) (pg_name (i := 3) sc_note_branches.nd rfl (by first | exact Or.inl rfl | exact Or.inr rfl)) (pss_one (ps_expr (pe_cal G_note_branches (hr.mono (by (first | subst "lev" | fail))) rfl (pa_cons (pv 0) (pa_cons (pv 1) (pa_cons (pv 3) pa_nil))))))))), ?_⟩
  try dsimp only [cxOf, Cx.nox]
  rcases hb with ⟨ps, q0, l0, xs, rfl, rfl, hq, hl, hm, hb⟩ | ⟨hp, pl, hpv, hb⟩
  · repeat' (first | specialize "st" | fail)
    have hl0r : l0 ∉ [r] := fun z => hm (by rw [List.mem_singleton.mp z]; exact List.mem_cons_self ..)
    refine w_list (xs := xs) (fun i σ H' => ∃ (us : List V) (l1 l2 : List (V × V)) (psr : Ps) (y3 y4 : Option V), σ = [some (.ref r), some pt, some (.ref q0), y3, y4] ∧ Kp [r] H H' ∧ H' r = some (.dK (rowsK 0 (ws ++ us))) ∧ Prs H' us l1 ∧ l = l1 ++ l2 ∧
      BrsP H' (Brs (r :: M) H' n) psr (xs.drop i) pt l2 ∧ psr.num ((ws.length + us.length : Nat) : Int) ∧ us.length + psr.cnt = ps.cnt ∧ psr.sz ≤ ps.sz) ?_ ?_ ?_ ?_
    · exact ⟨[], [], l, ps, none, none, rfl, Kp.refl _, by rw [List.append_nil]; exact hrw, .nil, rfl, hb, hnm, by simp, Nat.le_refl _⟩
    · rintro i σ H' _ ⟨us, l1, l2, psr, y3, y4, rfl, k, _⟩
      exact sql (k.out _ _ hl0r hl)
    · rintro i x σ H' hx ⟨us, l1, l2, psr, y3, y4, rfl, k, hr', hP, rfl, hB, hN, hC, hS⟩
      obtain ⟨hi, e⟩ := List.getElem?_eq_some_iff.mp hx
      rw [List.drop_eq_getElem_cons hi, e] at hB
      cases psr with
      | nil => cases hB.1
      | cons t s2 rest =>
        obtain ⟨q2, x2, ys, l3, l4, e1, e2, e3, e4, e5⟩ := hB
        cases e1
        subst e3
        obtain ⟨rfl, hN1, hN2⟩ := hN
        have hz2 : (Ps.cons (↑(ws.length + us.length)) s2 rest).sz ≤ ps.sz := hS
        simp only [Ps.cnt, Ps.sz] at hC hS
        simp only [Sx.cnt, Sx.sz] at hc hz
        have hsz := s2.sz0
        clear hb hq hl
        repeat' (first | specialize "st" | fail)
        have hr2 : Hn r = some (.dK (rowsK 0 (ws ++ us))) := ke _ _ hr'
        obtain ⟨Hm, rfl⟩ : ∃ x, x = Hn := ⟨_, rfl⟩
        have kd : Ex H' Hm := ke
        refine q_dputI hr2 (by rw [rowsK_len, List.length_append]; omega) ?_
        intro Hn ku hu
        rw [show ws.length + us.length = (ws ++ us).length by rw [List.length_append], rowsK_put] at hu
        repeat' (first | specialize "st" | fail)
        have kk : Kp [r] H' Hn := kd.kp.trans ku
        have kM : Kp (r :: M) H' Hn := kk.sub sub_hd1
        refine ⟨M, s2, x2, _, r, _, l3, rfl, e4.kp kM, ?_, hu, ?_, by omega, fun us2 H2 k2 h2 P2 n2 => ?_⟩
        · rw [show (((ws ++ us ++ [V.ref p]).length : Nat) : Int) = ((ws.length + us.length : Nat) : Int) + 1 by simp only [List.length_append, List.length_cons, List.length_nil]; omega]
          exact hN1
        · simp only [List.length_append, List.length_cons, List.length_nil]
          omega
        have k2M : Kp (r :: M) Hn H2 := k2.sub sub_hd1
        repeat' (first | specialize "st" | fail)
        refine ⟨us ++ [V.ref p] ++ us2, l1 ++ [(pt, x2)] ++ l3, l4, rest, _, _, rfl, k.trans (kk.trans k2), ?_, ?_, ?_, ?_, ?_, ?_, ?_⟩
        · rw [h2]
          simp only [List.append_assoc]
        · exact pair_app (pair_app (prs_kp (kk.trans k2) hP) (.cons ⟨p, rfl, k2.tup _ _ (ku.tup _ _ hn)⟩ .nil)) P2
        · simp only [List.append_assoc, List.cons_append, List.nil_append]
        · exact BrsP.imp (kM.trans k2M).tup (fun _ _ _ _ z => z.kp (kM.trans k2M)) e5
        · rw [show (((ws.length + (us ++ [V.ref p] ++ us2).length : Nat)) : Int) = ((ws.length + us.length : Nat) : Int) + 1 + (s2.cnt : Int) by simp only [List.length_append, List.length_cons, List.length_nil]; omega]
          exact hN2
        · simp only [List.length_append, List.length_cons, List.length_nil]
          omega
        · omega
    · rintro σ H' ⟨us, l1, l2, psr, y3, y4, rfl, k, hr', hP, rfl, hB, hN, hC, hS⟩
      rw [List.drop_length] at hB
      cases psr with
      | cons t s2 rest =>
        obtain ⟨q2, x2, ys, l3, l4, e1, _⟩ := hB
        cases e1
      | nil =>
        obtain ⟨_, rfl⟩ := hB
        rw [List.append_nil] at q
        iterate 1 ((first | specialize "st" | fail))
        exact q us H' k hr' hP (by simp only [Ps.cnt] at hC; simp only [Sx.cnt]; omega)
  · have hnp : ∃ (p0 : Addr) (k0 : Str) (r0 : List V), v = .ref p0 ∧ H p0 = some (.tup (.str k0 :: r0)) ∧ ¬ V.str k0 = V.str "par" := by
      cases s0 with
      | par ps => cases hp
      | skip => obtain ⟨p0, e, h⟩ := hs; exact ⟨p0, _, _, e, h, by decide +kernel⟩
      | stop => obtain ⟨p0, e, h⟩ := hs; exact ⟨p0, _, _, e, h, by decide +kernel⟩
      | set _ _ => obtain ⟨p0, _, _, e, h, _⟩ := hs; exact ⟨p0, _, _, e, h, by decide +kernel⟩
      | give _ _ => obtain ⟨p0, _, e, h, _⟩ := hs; exact ⟨p0, _, _, e, h, by decide +kernel⟩
      | take _ _ => obtain ⟨p0, _, e, h, _⟩ := hs; exact ⟨p0, _, _, e, h, by decide +kernel⟩
      | ife _ _ _ => obtain ⟨p0, _, _, _, e, h, _⟩ := hs; exact ⟨p0, _, _, e, h, by decide +kernel⟩
      | rep _ _ _ => obtain ⟨p0, _, _, e, h, _⟩ := hs; exact ⟨p0, _, _, e, h, by decide +kernel⟩
      | seq _ => obtain ⟨p0, _, _, e, h, _⟩ := hs; exact ⟨p0, _, _, e, h, by decide +kernel⟩
      | alt _ => obtain ⟨p0, _, _, e, h, _⟩ := hs; exact ⟨p0, _, _, e, h, by decide +kernel⟩
    obtain ⟨p0, k0, r0, rfl, hp0, nk⟩ := hnp
    have hpl : pl.length ≤ 50000 := by
      rw [brsL_len hb]
      have := szL_len (l := s0.parts)
      have := s0.szL
      omega
    iterate 7 ((first | specialize "st" | fail))
    refine q_ixT (xs := .str k0 :: r0) (v := .str k0) (sqt hp0) at0 ?_
    iterate 1 ((first | specialize "st" | fail))
    refine q_eqN rfl nk ?_
    repeat' (first | specialize "st" | fail)
    refine ⟨r :: M, s0, .ref p0, pl, rfl, hs, hpv, hpl, fun l0 H1 hl0 e1 fl => ?_⟩
    refine ⟨l0, rfl, ⟨pl, sql hl0⟩, ?_⟩
    have nl0 : l0 ∉ [r] := fun z => by
      rw [List.mem_singleton.mp z] at fl
      rcases fl with fl | fl
      · rw [hrw] at fl
        cases fl
      · exact fl (List.mem_cons_self ..)
    refine w_list (xs := pl) (fun i σ H2 => ∃ (us : List V) (l1 l2 : List (V × V)) (ssr : List Sx) (y3 y4 : Option V), σ = [some (.ref r), some pt, some (.ref p0), y3, y4] ∧ Kp [r] H H2 ∧ H2 l0 = some (.lst pl) ∧ H2 r = some (.dK (rowsK 0 (ws ++ us))) ∧ Prs H2 us l1 ∧ l = l1 ++ l2 ∧
      BrsL (Brs (r :: M) H2 n) ssr (pl.drop i) pt l2 ∧ numL ssr ((ws.length + us.length : Nat) : Int) ∧ us.length + cntL ssr = s0.cnt ∧ szL ssr ≤ szL s0.parts) ?_ ?_ ?_ ?_
    · refine ⟨[], [], l, s0.parts, none, none, rfl, e1.kp, hl0, ?_, .nil, rfl, BrsL.imp (fun _ _ _ _ z => z.kp e1.kp) hb, Sx.numL hp hnm, ?_, Nat.le_refl _⟩
      · rw [List.append_nil]
        exact e1 _ _ hrw
      · rw [← Sx.cntL hp]
        exact Nat.zero_add _
    · rintro i σ H2 _ ⟨us, l1, l2, ssr, y3, y4, rfl, k, h1, _⟩
      exact sql h1
    · rintro i x σ H2 hx ⟨us, l1, l2, ssr, y3, y4, rfl, k, h1, h3, hP, rfl, hB, hN, hC, hS⟩
      obtain ⟨hi, e⟩ := List.getElem?_eq_some_iff.mp hx
      rw [List.drop_eq_getElem_cons hi, e] at hB
      cases ssr with
      | nil => cases hB.1
      | cons s2 rest =>
        obtain ⟨v2, ys, l3, l4, e3, rfl, e4, e5⟩ := hB
        cases e3
        simp only [cntL, szL] at hC hS
        have hsz := s0.szL
        clear hb
        repeat' (first | specialize "st" | fail)
        refine ⟨M, s2, _, _, r, _, l3, rfl, e4, ?_, h3, ?_, by omega, fun us2 H3 k2 g2 P2 n2 => ?_⟩
        · rw [List.length_append]
          exact hN.1
        · rw [List.length_append]
          omega
        have k2M : Kp (r :: M) H2 H3 := k2.sub sub_hd1
        repeat' (first | specialize "st" | fail)
        refine ⟨us ++ us2, l1 ++ l3, l4, rest, _, _, rfl, k.trans k2, k2.out _ _ nl0 h1, ?_, pair_app (prs_kp k2 hP) P2, ?_, BrsL.imp (fun _ _ _ _ z => z.kp k2M) e5, ?_, ?_, ?_⟩
        · rw [← List.append_assoc]
          exact g2
        · rw [List.append_assoc]
        · rw [List.length_append, n2, show ((ws.length + (us.length + s2.cnt) : Nat) : Int) = ((ws.length + us.length : Nat) : Int) + s2.cnt by omega]
          exact hN.2
        · rw [List.length_append]
          omega
        · omega
    · rintro σ H2 ⟨us, l1, l2, ssr, y3, y4, rfl, k, h1, h3, hP, rfl, hB, hN, hC, hS⟩
      rw [List.drop_length] at hB
      cases ssr with
      | cons s2 rest =>
        obtain ⟨v2, ys, l3, l4, e3, _⟩ := hB
        cases e3
      | nil =>
        obtain ⟨_, rfl⟩ := hB
        rw [List.append_nil] at q
        exact q us H2 k h3 hP hC
theorem note_all (T : Glo K w mg) (D : Dn K mg "note_branches" s_note_branches p_note_branches) (G_parts_of : Cal P w K mg base "parts_of" 1 p_parts_of sp_partsV) : ∀ n : Nat, Cal P w K mg base "note_branches" (1 + n) p_note_branches (sp_note n)
  | 0 => cal_imp (cal_false D sc_note_branches 0) fun _ _ _ _ ⟨_, _, _, _, _, _, _, _, h, _⟩ => h
  | n + 1 => ok_note T D n G_parts_of (note_all T D G_parts_of n)
def upto : Nat → Nat → List Int
  | _, 0 => []
  | i, n + 1 => (i : Int) :: upto (i + 1) n
theorem upto_len : ∀ {i n : Nat}, (upto i n).length = n
  | _, 0 => rfl
  | i, n + 1 => by rw [upto, List.length_cons, upto_len]
theorem upto_at : ∀ {i n j : Nat}, j < n → (upto i n)[j]? = some ((i + j : Nat) : Int)
  | _, 0, _, h => absurd h (Nat.not_lt_zero _)
  | i, n + 1, 0, _ => rfl
  | i, n + 1, j + 1, h => by
    rw [upto, List.getElem?_cons_succ, upto_at (by omega), show i + 1 + j = i + (j + 1) by omega]
theorem upto_ge : ∀ {i n : Nat} {x : Int}, x ∈ upto i n → (i : Int) ≤ x
  | i, n + 1, x, h => by
    rcases List.mem_cons.mp h with rfl | h
    · exact Int.le_refl _
    · have := upto_ge h
      omega
theorem upto_pw : ∀ {i n : Nat}, (upto i n).Pairwise (· ≤ ·)
  | _, 0 => List.Pairwise.nil
  | i, n + 1 => List.Pairwise.cons (fun x h => by have := upto_ge h; omega) upto_pw
theorem rowsK_keys : ∀ {i : Nat} {ws : List V}, (rowsK i ws).map (·.1) = (upto i ws.length).map Sum.inl
  | _, [] => rfl
  | i, w :: r => by
    show (Sum.inl (i : Int) : Key) :: (rowsK (i + 1) r).map (·.1) = _
    rw [rowsK_keys]
    rfl
theorem perm_upto {i n : Nat} {ys : List Int} (p : ys.Perm (upto i n)) (s : ys.Pairwise (· ≤ ·)) : ys = upto i n := List.Perm.eq_of_pairwise (fun _ _ _ _ => Int.le_antisymm) s upto_pw p
/-- the threads of a core: a new list of (parent, statement), the objects themselves -/
def sp_threads (n : Nat) : Sp := fun vs H Q _ => ∃ (p ch : Addr) (nc : Int) (s : Sx) (v : V) (l : List (V × V)), vs = [.ref p] ∧ H p = some (.tup [.str "core", .int nc, .ref ch, v]) ∧ Brs [] H n s v (.int 0) l ∧ s.num 1 ∧ s.cnt ≤ 40 ∧ s.sz ≤ 50000 ∧
  ∀ (L : Addr) (us : List V) (H' : Hp), Ex H H' → H L = none → H' L = some (.lst us) → Prs H' us ((.non, v) :: l) → us.length = s.cnt + 1 → Q (.ref L) H'
theorem ok_threads (T : Glo K w mg) (D : Dn K mg "threads_of" s_threads_of p_threads_of) (n : Nat) (G_note_branches : Cal P w K mg base "note_branches" (1 + n) p_note_branches (sp_note n)) : Cal P w K mg base "threads_of" (1 + n + 1) p_threads_of (sp_threads n) := by
  refine D.ok sc_threads_of (fun vs H Q E h => ?_) (fun f cdv A outer s H vs Q E hr h => ?_)
  · obtain ⟨_, _, _, _, _, _, rfl, _⟩ := h
    rfl
  obtain ⟨pc, ch, nc, s0, v, l, rfl, hp, hb, hnm, hc, hz, q⟩ := h
  refine ⟨_, (pss_cons (ps_set (i := 1) sc_threads_of.nd rfl (by first | exact Or.inl rfl | exact Or.inr rfl) (pe_disp (pps_cons pe_int (pe_tup (pa_cons pe_non (pa_cons (pe_ix ix_seq (pv 0) pe_int (fun _ _ => rfl)) pa_nil))) pps_nil) rfl rfl (by simp) (by decide))) (pss_cons (ps_expr (pe_cal G_note_branches (hr.mono (by (first | subst "lev" | fail))) rfl (pa_cons (pv 1) (pa_cons pe_int (pa_cons (pe_ix ix_seq (pv 0) pe_int (fun _ _ => rfl)) pa_nil))))) (pss_one (ps_ret (pe_lc (own := [("thread", 2)]) (tt := tYes) rfl sc_threads_of.nd (pi_list (pe_callB (call_sortedDI rfl) rfl T.n_sorted (by decide +kernel) (pa_cons (pv 1) pa_nil))) (blkOk_by (N := ["core", "found", "thread"]) (sc := defScope s_threads_of) (by decide +kernel)) (fun _ _ _ _ _ => (pg_name (i := 2) sc_threads_of.nd rfl (by first | exact Or.inl rfl | exact Or.inr rfl))) (fun _ _ _ _ _ => pts_nil) (fun _ _ _ _ _ => (pe_dget (hu_of hr) (pv 1) (pv 2) (fun _ _ => rfl)))))))), ?_⟩
  try dsimp only [cxOf, Cx.nox]
  repeat' (first | specialize "st" | fail)
  rename_i H1 k1
  have hd1 : Hn dp = some (.dK []) := ke _ _ hdn
  obtain ⟨Hm, rfl⟩ : ∃ x, x = Hn := ⟨_, rfl⟩
  have e1 : Ex H Hm := k1.trans ke
  have hpc : H pc = some (.tup [.str "core", .int nc, .ref ch, v]) := by assumption
  refine q_disp (rowsK 0 [.ref p]) hd1 rfl (List.nodup_cons.mpr ⟨List.not_mem_nil, List.nodup_nil⟩) (show 1 ≤ 15 by decide) ?_
  intro Hn ku hu
  have eN : Ex H Hn := fun a o h => ku.out _ _ (fun z => by rw [List.mem_singleton.mp z, hdp] at h; cases h) (e1 _ _ h)
  have hb2 : Brs [dp] H n s0 v (.int 0) l := hb.to (to_add hdp)
  have hdp0 : H dp = none := hdp
  clear ke
  repeat' (first | specialize "st" | fail)
  refine ⟨[], s0, v, _, dp, [.ref p], l, rfl, hb2.kp eN.kp, hnm, hu, ?_, hz, fun us H2 k2 g2 P2 n2 => ?_⟩
  · simp only [List.length_cons, List.length_nil]
    omega
  have k2' : Ex H H2 := fun a o h => k2.out _ _ (fun z => by rw [List.mem_singleton.mp z, hdp0] at h; cases h) (eN _ _ h)
  repeat' (first | specialize "st" | fail)
  have hws : ([V.ref p] ++ us).length = s0.cnt + 1 := by
    simp only [List.length_append, List.length_cons, List.length_nil]
    omega
  refine ⟨dp, rowsK 0 ([V.ref p] ++ us), upto 0 (s0.cnt + 1), rfl, .inl g2, by rw [rowsK_keys, hws], by rw [upto_len]; omega, fun ys ps hperm hsort hps => ?_⟩
  obtain rfl := perm_upto hperm hsort
  have ePs : Ex H2 (upd H2 ps (.lst ((upto 0 (s0.cnt + 1)).map V.int))) := Ex.mk hps rfl
  have hPl : upd H2 ps (.lst ((upto 0 (s0.cnt + 1)).map V.int)) ps = some (.lst ((upto 0 (s0.cnt + 1)).map V.int)) := upd_same
  refine ⟨ps, rfl, ⟨_, sql hPl⟩, fun D hD => ?_⟩
  generalize upd H2 ps (.lst ((upto 0 (s0.cnt + 1)).map V.int)) = H3 at ePs hPl hD ⊢
  have hn2 : H2 p = some (.tup [.non, v]) := k2.tup _ _ (ku.tup _ _ hn)
  refine lc_list (xs := (upto 0 (s0.cnt + 1)).map V.int) (fun i H4 => Ex H3 H4 ∧ H4 D = some (.lst (([V.ref p] ++ us).take i))) ?_ ?_ ?_ ?_
  · exact ⟨Ex.mk hD rfl, upd_same⟩
  · rintro i H4 _ ⟨e, _⟩
    exact sql (e _ _ hPl)
  · rintro i x H4 hx ⟨e, h1⟩
    rw [List.getElem?_map] at hx
    obtain ⟨k, hk, rfl⟩ := Option.map_eq_some_iff.mp hx
    have hi : i < s0.cnt + 1 := by
      have := (List.getElem?_eq_some_iff.mp hk).1
      rw [upto_len] at this
      exact this
    rw [upto_at hi, Nat.zero_add] at hk
    obtain rfl := Option.some.inj hk
    obtain ⟨y, hy⟩ : ∃ y, ([V.ref p] ++ us)[i]? = some y := ⟨_, List.getElem?_eq_getElem (by rw [hws]; exact hi)⟩
    have hval := rowsK_val (i := 0) hy
    rw [Nat.zero_add] at hval
    have g4 : H4 dp = some (.dK (rowsK 0 ([V.ref p] ++ us))) := e _ _ (ePs _ _ g2)
    refine ⟨rfl, ?_⟩
    repeat' (first | specialize "st" | fail)
    refine q_dgetI g4 hval ?_
    refine ⟨_, h1, sl1000' (by rw [List.length_take]; omega), fun b u hb => ?_, ?_⟩
    · rw [upd_ne (ne_of_none hb hD)]
      exact e _ _ hb
    · rw [List.take_add_one, hy]
      exact upd_same
  · rintro H4 ⟨e, h1⟩
    rw [List.length_map, upto_len, ← hws, List.take_length] at h1
    have e4 : Ex H2 H4 := ePs.trans e
    exact q D _ _ (k2'.trans e4) (free_back (k2'.trans ePs) hD) h1 (.cons ⟨p, rfl, e4 _ _ hn2⟩ (prs_kp (M := []) e4.kp P2)) hws
/-! the rows are the same, part by part -/
def okV (v : V) : Prop := v = .non ∨ (∃ i, v = .int i) ∨ ∃ a, v = .ref a
theorem sm0_ok {K : PySem.W.Frag} {H : Hp} {v : V} (h : okV v) : Sm K H 0 v v := by
  rcases h with rfl | ⟨i, rfl⟩ | ⟨a, rfl⟩
  · exact .inl ⟨rfl, rfl⟩
  · exact .inl ⟨rfl, rfl⟩
  · exact .inr ⟨a, rfl, rfl⟩
theorem Sx.In.isRef {M : List Addr} {H : Hp} {s : Sx} {v : V} (h : s.In M H v) : ∃ a, v = .ref a := by
  cases s with
  | skip => obtain ⟨p, e, _⟩ := h; exact ⟨p, e⟩
  | stop => obtain ⟨p, e, _⟩ := h; exact ⟨p, e⟩
  | set _ _ => obtain ⟨p, _, _, e, _⟩ := h; exact ⟨p, e⟩
  | give _ _ => obtain ⟨p, _, e, _⟩ := h; exact ⟨p, e⟩
  | take _ _ => obtain ⟨p, _, e, _⟩ := h; exact ⟨p, e⟩
  | ife _ _ _ => obtain ⟨p, _, _, _, e, _⟩ := h; exact ⟨p, e⟩
  | rep _ _ _ => obtain ⟨p, _, _, e, _⟩ := h; exact ⟨p, e⟩
  | seq _ => obtain ⟨p, _, _, e, _⟩ := h; exact ⟨p, e⟩
  | par _ => obtain ⟨p, _, _, e, _⟩ := h; exact ⟨p, e⟩
  | alt _ => obtain ⟨p, _, _, e, _⟩ := h; exact ⟨p, e⟩
theorem brsL_ok {R : Sx → V → V → List (V × V) → Prop} (h : ∀ s v p l, R s v p l → okV p → ∀ x ∈ l, okV x.1 ∧ okV x.2) : ∀ {ss : List Sx} {vs : List V} {p : V} {l : List (V × V)}, BrsL R ss vs p l → okV p → ∀ x ∈ l, okV x.1 ∧ okV x.2
  | [], _, _, _, ⟨_, e⟩, _, x, hx => by rw [e] at hx; cases hx
  | s :: ss, _, p, _, ⟨v, ws, l1, l2, _, e, a, b⟩, hp, x, hx => by
    rw [e] at hx
    rcases List.mem_append.mp hx with hx | hx
    · exact h _ _ _ _ a hp x hx
    · exact brsL_ok h b hp x hx
theorem brsP_ok {H : Hp} {R : Sx → V → V → List (V × V) → Prop} (h : ∀ s v p l, R s v p l → okV v ∧ (okV p → ∀ x ∈ l, okV x.1 ∧ okV x.2)) : ∀ {ss : Ps} {vs : List V} {p : V} {l : List (V × V)}, BrsP H R ss vs p l → okV p → ∀ x ∈ l, okV x.1 ∧ okV x.2
  | .nil, _, _, _, ⟨_, e⟩, _, x, hx => by rw [e] at hx; cases hx
  | .cons t s r, _, p, _, ⟨q, y, ys, l1, l2, _, _, e, a, b⟩, hp, x, hx => by
    rw [e] at hx
    rcases List.mem_cons.mp hx with rfl | hx
    · exact ⟨hp, (h _ _ _ _ a).1⟩
    rcases List.mem_append.mp hx with hx | hx
    · exact (h _ _ _ _ a).2 (.inr (.inl ⟨t, rfl⟩)) x hx
    · exact brsP_ok h b hp x hx
theorem brs_ok {M : List Addr} {H : Hp} : ∀ {n : Nat} {s : Sx} {v p : V} {l : List (V × V)}, Brs M H n s v p l → okV v ∧ (okV p → ∀ x ∈ l, okV x.1 ∧ okV x.2)
  | 0, _, _, _, _, h => h.elim
  | n + 1, s, v, p, l, ⟨i, h⟩ => by
    refine ⟨.inr (.inr i.isRef), fun hp => ?_⟩
    rcases h with ⟨ps, q, l0, xs, _, _, _, _, _, b⟩ | ⟨_, pl, _, b⟩
    · exact brsP_ok (fun _ _ _ _ z => brs_ok (n := n) z) b hp
    · exact brsL_ok (fun _ _ _ _ z => (brs_ok (n := n) z).2) b hp
theorem prs_sm {K : PySem.W.Frag} {H : Hp} : ∀ {l : List (V × V)} {us ws : List V}, (∀ x ∈ l, okV x.1 ∧ okV x.2) → Prs H us l → Prs H ws l → Paired (Sm K H 1) us ws
  | [], _, _, _, .nil, .nil => .nil
  | x :: l, _, _, h, .cons ⟨q, e, a⟩ t, .cons ⟨q', e', a'⟩ t' => by
    subst e
    subst e'
    obtain ⟨o1, o2⟩ := h x (List.mem_cons_self ..)
    exact .cons (.inr ⟨q, q', _, _, rfl, rfl, .inr ⟨sqt a, sqt a'⟩, .cons (sm0_ok o1) (.cons (sm0_ok o2) .nil)⟩) (prs_sm (fun y hy => h y (List.mem_cons_of_mem _ hy)) t t')
/-! ### own errors -/
section
variable (P : Program) (w : World) (K : PySem.W.Frag) (mg : Str → Option Value) (base : Heap)
/-- an own error class with one field, as it stands behind the top -/
structure ErrC (x : Str) (C : Addr) (fl : Str) : Prop where
  gC : mg x = some (.ref C)
  ox : OexC K C
  xf : XfC K C
  no : PySem.W.findIn K (.ref C) fl = some none
  cl : (PySem.W.clsIn K C).isSome = true
  ca : PySem.W.findIn K (.ref C) "__class__" = some (some (.builtin "object.__class__"))
  gn : PySem.W.specialIn K (.builtin "object.__class__") "__get__" = some (some (.builtin "getset_descriptor.__get__"))
  tk : PySem.W.takesIn K (.builtin "object.__class__") = some true
  mo : PySem.W.mroIn K C (.type "object") = some true
/-- .. its __init__ -/
def DnE (q : Str) (C : Addr) (st : Stmt) (ps : List Str) : Prop := ∃ f fd, PySem.W.findIn K (.ref C) "__init__" = some (some (.ref f)) ∧ PySem.W.typeIn K (.ref f) = some (.type "function") ∧ Fun K "__init__" q st f fd ∧ Binds K fd ps []
def MakE (C : Addr) (k : Nat) (ps : List Str) (sp : Sp) : Prop := ∃ f fd, PySem.W.findIn K (.ref C) "__init__" = some (some (.ref f)) ∧ PySem.W.typeIn K (.ref f) = some (.type "function") ∧ FnOk P w K mg base CX0 k f fd ps sp ∧ Binds K fd ps []
/-- a def that may raise and keeps its promise -/
def CalX (x : Str) (k : Nat) (ps : List Str) (sp : Sp) : Prop := ∃ f fd, FnOk P w K mg base (L2.CX P w) k f fd ps sp ∧ mg x = some (.ref f) ∧ PySem.W.keepIn K (.ref f) = true ∧ Binds K fd ps []
end
section
variable {P : Program} {w : World} {K : PySem.W.Frag} {mg : Str → Option Value} {base : Heap}
theorem DnE.ok {q : Str} {C : Addr} {st : Stmt} {N ps : List Str} {k : Nat} {sp : Sp} (D : DnE K q C st ps) (S : FnScope N ps (defScope st)) (len : ∀ vs H Q E, sp vs H Q E → vs.length = ps.length)
    (hbody : ∀ (f : Addr) (cdv : Value) (A : Around) (outer : List Env) (s : Shared) (H : Hp) (vs : List V) (Q : VK) (E : XK), Room k (A.deeper (PyProof.Rows.envOfC q (defScope st) s.heap.objs.size f cdv)) → sp vs H Q E →
      ∃ t, PSs (cxOf CX0 P w K mg base N q (defScope st) f cdv A outer s H E).nox (defBody st) t ∧ t { nx := fun _ H' => Q .non H', rt := Q } (start N vs) H) : MakE P w K mg base C (k + 1) ps sp := by
  obtain ⟨f, fd, i, t, F, b⟩ := D
  exact ⟨f, fd, i, t, F.ok S len (hbody f), b⟩
theorem Dn.okX {x : Str} {st : Stmt} {N ps : List Str} {k : Nat} {sp : Sp} (D : Dn K mg x st ps) (S : FnScope N ps (defScope st)) (len : ∀ vs H Q E, sp vs H Q E → vs.length = ps.length)
    (hbody : ∀ (f : Addr) (cdv : Value) (A : Around) (outer : List Env) (s : Shared) (H : Hp) (vs : List V) (Q : VK) (E : XK), Room k (A.deeper (PyProof.Rows.envOfC x (defScope st) s.heap.objs.size f cdv)) → sp vs H Q E →
      ∃ t, PSs (cxOf (L2.CX P w) P w K mg base N x (defScope st) f cdv A outer s H E) (defBody st) t ∧ t { nx := fun _ H' => Q .non H', rt := Q } (start N vs) H) : CalX P w K mg base x (k + 1) ps sp := by
  obtain ⟨f, fd, F, m, b⟩ := D
  exact ⟨f, fd, F.okX S len (hbody f), m, F.kp, b⟩
theorem pe_calX {X : Cx} {x : Str} {k : Nat} {ps : List Str} {sp : Sp} {W : WX} {e : Expr} {es : List Expr} {t : TA} {p pos : Pos} (G : CalX X.prog X.w X.K X.mg X.base x k ps sp) (hr : Room k X.A) (hg : Gl X x) (tk : Takes X W) (ha : PA X (e :: es) t)
    (hdb : (x == ("__debug__" : Str)) = false := by decide) (he : starEach (e :: es) X.env = (false, eval e X.env) :: starEach es X.env := by rfl) (hpl : (backTo pos (starEach es X.env)).any (·.1) = false := by rfl) : PE X (.Call (.Name x p) (e :: es) [] pos) (tCallS sp (WE W) t) := by
  obtain ⟨f, fd, F, m, kp, b⟩ := G
  exact pe_callS F hr hg m kp b (fun σ => passAt tk σ) ha hdb he hpl
theorem takes_def {N : List Str} {x : Str} {sc : Scope} {f : Addr} {cdv : Value} {A : Around} {outer : List Env} {s : Shared} {H : Hp} {E : XK} : Takes (cxOf (L2.CX P w) P w K mg base N x sc f cdv A outer s H E) (fun cls d _ H => E cls d H) := takes_of rfl rfl rfl rfl
theorem passes_def {N : List Str} {x : Str} {sc : Scope} {f : Addr} {cdv : Value} {A : Around} {outer : List Env} {s : Shared} {H : Hp} {E : XK} : PassesOwn (model P w) (cxOf (L2.CX P w) P w K mg base N x sc f cdv A outer s H E).A (cxOf (L2.CX P w) P w K mg base N x sc f cdv A outer s H E).env (cxOf (L2.CX P w) P w K mg base N x sc f cdv A outer s H E).xe := passes_of rfl
theorem hum {A : Around} {k : Nat} {x : Option Value} (hr : Room k A) : (A.mark x).units + 64 < cLine := by
  have h := hu64 hr
  exact h
/-- arguments, with what follows weakened -/
def clo (ta : TA) : TA := fun σ H Q => ∃ Q1 : List V → Hp → Prop, ta σ H Q1 ∧ ∀ vs H1, Q1 vs H1 → Q vs H1
theorem pa_clo {X : Cx} {es : List Expr} {ta : TA} (h : PA X es ta) : PA X es (clo ta) := ⟨fun pos pins s σ H Q I ⟨Q1, h1, k⟩ => thn (h.run pos pins s σ H Q1 I h1) fun us s1 ⟨vs, H1, I1, r, q⟩ => ⟨vs, H1, I1, r, k _ _ q⟩⟩
/-- what the making of an own error hands on -/
def errK (C : Addr) (fl : Str) (Q : XK) (vs : List V) (H : Hp) : Prop := ∃ v, vs = [v] ∧ ∀ d H2, H d = none → Ex H H2 → H2 d = some (.xd [(fl, v)]) → Q (.ref C) (some d) H2
def tErr (C : Addr) (fl : Str) (ta : TA) : L2.St → Hp → XK → Prop := fun σ H Q => ta σ H fun vs H1 => errK C fl Q vs H1
def sp_einit (C : Addr) (fl : Str) : Sp := fun vs H Q _ => ∃ (a : Addr) (v : V), vs = [.ref a, v] ∧ H a = some (exo a C none) ∧ ∀ dx, H dx = none → dx ≠ a → Q .non (upd (upd H dx (exd dx [(fl, v)])) a (exo a C (some dx)))
theorem pmk_err {X : Cx} {x fl : Str} {C : Addr} {k : Nat} {ps : List Str} {e : Expr} {es : List Expr} {ta : TA} {p pos : Pos} (T : ErrC X.K X.mg x C fl) (G : MakE X.prog X.w X.K X.mg X.base C k ps (sp_einit C fl)) (hr : Room (k + 1) X.A) (hg : Gl X x) (ha : PA X (e :: es) ta)
    (hdb : (x == ("__debug__" : Str)) = false := by decide) (he : starEach (e :: es) X.env = (false, eval e X.env) :: starEach es X.env := by rfl) (hpl : (backTo pos (starEach es X.env)).any (·.1) = false := by rfl) : PMk X (.Call (.Name x p) (e :: es) [] pos) (tErr C fl ta) := by
  obtain ⟨f, fd, i, t, F, b⟩ := G
  intro pins s σ H Q I h
  refine pmk_oex T.ox i t F hr b .nil pass0 hg T.gC (pa_clo ha) hdb he hpl pins s σ H Q I ⟨_, h, ?_⟩
  rintro vs H1 ⟨v, rfl, q⟩
  refine ⟨(by show 1 ≤ 1000; decide), fun a ha => ⟨a, v, rfl, upd_same, fun dx n ne => ⟨rfl, dx, [(fl, v)], upd_same, ?_, ?_, ?_⟩⟩⟩
  · rw [upd_ne ne]
    exact upd_same
  · rw [upd_ne ne] at n
    exact n
  · rw [upd_ne ne] at n
    refine q dx _ n (fun b o hb => ?_) upd_same
    rw [upd_ne (ne_of_none hb n), del_ne (ne_of_none hb ha), upd_ne (ne_of_none hb ha), upd_ne (ne_of_none hb n), upd_ne (ne_of_none hb ha)]
    exact hb
/-- raise C(e) -/
def tRaiseE (C : Addr) (fl : Str) (W : WX) (ta : TA) : TS := fun _ σ H => tErr C fl ta σ H fun cls d H' => W cls d σ H'
theorem ps_err {X : Cx} {x fl : Str} {C : Addr} {k : Nat} {ps : List Str} {W : WX} {e : Expr} {ta : TA} {p pos pos' : Pos} (hc : X.calm = true) (tk : Takes X W) (T : ErrC X.K X.mg x C fl) (G : MakE X.prog X.w X.K X.mg X.base C k ps (sp_einit C fl)) (hr : Room (k + 1) X.A) (hg : Gl X x) (ha : PA X [e] ta)
    (hdb : (x == ("__debug__" : Str)) = false := by decide) (he : starEach [e] X.env = (false, eval e X.env) :: starEach [] X.env := by rfl) (hpl : (backTo pos (starEach [] X.env)).any (·.1) = false := by rfl) :
    PS X (.Raise (some (.Call (.Name x p) [e] [] pos)) none pos') (tRaiseE C fl W ta) := ps_raise hc tk (pmk_err T G hr hg ha hdb he hpl)
/-- e.f, e the error that the suite holds -/
def tXfE (K : PySem.W.Frag) (a : Addr) (cls : Value) (d : Option Addr) (f : Str) (te : TE) : TE := fun σ H Q => ∃ C, XfC K C ∧ PySem.W.findIn K (.ref C) f = some none ∧ tXf a cls d C f te σ H Q
theorem pe_xfE {X : Cx} {a : Addr} {oe : Obj} {cls : Value} {d : Option Addr} {pn : List (Addr × Obj)} {e : Expr} {te : TE} {pos : Pos} {n : Str} (hz : Zc cls d oe) (hf : ∃ vs, oe.data = .fields vs) (he : PE (X.suite a ((a, oe) :: pn)) e te)
    (hb : attributeBase e n X.env (eval e X.env) = eval e X.env := by rfl) : PE (X.suite a ((a, oe) :: pn)) (.Attribute e n pos) (tXfE X.K a cls d n te) :=
  ⟨fun pins s σ H Q I ⟨_, x, no, h⟩ => (pe_xf x no hz hf he hb).run pins s σ H Q I h⟩
/-- isinstance(e, c) of it -/
def rIsX (K : PySem.W.Frag) (a : Addr) (cls : Value) (d : Option Addr) : List V → Hp → VK → Prop := fun xs H Q => ∃ (D dd : Addr) (x fl : Str) (mg : Str → Option Value) (fs : List (Str × V)) (c : V) (cv : Value) (b : Bool), cls = .ref D ∧ d = some dd ∧ ErrC K mg x D fl ∧ H dd = some (.xd fs) ∧ xs = [.ref a, c] ∧ (∀ u, RelV c u → u = cv) ∧
  PySem.W.kitOne K (.ref D) cv = some b ∧ Q (.bl b) H
theorem call_isX {X : Cx} {a : Addr} {oe : Obj} {cls : Value} {d : Option Addr} {pn : List (Addr × Obj)} (hz : Zc cls d oe) (hf : ∃ vs, oe.data = .fields vs) : CallR (X.suite a ((a, oe) :: pn)) (.builtin "isinstance") (rIsX X.K a cls d) := by
  intro pins s σ H xs us Q I r h
  obtain ⟨D, dd, x, fl, mg, fs, c, cv, b, rfl, rfl, T, hdd, rfl, hcv, e, q⟩ := h
  cases r with
  | cons rx rr =>
    cases rr with
    | cons rt rr =>
      cases rr
      cases rx
      obtain rfl := hcv _ rt
      have hp := (I.pin (a, oe) (List.mem_append_left _ List.mem_cons_self)).1
      obtain ⟨vs, hv⟩ := hf
      have hx : ObjOk X.prog X.w H s.heap dd (.xd fs) := I.hok dd _ hdd
      obtain ⟨mA, hns, _⟩ := hx
      obtain ⟨od, ho, _⟩ := lookIn_ns hns
      have J : PySem.W.InstAt s.heap a oe D (some od) := ⟨hp, hz.1, by unfold PySem.W.notCls; rw [hv], by rw [hz.2]; exact ho⟩
      exact PySem.W.kia_one (PySem.W.kitx_exc T.cl T.xf.ga T.xf.gg T.xf.exC T.ca T.gn T.tk T.mo) I.kIn J e (fun z => nomatch z) fun tk => ⟨.bl b, H, I.kept (t' := tk) fun _ _ z => z, rfl, q⟩
theorem exm_own {C D : Addr} (hs : PySem.W.subIn K (.ref D) (.type "BaseException") = some true) (hi : PySem.W.isClsIn K D = true) (ht : PySem.W.typeIn K (.ref D) = some (.type "type")) {b : Bool} (h : PySem.W.subIn K (.ref C) (.ref D) = some b) : PySem.W.exmOne K (.ref C) (.ref D) = some b := by
  have e1 : (PySem.W.subIn K (.ref D) (.type "BaseException") == some true) = true := by rw [hs]; rfl
  have h2 : (PySem.W.clsIn K D).isSome = true := hi
  have e2 : ((PySem.W.clsIn K D).isSome && PySem.W.typeIn K (.ref D) == some (.type "type")) = true := by rw [h2, ht]; rfl
  show (if _ then (if _ then _ else none) else none) = some b
  rw [if_pos e1, if_pos e2]
  exact h
end
section
variable {K : PySem.W.Frag} {σ : L2.St} {H : Hp} {Q : VK} {te : TE} {tr : TA} {C : Addr} {fl : Str} {W : WX} {D : Ends}
theorem r_callS {sp : Sp} (q : tr σ H fun vs H1 => sp vs H1 Q (WE W σ)) : tCallS sp (WE W) tr σ H Q := q
def raiK (C : Addr) (fl : Str) (W : WX) (σ : L2.St) (vs : List V) (H : Hp) : Prop := errK C fl (fun cls d H' => W cls d σ H') vs H
theorem r_raise (q : tr σ H fun vs H1 => raiK C fl W σ vs H1) : tRaiseE C fl W tr D σ H := q
theorem q_raise {v : V} (q : ∀ d H2, H d = none → Ex H H2 → H2 d = some (.xd [(fl, v)]) → W (.ref C) (some d) σ H2) : raiK C fl W σ [v] H := ⟨v, rfl, q⟩
theorem r_try {tb : WX → TS} {W : Ends → WX} (q : tb (W D) D σ H) : (fun D σ H => tb (W D) D σ H) D σ H := q
def xfK (K : PySem.W.Frag) (a : Addr) (cls : Value) (d : Option Addr) (f : Str) (Q : VK) (x : V) (H : Hp) : Prop := x = .ref a ∧ ∃ (C dd : Addr) (fs : List (Str × V)) (v : V), cls = .ref C ∧ XfC K C ∧ PySem.W.findIn K (.ref C) f = some none ∧ d = some dd ∧ H dd = some (.xd fs) ∧ fs.lookup f = some v ∧ Q v H
theorem q_isX {a D dd : Addr} {x fl : Str} {mg : Str → Option Value} {fs : List (Str × V)} {c : V} {cv : Value} {b : Bool} (T : ErrC K mg x D fl) (h : H dd = some (.xd fs)) (hc : ∀ u, RelV c u → u = cv) (e : PySem.W.kitOne K (.ref D) cv = some b) (q : Q (.bl b) H) :
    rIsX K a (.ref D) (some dd) [.ref a, c] H Q := ⟨D, dd, x, fl, mg, fs, c, cv, b, rfl, rfl, T, h, rfl, hc, e, q⟩
/-- e.f where e stands in a slot -/
theorem q_xfE {a C dd : Addr} {f : Str} {fs : List (Str × V)} {v : V} {i : Nat} (hi : σ[i]? = some (some (.ref a))) (x : XfC K C) (no : PySem.W.findIn K (.ref C) f = some none) (h : H dd = some (.xd fs)) (l : fs.lookup f = some v) (q : Q v H) : tXfE K a (.ref C) (some dd) f (tVar i) σ H Q :=
  ⟨C, x, no, .ref a, hi, rfl, rfl, dd, fs, v, rfl, h, l, q⟩
end
local macro_rules | `(tactic| injection "own") => `(tactic| with_reducible refine q_raise ?_)
local macro_rules | `(tactic| injection "own") => `(tactic| with_reducible refine r_raise ?_)
local macro_rules | `(tactic| injection "own") => `(tactic| with_reducible refine r_callS ?_)
/-! ### for i, x in enumerate(xs), xs[:k] -/
theorem w_enum {K : PySem.W.Frag} {g : TG} {ts : Ends → L2.St → Hp → Prop} {nx : L2.St → Hp → Prop} {rt : VK} {σ : L2.St} {H : Hp} {a : Addr} {xs : List V} (Pv : Nat → L2.St → Hp → Prop) (h0 : Pv 0 σ H) (hl : ∀ i σ H, i ≤ xs.length → Pv i σ H → SqL K H a xs)
    (hs : ∀ i x T σ H, xs[i]? = some x → Pv i σ H → H T = none → g (.ref T) σ (upd H T (.tup [.int (i : Nat), x])) fun σ2 H2 => ts ⟨Pv (i + 1), rt, nx, Pv (i + 1)⟩ σ2 H2) (hd : ∀ σ H, Pv xs.length σ H → nx σ H) :
    ∃ W : Nat → Nat → L2.St → Hp → Prop, (∃ m, W 0 m σ H) ∧ ∀ i m σ H, W i m σ H →
      ((Ite K a).stop i H ∧ nx σ H) ∨ ((Ite K a).go i H ∧ ∃ N : L2.St → Hp → Prop, (∀ σ' H', N σ' H' → ∃ m', m' < m ∧ W (i + 1) m' σ' H') ∧ ∀ x H', (Ite K a).yld i H x H' → g x σ H' fun σ2 H2 => ts ⟨N, rt, nx, N⟩ σ2 H2) :=
  for_it (D := ⟨nx, rt, nx, nx⟩) walk_enum Pv h0 hl (fun i x σ H H' _ p y => by
    obtain ⟨T, u, v, h1, h2, h3, h4, h5⟩ := y
    subst h1
    subst h3
    cases h4
    exact hs i v T σ H h5 p h2) hd
theorem r_iEnum {K : PySem.W.Frag} {ta : TA} {σ : L2.St} {H : Hp} {R : It → Hp → Prop} (q : ta σ H fun vs H1 => ∃ a xs, vs = [.ref a] ∧ SqL K H1 a xs ∧ R (Ite K a) H1) : iEnum K ta σ H R := q
theorem q_iEnum {K : PySem.W.Frag} {H : Hp} {a : Addr} {xs : List V} {B : Addr → Prop} (h : SqL K H a xs) (q : B a) : ∃ b ys, [V.ref a] = [.ref b] ∧ SqL K H b ys ∧ B b := ⟨a, xs, rfl, h, q⟩
theorem cut_to (xs : List V) {k : Nat} (h : k ≤ xs.length) : cutV xs none (some (k : Int)) = xs.take k := by
  unfold cutV
  rw [HT.sIx_none, HT.sIx_nat, List.drop_zero, Nat.sub_zero, Nat.min_eq_left h]
theorem q_slTo {p : Addr} {xs : List V} {k : Nat} {H : Hp} {Q : VK} (h : SqL K H p xs) (hk : k ≤ xs.length) (q : ∀ p Hn, H p = none → Ex H Hn → Hn p = some (.lst (xs.take k)) → Q (.ref p) Hn) : rSlA K (.ref p) none (some (k : Int)) H Q :=
  .inl ⟨p, xs, rfl, h, fun p hp => q p _ hp (Ex.mk hp rfl) (by rw [upd_same, cut_to _ hk])⟩
theorem paired_take {α β : Type} {F : α → β → Prop} : ∀ {xs : List α} {ys : List β} (k : Nat), Paired F xs ys → Paired F (xs.take k) (ys.take k)
  | _, _, 0, _ => by rw [List.take_zero, List.take_zero]; exact .nil
  | _, _, _ + 1, .nil => .nil
  | _, _, k + 1, .cons a t => .cons a (paired_take k t)
theorem take_snoc {α : Type} {xs : List α} {i : Nat} {z : α} (h : xs[i]? = some z) {x : α} : x ∈ xs.take (i + 1) ↔ x ∈ xs.take i ∨ x = z := by
  rw [List.take_add_one, h, List.mem_append]
  simp only [Option.toList_some, List.mem_singleton]
theorem kp_fresh2 {M : List Addr} {H G G' : Hp} {D : Addr} (k : Kp M H G) (kD : Kp [D] G G') (h : H D = none) : Kp M H G' := kp_fresh k kD fun x hx => .inr (by rw [List.mem_singleton.mp hx]; exact h)
/-! ### the plain stepper, without the stores of base -/
local macro_rules | `(tactic| subst "st0") => `(tactic| subst "own0")
local macro_rules | `(tactic| subst "st0") => `(tactic| subst "new")
local macro_rules | `(tactic| subst "st0") => `(tactic| ((with_reducible refine q_ixL (xs := ?xs) (v := ?v) ?h ?a ?_); (case h => exists "sq"); (case a => first | exact rfl | exact at0 | assumption)))
local macro_rules | `(tactic| subst "st0") => `(tactic| ((with_reducible refine q_notNN ?h ?_); (case h => intro z; cases z)))
local macro_rules | `(tactic| subst "st0") => `(tactic| with_reducible refine q_notNY rfl ?_)
local macro_rules | `(tactic| subst "st0") => `(tactic| ((with_reducible refine q_isNN ?h ?_); (case h => intro z; cases z)))
local macro_rules | `(tactic| subst "st0") => `(tactic| with_reducible refine q_isNY rfl ?_)
local macro_rules | `(tactic| subst "st0") => `(tactic| subst "q")
local macro_rules | `(tactic| subst "st0") => `(tactic| ((with_reducible refine q_rng2 ?h ?_); (case h => refine And.intro ?_ (And.intro ?_ (And.intro ?_ ?_)) <;> omega)))
local macro_rules | `(tactic| subst "st0") => `(tactic| ((with_reducible refine q_rng1 ?h ?_); (case h => subst "ar")))
local macro_rules | `(tactic| subst "st0") => `(tactic| ((with_reducible refine q_iT (xs := ?xs) ?h ?_); (case h => exists "sq")))
local macro_rules | `(tactic| subst "st0") => `(tactic| ((with_reducible refine q_iL (xs := ?xs) ?h ?_); (case h => exists "sq")))
local macro_rules | `(tactic| subst "st0") => `(tactic| (with_reducible refine r_disp ?_; subst "i_disp"))
local macro_rules | `(tactic| subst "st0") => `(tactic| ((with_reducible refine q_inLN (xs := ?xs) ?h ?e ?_); (case h => exists "sq"); (case e => first | decide +kernel | rfl)))
local macro_rules | `(tactic| subst "st0") => `(tactic| ((with_reducible refine q_inLY (xs := ?xs) ?h ?e ?_); (case h => exists "sq"); (case e => first | decide +kernel | rfl)))
local macro_rules | `(tactic| subst "st0") => `(tactic| ((with_reducible refine q_inTN (xs := ?xs) ?h ?e ?_); (case h => exists "sq"); (case e => first | decide +kernel | rfl)))
local macro_rules | `(tactic| subst "st0") => `(tactic| ((with_reducible refine q_inTY (xs := ?xs) ?h ?e ?_); (case h => exists "sq"); (case e => first | decide +kernel | rfl)))
local macro_rules | `(tactic| subst "st0") => `(tactic| ((with_reducible refine q_lenT (xs := ?xs) ?h ?_); (case h => exists "sq")))
local macro_rules | `(tactic| subst "st0") => `(tactic| ((with_reducible refine q_lenL (xs := ?xs) ?h ?_); (case h => exists "sq")))
local macro_rules | `(tactic| subst "st0") => `(tactic| ((with_reducible refine q_ixT (xs := ?xs) (v := ?v) ?h ?a ?_); (case h => exists "sq"); (case a => exact rfl)))
local macro_rules | `(tactic| subst "st0") => `(tactic| with_reducible refine q_I0 ?_)
local macro_rules | `(tactic| subst "st0") => `(tactic| ((with_reducible refine q_I ?c ?_); (case c => subst "ar")))
local macro_rules | `(tactic| subst "st0") => `(tactic| (with_reducible refine q_cmp (fun c => ?_) (fun c => ?_)))
local macro_rules | `(tactic| subst "st0") => `(tactic| ((with_reducible refine q_cmpN ?h ?_); (case h => subst "arx")))
local macro_rules | `(tactic| subst "st0") => `(tactic| ((with_reducible refine q_cmpY ?h ?_); (case h => subst "arx")))
local macro_rules | `(tactic| subst "st0") => `(tactic| (with_reducible refine q_neS (fun c => ?_) (fun c => ?_)))
local macro_rules | `(tactic| subst "st0") => `(tactic| (with_reducible refine q_neI (fun c => ?_) (fun c => ?_)))
local macro_rules | `(tactic| subst "st0") => `(tactic| ((with_reducible refine q_neN ?s ?e ?_); (case e => first | exact rfl | decide +kernel); (case s => rfl)))
local macro_rules | `(tactic| subst "st0") => `(tactic| ((with_reducible refine q_neY ?s ?e ?_); (case e => decide +kernel); (case s => rfl)))
local macro_rules | `(tactic| subst "st0") => `(tactic| (with_reducible refine q_eqS (fun c => ?_) (fun c => ?_)))
local macro_rules | `(tactic| subst "st0") => `(tactic| (with_reducible refine q_eqI (fun c => ?_) (fun c => ?_)))
local macro_rules | `(tactic| subst "st0") => `(tactic| ((with_reducible refine q_eqN ?s ?e ?_); (case e => subst "ne"); (case s => rfl)))
local macro_rules | `(tactic| subst "st0") => `(tactic| ((with_reducible refine q_eqN ?s ?e ?_); (case e => decide +kernel); (case s => rfl)))
local macro_rules | `(tactic| subst "st0") => `(tactic| ((with_reducible refine q_eqY ?s ?e ?_); (case e => first | exact rfl | decide +kernel); (case s => rfl)))
local macro_rules | `(tactic| subst "st0") => `(tactic| ((with_reducible refine q_dget (kvs := ?kvs) (v := ?v) ?h ?l ?_); (case h => exists "lift"); (case l => first | assumption | rfl)))
local macro_rules | `(tactic| subst "st0") => `(tactic| ((with_reducible refine r_gtup (xs := ?xs) ?h ?l ?_); (case h => exists "sq"); (case l => rfl)))
local macro_rules | `(tactic| subst "st0") => `(tactic| ((with_reducible refine r_var (v := ?v) ?h ?_); (case h => exact rfl)))
local macro_rules | `(tactic| subst "st0") => `(tactic| ((with_reducible refine r_aug (v := ?v) ?h ?_); (case h => exact rfl)))
local macro_rules | `(tactic| subst "st0") => `(tactic| with_reducible refine Stp.go ?_)
local macro_rules | `(tactic| subst "own0") => `(tactic| with_reducible refine q_raise ?_)
local macro_rules | `(tactic| subst "own0") => `(tactic| with_reducible refine r_raise ?_)
local macro_rules | `(tactic| subst "own0") => `(tactic| with_reducible refine r_callS ?_)
/-! ### min of a list of pairs of ints (tuples): the comparison looks at the heap, so the loop is walked here with what stands there -/
def ltP (p q : Int × Int) : Bool := if p.1 = q.1 then decide (p.2 < q.2) else decide (p.1 < q.1)
theorem ltP_tr {p q r : Int × Int} (h1 : ltP p q = true) (h2 : ltP r q = false) : ltP r p = false := by
  unfold ltP at *
  split at h1 <;> split at h2 <;> split <;> simp only [decide_eq_true_eq, decide_eq_false_iff_not] at * <;> omega
theorem ltP_irr (p : Int × Int) : ltP p p = false := by simp [ltP]
theorem best_ltP (f : Nat → Int × Int) : ∀ k, PySem.argBest (fun i j => ltP (f i) (f j)) k ≤ k ∧ ∀ j, j ≤ k → ltP (f j) (f (PySem.argBest (fun i j => ltP (f i) (f j)) k)) = false
  | 0 => ⟨Nat.le_refl _, fun j hj => by rw [Nat.le_zero.mp hj]; exact ltP_irr _⟩
  | k + 1 => by
    obtain ⟨h1, h2⟩ := best_ltP f k
    unfold PySem.argBest
    cases hb : ltP (f (k + 1)) (f (PySem.argBest (fun i j => ltP (f i) (f j)) k)) with
    | true =>
      rw [if_pos rfl]
      refine ⟨Nat.le_refl _, fun j hj => ?_⟩
      by_cases e : j = k + 1
      · rw [e]; exact ltP_irr _
      · exact ltP_tr hb (h2 j (by omega))
    | false =>
      rw [if_neg Bool.false_ne_true]
      refine ⟨by omega, fun j hj => ?_⟩
      by_cases e : j = k + 1
      · rw [e]; exact hb
      · exact h2 j (by omega)
section
open PySem
variable {prog : Program} {w : World} {A : Around} {E : Value → Shared → Prop} {R : Result → Shared → Prop} {I S : Addr} {fp wr : List Addr} {n : Nat} {P : Nat → Value → Prop} {St G : Nat → Heap → Prop} {bt : Nat → Nat → Bool}
/-- what must stay of the heap for the comparison -/
structure Gd (prog : Program) (w : World) (A : Around) (wr : List Addr) (S : Addr) (P : Nat → Value → Prop) (bt : Nat → Nat → Bool) (G : Heap → Prop) : Prop where
  keep : ∀ h h', G h → (∀ b o, b ∉ wr → b ≠ S → h.get? b = some o → h'.get? b = some o) → G h'
  cmp : ∀ i j vi vj (s : Shared) (Q : Value → Shared → Prop) (E : Value → Shared → Prop), G s.heap → P i vi → P j vj → Q (.bool (bt i j)) s → wpAny (model prog w) A (richCompare .Lt vi vj) Q E s
theorem minT_loop {G : Heap → Prop} (W : Walks prog w A.in1 I fp wr n P St) (g : Gd prog w A.in1 wr S P bt G) (nf : S ∉ fp) : ∀ (k j : Nat) (s : Shared) (vb : Value) (c : Nat), n = j + 1 + k → St (j + 1) s.heap → G s.heap → P (argBest bt j) vb →
    s.heap.get? S = some (⟨.type "list", none, .seq #[vb, vb] c, #[]⟩ : Obj) → (∀ v h' tk, P (argBest bt (n - 1)) v → (∀ b o, b ∉ wr → b ≠ S → s.heap.get? b = some o → h'.get? b = some o) → R (.ok (.ret v)) { s with heap := h', toks := tk }) →
    codeAny (model prog w) A (.builtin "min.loop" ⟨[.ref I, .none, .ref S], []⟩) R s := by
  have nw : S ∉ wr := fun z => nf (W.sub _ z)
  have nm : (toString "min" ++ toString ".loop" : String) = "min.loop" := by decide
  have oth : ∀ {h : Heap} {f : Obj → Obj} {b : Addr}, b ≠ S → (h.update S f).get? b = h.get? b := fun {h f b} z => Heap.get?_update_other _ _ (Ne.symm z)
  intro k; induction k with
  | zero =>
    intro j s vb c en st hg pb hS hR
    refine codeAny_builtin F.entry_min_loop ?_; rw [Around.under_plainId F.plain_min_loop _]; show wpAny _ A.in1 (seqItems? (.ref S) >>= _) _ _ s
    refine wpAny_bind (wpAny_seqItems hS rfl ?_); show wpAny _ A.in1 (tryCatch (pyNext (.ref I)) _ >>= _) _ _ s
    refine wpAny_bind (wpAny_tryCatch (W.done s _ _ (by rw [en]; exact st) fun h1 t1 k1 => ?_)); show wpAny _ A.in1 (updateSeq S (fun _ => #[]) >>= _) _ _ _
    refine wpAny_bind (wpAny_updateSeq (k1 S _ nw hS) rfl (wpAny_bind (wpAny_letGo (wpAny_pure (hR vb _ t1 ?_ fun b o hb hs e => (oth hs).trans (k1 b o hb e))))))
    rw [en]; exact pb
  | succ k ih =>
    intro j s vb c en st hg pb hS hR
    refine codeAny_builtin F.entry_min_loop ?_; rw [Around.under_plainId F.plain_min_loop _]; show wpAny _ A.in1 (seqItems? (.ref S) >>= _) _ _ s
    refine wpAny_bind (wpAny_seqItems hS rfl ?_); show wpAny _ A.in1 (tryCatch (pyNext (.ref I)) _ >>= _) _ _ s
    refine wpAny_bind (wpAny_tryCatch (W.item (j + 1) s _ _ (by omega) st fun v h1 t1 pv st1 k1 => ?_))
    have hS1 := k1 S _ nw hS
    have hg1 : G h1 := g.keep _ _ hg fun b o hb _ e => k1 b o hb e
    show wpAny _ A.in1 (tryCatch (holding [v, v] (richCompare .Lt v vb >>= _)) _ >>= _) _ _ _; refine wpAny_bind (wpAny_tryCatch (wpAny_holding (wpAny_bind (g.cmp (j + 1) (argBest bt j) v vb _ _ _ hg1 pv pb ?_))))
    refine wpAny_bind (wpAny_holding (wpAny_truthy_bool (wpAny_bind (wpAny_letGo (wpAny_pure ?_)))))
    have ab : ∀ b, bt (j + 1) (argBest bt j) = b → argBest bt (j + 1) = if b = true then j + 1 else argBest bt j := fun b e => by simp only [argBest, e]
    cases hb : bt (j + 1) (argBest bt j) with
    | true =>
      simp only [if_true]; refine wpAny_bind (wpAny_updateSeq hS1 rfl (wpAny_bind (wpAny_letGo ?_)))
      rw [nm]; refine wpAny_pure ⟨plainId_quiet F.plain_min_loop _, ih (j + 1) _ v _ (by omega) (W.frame _ _ _ st1 fun b hf o e => (oth fun z => nf (z ▸ hf)).trans e) (g.keep _ _ hg1 fun b o _ hs e => (oth hs).trans e) (by rw [ab _ hb]; exact pv) (Heap.get?_update_self _ hS1 rfl) fun v2 h2 t2 p2 k2 => ?_⟩
      exact hR v2 h2 t2 p2 fun b o hbw hs e => k2 b o hbw hs ((oth hs).trans (k1 b o hbw e))
    | false =>
      simp only [Bool.false_eq_true, if_false]; refine wpAny_bind (wpAny_letGo ?_)
      rw [nm]; refine wpAny_pure ⟨plainId_quiet F.plain_min_loop _, ih (j + 1) _ vb c (by omega) st1 hg1 (by rw [ab _ hb]; exact pb) hS1 fun v2 h2 t2 p2 k2 => ?_⟩
      exact hR v2 h2 t2 p2 fun b o hbw hs e => k2 b o hbw hs (k1 b o hbw e)
theorem minT_first {G : Heap → Prop} (W : Walks prog w A.in1 I fp wr n P St) (g : Gd prog w A.in1 wr S P bt G) (nf : S ∉ fp) (n0 : 0 < n) {s : Shared} {c : Nat} (st : St 0 s.heap) (hg : G s.heap) (hS : s.heap.get? S = some (⟨.type "list", none, .seq #[] c, #[]⟩ : Obj))
    (hR : ∀ v h' tk, P (argBest bt (n - 1)) v → (∀ b o, b ∉ wr → b ≠ S → s.heap.get? b = some o → h'.get? b = some o) → R (.ok (.ret v)) { s with heap := h', toks := tk }) : codeAny (model prog w) A (.builtin "min.loop" ⟨[.ref I, .none, .ref S], []⟩) R s := by
  have nw : S ∉ wr := fun z => nf (W.sub _ z)
  have nm : (toString "min" ++ toString ".loop" : String) = "min.loop" := by decide
  have oth : ∀ {h : Heap} {f : Obj → Obj} {b : Addr}, b ≠ S → (h.update S f).get? b = h.get? b := fun {h f b} z => Heap.get?_update_other _ _ (Ne.symm z)
  refine codeAny_builtin F.entry_min_loop ?_; rw [Around.under_plainId F.plain_min_loop _]; show wpAny _ A.in1 (seqItems? (.ref S) >>= _) _ _ s
  refine wpAny_bind (wpAny_seqItems hS rfl ?_); show wpAny _ A.in1 (tryCatch (pyNext (.ref I)) _ >>= _) _ _ s
  refine wpAny_bind (wpAny_tryCatch (W.item 0 s _ _ n0 st fun v h1 t1 pv st1 k1 => ?_))
  have hS1 := k1 S _ nw hS
  show wpAny _ A.in1 (updateSeq S (fun _ => #[v, v]) >>= _) _ _ _; refine wpAny_bind (wpAny_updateSeq hS1 rfl ?_)
  rw [nm]; refine wpAny_pure ⟨plainId_quiet F.plain_min_loop _, minT_loop W g nf (n - 1) 0 _ v _ (by omega) (W.frame _ _ _ st1 fun b hf o e => (oth fun z => nf (z ▸ hf)).trans e) (g.keep _ _ (g.keep _ _ hg fun b o hb _ e => k1 b o hb e) fun b o _ hs e => (oth hs).trans e) pv (Heap.get?_update_self _ hS1 rfl) fun v2 h2 t2 p2 k2 => ?_⟩
  exact hR v2 h2 t2 p2 fun b o hbw hs e => k2 b o hbw hs ((oth hs).trans (k1 b o hbw e))
end
/-- a pair of ints at v -/
def TupII (H : Hp) (v : V) (p : Int × Int) : Prop := ∃ q, v = .ref q ∧ H q = some (.tup [.int p.1, .int p.2])
def rMinT : List V → Hp → VK → Prop := fun vs H Q => ∃ (a : Addr) (xs : List V) (ps : List (Int × Int)), vs = [.ref a] ∧ H a = some (.lst xs) ∧ Paired (TupII H) xs ps ∧ 0 < ps.length ∧ ∀ (i : Nat) v p, xs[i]? = some v → ps[i]? = some p → (∀ r ∈ ps, ltP r p = false) → Q v H
theorem lt_pair {A : Around} {s : Shared} {l b : Addr} {p q : Int × Int} {t1 t2 t3 t4 : PySem.Tok} (hl : s.heap.IsTuple l #[.int p.1 t1, .int p.2 t2]) (hb : s.heap.IsTuple b #[.int q.1 t3, .int q.2 t4]) (hu : A.units < cLine) : Ob.RcOp .Lt A s (.ref l) (.ref b) (ltP p q) := by
  have h := Ob.RcOp.tuples_lt (e := fun j => if j = 0 then p.1 == q.1 else p.2 == q.2) (r := fun j => if j = 0 then decide (p.1 < q.1) else decide (p.2 < q.2)) hl hb hu (fun j h1 h2 => ?_) (fun j h1 h2 _ => ?_)
  · have e : Ob.lexAt (fun j => if j = 0 then p.1 == q.1 else p.2 == q.2) (fun j => if j = 0 then decide (p.1 < q.1) else decide (p.2 < q.2)) (decide ((#[Value.int p.1 t1, Value.int p.2 t2] : Array Value).size < (#[Value.int q.1 t3, Value.int q.2 t4] : Array Value).size)) 0 (min (#[Value.int p.1 t1, Value.int p.2 t2] : Array Value).size (#[Value.int q.1 t3, Value.int q.2 t4] : Array Value).size) = ltP p q := by
      show Ob.lexAt _ _ _ 0 2 = _
      simp only [Ob.lexAt, ltP]
      by_cases c : p.1 = q.1
      · by_cases d : p.2 = q.2
        · simp [c, d]
        · simp [c, d]
      · simp [c]
    rw [e] at h
    exact h
  · have : j = 0 ∨ j = 1 := by simp at h1; omega
    rcases this with rfl | rfl
    · exact PySem.SeqAt.EqAt.int_int _ _ _ _
    · exact PySem.SeqAt.EqAt.int_int _ _ _ _
  · have : j = 0 ∨ j = 1 := by simp at h1; omega
    rcases this with rfl | rfl
    · exact Ob.RcOp.lt_int _ _ _ _
    · exact Ob.RcOp.lt_int _ _ _ _
theorem paired_len {α β : Type} {F : α → β → Prop} : ∀ {xs : List α} {ys : List β}, Paired F xs ys → xs.length = ys.length
  | _, _, .nil => rfl
  | _, _, .cons _ t => by rw [List.length_cons, List.length_cons, paired_len t]
theorem cr_minT {X : Cx} (hc : X.calm = true) (hu : X.A.units + 64 < cLine) : CallR X (.builtin "min") rMinT := by
  intro pins s σ H vs us Q I r h
  obtain ⟨a, xs, ps, rfl, hH, hp, n0, q⟩ := h
  rw [Vals.ref1 r]
  obtain ⟨z, its, nn, rv, hl, e⟩ := I.lstM hH
  have hlx := paired_len hp
  have hli := rv.length
  -- the objects of the pairs
  have ob : ∀ (i : Nat) (v : V) (p : Int × Int), xs[i]? = some v → ps[i]? = some p → ∃ (q : Addr) (t u : PySem.Tok), its[i]? = some (Value.ref q) ∧ s.heap.IsTuple q #[Value.int p.1 t, Value.int p.2 u] := by
    intro i v p hv hpi
    obtain ⟨p', hp', ht⟩ := paired_at hp hv
    have ep : p' = p := Option.some.inj (hp'.symm.trans hpi)
    subst ep
    obtain ⟨q, eq, hq⟩ := ht
    subst eq
    obtain ⟨u, hu, ru⟩ := paired_at (F := RelV) rv hv
    have eu : u = Value.ref q := ru
    subst eu
    obtain ⟨its2, r2, ht2, z2⟩ := I.tuple (SqT.of hq)
    cases r2 with
    | cons h1 r3 =>
      cases r3 with
      | cons h2 r4 =>
        cases r4
        obtain ⟨t1, e1⟩ := h1
        obtain ⟨t2, e2⟩ := h2
        subst e1
        subst e2
        exact ⟨q, t1, t2, hu, ht2⟩
  let f : Nat → Int × Int := fun i => ps.getD i (0, 0)
  let P : Nat → Value → Prop := fun i v => its.toArray[i]? = some v
  have hsz : its.toArray.size = ps.length := by rw [List.size_toArray]; omega
  have nmn : (toString "min" ++ toString ".loop" : String) = "min.loop" := by decide
  have ilt : ∀ (i : Nat) (v : Value), its.toArray[i]? = some v → i < ps.length := fun i v hv => by
    have := (Array.getElem?_eq_some_iff.mp hv).1
    omega
  let G : Heap → Prop := fun h => ∀ (i : Nat) (p : Int × Int), ps[i]? = some p → ∃ (q : Addr) (t u : PySem.Tok), its[i]? = some (Value.ref q) ∧ q < s.heap.objs.size ∧ h.IsTuple q #[Value.int p.1 t, Value.int p.2 u]
  have g0 : G s.heap := fun i p hpi => by
    have hx : i < xs.length := by rw [hlx]; exact (List.getElem?_eq_some_iff.mp hpi).1
    obtain ⟨q, t, u, h1, h2⟩ := ob i _ p (List.getElem?_eq_getElem hx) hpi
    obtain ⟨o, ho, h3⟩ := h2
    exact ⟨q, t, u, h1, Heap.lt_size ho, o, ho, h3⟩
  have gd : ∀ (I S : Addr) (wr : List Addr), (∀ b ∈ wr, s.heap.objs.size ≤ b) → s.heap.objs.size ≤ S → Gd X.prog X.w X.A.in1 wr S P (fun i j => ltP (f i) (f j)) G := fun I S wr hw hS => {
    keep := fun h h' g k i p hpi => by
      obtain ⟨q, t, u, h1, h2, o, ho, h3⟩ := g i p hpi
      exact ⟨q, t, u, h1, h2, o, k q o (fun z => Nat.lt_irrefl _ (Nat.lt_of_lt_of_le h2 (hw q z))) (fun z => Nat.lt_irrefl _ (Nat.lt_of_lt_of_le h2 (z ▸ hS))) ho, h3⟩
    cmp := fun i j vi vj s1 Q1 E1 g hi hj hq => by
      have li := ilt i vi hi
      have lj := ilt j vj hj
      obtain ⟨qi, t1, t2, h1, _, h3⟩ := g i ps[i] (List.getElem?_eq_getElem li)
      obtain ⟨qj, t3, t4, h4, _, h6⟩ := g j ps[j] (List.getElem?_eq_getElem lj)
      have ei : vi = Value.ref qi := Option.some.inj (hi.symm.trans ((List.getElem?_toArray ..).trans h1))
      have ej : vj = Value.ref qj := Option.some.inj (hj.symm.trans ((List.getElem?_toArray ..).trans h4))
      subst ei
      subst ej
      refine lt_pair h3 h6 (by show X.A.units + 1 < cLine; omega) X.prog X.w E1 Q1 ?_
      have fi : f i = ps[i] := by show ps.getD i (0, 0) = _; rw [List.getD_eq_getElem?_getD, List.getElem?_eq_getElem li]; rfl
      have fj : f j = ps[j] := by show ps.getD j (0, 0) = _; rw [List.getD_eq_getElem?_getD, List.getElem?_eq_getElem lj]; rfl
      rw [← fi, ← fj]
      exact hq }
  have hL : s.heap.IsList a its.toArray := ⟨_, e, rfl, nn, rfl⟩
  refine PySem.call_function_tree PySem.F.kind_min PySem.F.plain_min PySem.F.entry_min (PySem.F.args_min1 _) ?_; show wpAny _ X.A.in1 (Builtin.Builtins.bindParams "min" ["key", "default"] 0 ⟨[], []⟩ >>= _) _ _ s
  refine PySem.wpAny_bind (PySem.wpAny_of_eq (show Builtin.Builtins.bindParams "min" ["key", "default"] 0 ⟨[], []⟩ = pure [none, none] from rfl) (PySem.wpAny_bind (PySem.wpAny_pure (PySem.wpAny_bind (PySem.wpAny_pyIter_list hL ?_)))))
  refine PySem.wpAny_bind (PySem.wpAny_newObj_type ?_)
  have al : a < s.heap.objs.size := Heap.lt_size e
  have hs1 : ((s.heap.push (⟨.type "list_iterator", none, .fields #[.ref a, .int 0 0], #[]⟩ : Obj)).objs.size) = s.heap.objs.size + 1 := by rw [Heap.size_push]
  rw [nmn]
  refine PySem.wpAny_pure ⟨PySem.plainId_quiet PySem.F.plain_min_loop _, minT_first (Walks.list (A := X.A.in1) (I.ok.hd hc) s.heap.objs.size a (Nat.ne_of_lt al) its.toArray) (gd s.heap.objs.size _ [s.heap.objs.size] (fun b hb => by rw [List.mem_singleton.mp hb]; exact Nat.le_refl _) (by rw [hs1]; exact Nat.le_succ _)) ?_ (by rw [hsz]; exact n0) ?_ ?_ (Heap.get?_push_size _ rfl) fun v h' tk pv k => ?_⟩
  · intro hm
    rw [hs1] at hm
    rcases List.mem_cons.mp hm with z | z
    · exact Nat.succ_ne_self _ z
    · have e2 := List.mem_singleton.mp z
      rw [← e2] at al
      exact Nat.lt_irrefl _ (Nat.lt_of_succ_lt al)
  · exact ⟨⟨_, Heap.get?_push_of_some _ (Heap.get?_push_size _ rfl), rfl, rfl⟩, (hL.push _).push _⟩
  · intro i p hpi
    obtain ⟨q, t, u, h1, h2, o, ho, h3⟩ := g0 i p hpi
    exact ⟨q, t, u, h1, h2, o, Heap.get?_push_of_some _ (Heap.get?_push_of_some _ ho), h3⟩
  · have bst := best_ltP f (its.toArray.size - 1)
    generalize PySem.argBest (fun i j => ltP (f i) (f j)) (its.toArray.size - 1) = m at pv bst
    have lm := ilt m v pv
    have lx : m < xs.length := by rw [hlx]; exact lm
    obtain ⟨u, hu, ru⟩ := paired_at (F := RelV) rv (List.getElem?_eq_getElem lx)
    have eu : u = v := Option.some.inj ((hu.symm.trans (List.getElem?_toArray ..).symm).trans pv)
    subst eu
    refine ⟨xs[m], H, I.kept (t' := tk) fun b o hb => ?_, ru, q m xs[m] ps[m] (List.getElem?_eq_getElem lx) (List.getElem?_eq_getElem lm) fun r hr => ?_⟩
    · have lb := Heap.lt_size hb
      refine k b o (fun z => ?_) (fun z => ?_) (Heap.get?_push_of_some _ (Heap.get?_push_of_some _ hb))
      · rw [List.mem_singleton.mp z] at lb
        exact Nat.lt_irrefl _ lb
      · rw [z, hs1] at lb
        exact Nat.lt_irrefl _ (Nat.lt_of_succ_lt lb)
    · obtain ⟨j, hj, e2⟩ := List.mem_iff_getElem.mp hr
      have := bst.2 j (by omega)
      have fj : f j = ps[j] := by show ps.getD j (0, 0) = _; rw [List.getD_eq_getElem?_getD, List.getElem?_eq_getElem hj]; rfl
      have fm : f m = ps[m] := by show ps.getD m (0, 0) = _; rw [List.getD_eq_getElem?_getD, List.getElem?_eq_getElem lm]; rfl
      rw [fj, fm, e2] at this
      exact this
/-! ### links between vertices, told as natural numbers; a row of distances -/
abbrev Es := List (Nat × Nat)
def Adj (es : Es) (u v : Nat) : Prop := (u, v) ∈ es ∨ (v, u) ∈ es
theorem Adj.sym {es : Es} {u v : Nat} (h : Adj es u v) : Adj es v u := h.elim .inr .inl
def Val (es : Es) (n : Nat) : Prop := ∀ e ∈ es, e.1 < e.2 ∧ e.2 < n
theorem Val.adj {es : Es} {n u v : Nat} (h : Val es n) (a : Adj es u v) : u < n ∧ v < n ∧ u ≠ v := by
  rcases a with a | a
  · have := h _ a
    simp only at this
    omega
  · have := h _ a
    simp only at this
    omega
def dAt (f : List Int) (v : Nat) : Int := f.getD v (-1)
theorem dAt_in {f : List Int} {v : Nat} (h : 0 ≤ dAt f v) : v < f.length := by
  by_cases hv : v < f.length
  · exact hv
  · unfold dAt at h
    rw [List.getD_eq_getElem?_getD, List.getElem?_eq_none (by omega)] at h
    simp at h
theorem dAt_some {f : List Int} {v : Nat} (h : v < f.length) : f[v]? = some (dAt f v) := by
  unfold dAt
  rw [List.getD_eq_getElem?_getD, List.getElem?_eq_getElem h]
  rfl
theorem dAt_set {f : List Int} {v w : Nat} {x : Int} (h : w < f.length) : dAt (f.set w x) v = if v = w then x else dAt f v := by
  unfold dAt
  rw [List.getD_eq_getElem?_getD, List.getD_eq_getElem?_getD]
  by_cases e : v = w
  · subst e
    rw [if_pos rfl, List.getElem?_set_self h]
    rfl
  · rw [if_neg e, List.getElem?_set_ne (Ne.symm e)]
structure IsD (es : Es) (n g : Nat) (f : List Int) : Prop where
  len : f.length = n
  go : dAt f g = 0
  zero : ∀ v, dAt f v = 0 → v = g
  low : ∀ v, -1 ≤ dAt f v
  edge : ∀ a b, Adj es a b → 0 ≤ dAt f a → 0 ≤ dAt f b ∧ dAt f b ≤ dAt f a + 1
  pre : ∀ v, 0 < dAt f v → ∃ u, Adj es u v ∧ dAt f u = dAt f v - 1
theorem isD_step {es : Es} {n g : Nat} {f h : List Int} (F : IsD es n g f) (G : IsD es n g h) : ∀ (k : Nat) (v : Nat), (dAt f v = k → dAt h v = k) ∧ (dAt h v = k → dAt f v = k) := by
  have one : ∀ {f h : List Int}, IsD es n g f → IsD es n g h → ∀ k : Nat, (∀ j, j < k → ∀ v, (dAt f v = (j : Nat) → dAt h v = (j : Nat)) ∧ (dAt h v = (j : Nat) → dAt f v = (j : Nat))) → ∀ v, dAt f v = (k : Nat) → dAt h v = (k : Nat) := by
    intro f h F G k ih v hv
    by_cases h0 : k = 0
    · subst h0
      have := F.zero v (by simpa using hv)
      subst this
      simpa using G.go
    · obtain ⟨u, a, hu⟩ := F.pre v (by omega)
      have hu' : dAt f u = ((k - 1 : Nat) : Int) := by omega
      have gu := (ih (k - 1) (by omega) u).1 hu'
      have ge := G.edge u v a (by omega)
      by_cases e : dAt h v = k
      · exact e
      · exfalso
        have hj : dAt h v = (((dAt h v).toNat : Nat) : Int) := by omega
        have := (ih (dAt h v).toNat (by omega) v).2 hj
        omega
  intro k
  induction k using Nat.strongRecOn with
  | _ k ih => exact fun v => ⟨one F G k ih v, one G F k (fun j hj v => ⟨(ih j hj v).2, (ih j hj v).1⟩) v⟩
theorem isD_eq {es : Es} {n g : Nat} {f h : List Int} (F : IsD es n g f) (G : IsD es n g h) : f = h := by
  have at_ : ∀ v, dAt f v = dAt h v := fun v => by
    have l1 := F.low v
    have l2 := G.low v
    by_cases c : 0 ≤ dAt f v
    · have := ((isD_step F G) (dAt f v).toNat v).1 (by omega)
      omega
    · by_cases d : 0 ≤ dAt h v
      · have := ((isD_step F G) (dAt h v).toNat v).2 (by omega)
        omega
      · omega
  refine List.ext_getElem (by rw [F.len, G.len]) fun i h1 h2 => ?_
  have := at_ i
  unfold dAt at this
  rw [List.getD_eq_getElem?_getD, List.getD_eq_getElem?_getD, List.getElem?_eq_getElem h1, List.getElem?_eq_getElem h2] at this
  exact this
theorem filt_lt {α : Type} {p q : α → Bool} {w : α} : ∀ {l : List α}, (∀ x, p x = true → q x = true) → w ∈ l → q w = true → p w = false → (l.filter p).length < (l.filter q).length
  | [], _, h, _, _ => absurd h List.not_mem_nil
  | x :: l, hi, h, hq, hp => by
    have le : ∀ l : List α, (l.filter p).length ≤ (l.filter q).length := by
      intro l
      induction l with
      | nil => simp
      | cons y l ih =>
        rw [List.filter_cons, List.filter_cons]
        cases e : p y with
        | true => rw [if_pos rfl, if_pos (hi y e), List.length_cons, List.length_cons]; omega
        | false =>
          rw [if_neg Bool.false_ne_true]
          split
          · rw [List.length_cons]; omega
          · exact ih
    rw [List.filter_cons, List.filter_cons]
    rcases List.mem_cons.mp h with e | hm
    · subst e
      rw [hp, hq, if_neg Bool.false_ne_true, if_pos rfl, List.length_cons]
      have := le l
      omega
    · have ih := filt_lt hi hm hq hp
      cases e : p x with
      | true => rw [if_pos rfl, if_pos (hi x e), List.length_cons, List.length_cons]; omega
      | false =>
        rw [if_neg Bool.false_ne_true]
        split
        · rw [List.length_cons]; omega
        · exact ih
theorem isD_desc {es : Es} {n g : Nat} {f : List Int} (F : IsD es n g f) : ∀ (j : Nat) (v : Nat) (m : Nat), dAt f v = (m + j : Nat) → ∃ u, dAt f u = (m : Nat)
  | 0, v, m, h => ⟨v, by simpa using h⟩
  | j + 1, v, m, h => by
    obtain ⟨u, _, hu⟩ := F.pre v (by omega)
    exact isD_desc F j u m (by omega)
theorem isD_cnt {es : Es} {n g : Nat} {f : List Int} (F : IsD es n g f) : ∀ (k : Nat) (v : Nat), (k : Int) ≤ dAt f v → k ≤ ((List.range n).filter fun u => decide (0 ≤ dAt f u ∧ dAt f u < k)).length
  | 0, _, _ => Nat.zero_le _
  | k + 1, v, h => by
    have ih := isD_cnt F k v (by omega)
    obtain ⟨u, hu⟩ := isD_desc F ((dAt f v).toNat - k) v k (by omega)
    have ul : u < n := by
      have := dAt_in (f := f) (v := u) (by omega)
      rw [F.len] at this
      exact this
    have := filt_lt (l := List.range n) (p := fun u => decide (0 ≤ dAt f u ∧ dAt f u < k)) (q := fun u => decide (0 ≤ dAt f u ∧ dAt f u < (k + 1 : Nat))) (w := u)
      (fun x hx => by simp only [decide_eq_true_eq] at hx ⊢; omega) (List.mem_range.mpr ul) (by simp only [decide_eq_true_eq]; omega) (by simp only [decide_eq_false_iff_not]; omega)
    omega
theorem isD_lt {es : Es} {n g : Nat} {f : List Int} (F : IsD es n g f) (v : Nat) : dAt f v < n := by
  by_cases c : 0 ≤ dAt f v
  · have h1 := isD_cnt F (dAt f v).toNat v (by omega)
    have vl : v < n := by
      have := dAt_in c
      rw [F.len] at this
      exact this
    have := filt_lt (l := List.range n) (p := fun u => decide (0 ≤ dAt f u ∧ dAt f u < ((dAt f v).toNat : Nat))) (q := fun _ => true) (w := v) (fun _ _ => rfl) (List.mem_range.mpr vl) rfl (by simp only [decide_eq_false_iff_not]; omega)
    rw [List.filter_eq_self.mpr (fun _ _ => rfl), List.length_range] at this
    omega
  · omega
/-! ### the search -/
structure Srch (es : Es) (n g : Nat) (f : List Int) (q : List Nat) : Prop where
  len : f.length = n
  go : dAt f g = 0
  zero : ∀ v, dAt f v = 0 → v = g
  low : ∀ v, -1 ≤ dAt f v
  pre : ∀ v, 0 < dAt f v → ∃ u, Adj es u v ∧ dAt f u = dAt f v - 1
  dn : ∀ v, 0 ≤ dAt f v → v ∈ q ∨ ∀ w, Adj es v w → 0 ≤ dAt f w ∧ dAt f w ≤ dAt f v + 1
  qs : ∀ v ∈ q, 0 ≤ dAt f v
  so : q.Pairwise fun x y => dAt f x ≤ dAt f y
  hi : ∀ h r, q = h :: r → ∀ v, dAt f v ≤ dAt f h + 1
def cntN (f : List Int) : Nat := (f.filter fun x => decide (x < 0)).length
theorem srch_end {es : Es} {n g : Nat} {f : List Int} (S : Srch es n g f []) : IsD es n g f :=
  ⟨S.len, S.go, S.zero, S.low, fun a b h ha => (S.dn a ha).elim (fun z => absurd z List.not_mem_nil) fun k => k b h, S.pre⟩
/-- the turn of p, with the neighbours done so far -/
structure Turn (es : Es) (n g : Nat) (p : Nat) (dn : List Nat) (f : List Int) (q : List Nat) : Prop where
  len : f.length = n
  go : dAt f g = 0
  zero : ∀ v, dAt f v = 0 → v = g
  low : ∀ v, -1 ≤ dAt f v
  pre : ∀ v, 0 < dAt f v → ∃ u, Adj es u v ∧ dAt f u = dAt f v - 1
  at_p : 0 ≤ dAt f p
  rest : ∀ v, 0 ≤ dAt f v → v ∈ q ∨ v = p ∨ ∀ w, Adj es v w → 0 ≤ dAt f w ∧ dAt f w ≤ dAt f v + 1
  seen : ∀ w ∈ dn, 0 ≤ dAt f w
  qs : ∀ v ∈ q, dAt f p ≤ dAt f v
  so : q.Pairwise fun x y => dAt f x ≤ dAt f y
  hi : ∀ v, dAt f v ≤ dAt f p + 1
theorem turn_start {es : Es} {n g p : Nat} {f : List Int} {q : List Nat} (S : Srch es n g f (p :: q)) : Turn es n g p [] f q := by
  obtain ⟨len, go, zero, low, pre, dn, qs, so, hi⟩ := S
  rw [List.pairwise_cons] at so
  refine ⟨len, go, zero, low, pre, qs p (List.mem_cons_self ..), fun v hv => ?_, fun _ z => absurd z List.not_mem_nil, so.1, so.2, hi p q rfl⟩
  rcases dn v hv with h | h
  · rcases List.mem_cons.mp h with h | h
    · exact .inr (.inl h)
    · exact .inl h
  · exact .inr (.inr h)
theorem turn_old {es : Es} {n g p w : Nat} {dn : List Nat} {f : List Int} {q : List Nat} (T : Turn es n g p dn f q) (h : 0 ≤ dAt f w) : Turn es n g p (dn ++ [w]) f q := by
  obtain ⟨len, go, zero, low, pre, at_p, rest, seen, qs, so, hi⟩ := T
  refine ⟨len, go, zero, low, pre, at_p, rest, fun v hv => ?_, qs, so, hi⟩
  rcases List.mem_append.mp hv with hv | hv
  · exact seen v hv
  · rw [List.mem_singleton.mp hv]; exact h
theorem turn_new {es : Es} {n g p w : Nat} {dn : List Nat} {f : List Int} {q : List Nat} (T : Turn es n g p dn f q) (a : Adj es p w) (hw : w < n) (h : dAt f w < 0) : Turn es n g p (dn ++ [w]) (f.set w (dAt f p + 1)) (q ++ [w]) := by
  obtain ⟨len, go, zero, low, pre, at_p, rest, seen, qs, so, hi⟩ := T
  have hl : w < f.length := by rw [len]; exact hw
  have lw := low w
  have wp : p ≠ w := fun e => by rw [e] at at_p; omega
  have st : ∀ v, dAt (f.set w (dAt f p + 1)) v = if v = w then dAt f p + 1 else dAt f v := fun v => dAt_set hl
  have eq : ∀ v, v ≠ w → dAt (f.set w (dAt f p + 1)) v = dAt f v := fun v e => by rw [st, if_neg e]
  have ew : dAt (f.set w (dAt f p + 1)) w = dAt f p + 1 := by rw [st, if_pos rfl]
  have nw : ∀ {v}, 0 ≤ dAt f v → v ≠ w := fun {v} hv e => by rw [e] at hv; omega
  have qn : ∀ v ∈ q, v ≠ w := fun v hv => nw (by have := qs v hv; omega)
  refine ⟨by rw [List.length_set]; exact len, by rw [eq g (nw (by omega))]; exact go, fun v hv => ?_, fun v => ?_, fun v hv => ?_, by rw [eq p wp]; exact at_p, fun v hv => ?_, fun v hv => ?_, fun v hv => ?_, ?_, fun v => ?_⟩
  · by_cases e : v = w
    · rw [e, ew] at hv; omega
    · rw [eq v e] at hv; exact zero v hv
  · by_cases e : v = w
    · rw [e, ew]; omega
    · rw [eq v e]; exact low v
  · by_cases e : v = w
    · subst e
      exact ⟨p, a, by rw [eq p wp, ew]; omega⟩
    · rw [eq v e] at hv ⊢
      obtain ⟨u, hu, hd⟩ := pre v hv
      exact ⟨u, hu, by rw [eq u (nw (by omega))]; exact hd⟩
  · by_cases e : v = w
    · exact .inl (by rw [e]; exact List.mem_append_right _ (List.mem_singleton.mpr rfl))
    · rw [eq v e] at hv ⊢
      rcases rest v hv with h1 | h1 | h1
      · exact .inl (List.mem_append_left _ h1)
      · exact .inr (.inl h1)
      · refine .inr (.inr fun x hx => ?_)
        have := h1 x hx
        rw [eq x (nw this.1)]
        exact this
  · rcases List.mem_append.mp hv with hv | hv
    · have := seen v hv
      rw [eq v (nw this)]
      exact this
    · rw [List.mem_singleton.mp hv, ew]; omega
  · rw [eq p wp]
    rcases List.mem_append.mp hv with hv | hv
    · rw [eq v (qn v hv)]; exact qs v hv
    · rw [List.mem_singleton.mp hv, ew]; omega
  · rw [List.pairwise_append]
    refine ⟨?_, List.pairwise_singleton .., fun x hx y hy => ?_⟩
    · refine List.Pairwise.imp_of_mem (fun {x y} hx hy hxy => ?_) so
      rw [eq x (qn x hx), eq y (qn y hy)]
      exact hxy
    · rw [List.mem_singleton.mp hy, ew, eq x (qn x hx)]
      exact hi x
  · rw [eq p wp]
    by_cases e : v = w
    · rw [e, ew]; omega
    · rw [eq v e]; exact hi v
theorem cnt_set : ∀ {f : List Int} {w : Nat} {x : Int}, w < f.length → dAt f w < 0 → 0 ≤ x → cntN (f.set w x) + 1 = cntN f
  | [], _, _, h, _, _ => by simp at h
  | y :: f, 0, x, _, h, hx => by
    have hy : y < 0 := h
    unfold cntN
    rw [List.set_cons_zero, List.filter_cons, List.filter_cons, if_neg (by simpa using hx), if_pos (by simpa using hy), List.length_cons]
  | y :: f, w + 1, x, hl, h, hx => by
    have ih := cnt_set (f := f) (w := w) (x := x) (by simpa using hl) (by simpa [dAt] using h) hx
    unfold cntN at ih ⊢
    rw [List.set_cons_succ, List.filter_cons, List.filter_cons]
    split
    · rw [List.length_cons, List.length_cons]; omega
    · exact ih
theorem turn_end {es : Es} {n g p : Nat} {dn : List Nat} {f : List Int} {q : List Nat} (T : Turn es n g p dn f q) (hd : ∀ w, Adj es p w → w ∈ dn) : Srch es n g f q := by
  obtain ⟨len, go, zero, low, pre, at_p, rest, seen, qs, so, hi⟩ := T
  refine ⟨len, go, zero, low, pre, fun v hv => ?_, fun v hv => by have := qs v hv; omega, so, fun h r e v => ?_⟩
  · rcases rest v hv with h1 | h1 | h1
    · exact .inl h1
    · subst h1
      exact .inr fun w hw => ⟨seen w (hd w hw), hi w⟩
    · exact .inr h1
  · have := qs h (by rw [e]; exact List.mem_cons_self ..)
    have := hi v
    omega
theorem rep_at (n : Nat) (v : Nat) : dAt (List.replicate n (-1 : Int)) v = -1 := by
  unfold dAt
  rw [List.getD_eq_getElem?_getD]
  by_cases h : v < n
  · rw [List.getElem?_replicate, if_pos h]; rfl
  · rw [List.getElem?_replicate, if_neg h]; rfl
theorem srch_start {es : Es} {n g : Nat} (hg : g < n) : Srch es n g ((List.replicate n (-1 : Int)).set g 0) [g] := by
  have st : ∀ v, dAt ((List.replicate n (-1 : Int)).set g 0) v = if v = g then 0 else -1 := fun v => by
    rw [dAt_set (by rw [List.length_replicate]; exact hg), rep_at]
  refine ⟨by rw [List.length_set, List.length_replicate], by rw [st, if_pos rfl], fun v hv => ?_, fun v => ?_, fun v hv => ?_, fun v hv => ?_, fun v hv => ?_, List.pairwise_singleton .., fun h r e v => ?_⟩
  · rw [st] at hv
    split at hv
    · assumption
    · cases hv
  · rw [st]; split <;> omega
  · rw [st] at hv
    split at hv <;> omega
  · rw [st] at hv
    split at hv
    · rename_i e
      exact .inl (by rw [e]; exact List.mem_singleton.mpr rfl)
    · omega
  · rw [List.mem_singleton.mp hv, st, if_pos rfl]; omega
  · cases e
    rw [st, st, if_pos rfl]
    split <;> omega
/-! ### the law's way: each link again and again -/
def fAt (F : List Int) (v : Nat) : Int := F.getD v 0
theorem fAt_set {F : List Int} {v w : Nat} {x : Int} (h : w < F.length) : fAt (F.set w x) v = if v = w then x else fAt F v := by
  unfold fAt
  rw [List.getD_eq_getElem?_getD, List.getD_eq_getElem?_getD]
  by_cases e : v = w
  · subst e
    rw [if_pos rfl, List.getElem?_set_self h]
    rfl
  · rw [if_neg e, List.getElem?_set_ne (Ne.symm e)]
/-- not below the distances; 99 where there is no way -/
structure Lo (n : Nat) (f F : List Int) : Prop where
  len : F.length = n
  lo : ∀ v, v < n → (0 ≤ dAt f v → dAt f v ≤ fAt F v ∧ fAt F v ≤ 99) ∧ (dAt f v < 0 → fAt F v = 99)
def Kn (f F : List Int) (k : Nat) : Prop := ∀ v, 0 ≤ dAt f v → dAt f v ≤ k → fAt F v ≤ dAt f v
def mn (a b : Int) : Int := if b < a then b else a
def relax (F : List Int) (a b : Nat) : List Int := F.set a (mn (fAt F a) (fAt F b + 1))
theorem relax_le {F : List Int} {a b : Nat} (h : a < F.length) (v : Nat) : fAt (relax F a b) v ≤ fAt F v := by
  unfold relax
  rw [fAt_set h]
  split
  · rename_i e
    rw [e]
    unfold mn
    split <;> omega
  · exact Int.le_refl _
theorem relax_at {F : List Int} {a b : Nat} (h : a < F.length) : fAt (relax F a b) a ≤ fAt F b + 1 := by
  unfold relax
  rw [fAt_set h, if_pos rfl]
  unfold mn
  split <;> omega
theorem relax_lo {es : Es} {n g : Nat} {f F : List Int} {a b : Nat} (D : IsD es n g f) (L : Lo n f F) (e : Adj es a b) (ha : a < n) (hb : b < n) : Lo n f (relax F a b) := by
  have hl : a < F.length := by rw [L.len]; exact ha
  refine ⟨by unfold relax; rw [List.length_set]; exact L.len, fun v hv => ?_⟩
  unfold relax
  rw [fAt_set hl]
  by_cases c : v = a
  · subst c
    rw [if_pos rfl]
    have l1 := L.lo v hv
    have l2 := L.lo b hb
    have d1 := D.low v
    have d2 := D.low b
    refine ⟨fun h => ?_, fun h => ?_⟩
    · have e1 := D.edge v b e h
      have e2 := D.edge b v e.sym e1.1
      have x1 := l1.1 h
      have x2 := l2.1 e1.1
      unfold mn
      split <;> omega
    · have hb' : dAt f b < 0 := by
        rcases Int.lt_or_le (dAt f b) 0 with z | z
        · exact z
        · have := D.edge b v e.sym z
          omega
      have x1 := l1.2 h
      have x2 := l2.2 hb'
      unfold mn
      split <;> omega
  · rw [if_neg c]
    exact L.lo v hv
/-- what a link has brought in this round -/
def Rd (f F : List Int) (k : Nat) (e : Nat × Nat) : Prop := (dAt f e.1 = (k + 1 : Nat) → dAt f e.2 = (k : Nat) → fAt F e.1 ≤ (k + 1 : Nat)) ∧ (dAt f e.2 = (k + 1 : Nat) → dAt f e.1 = (k : Nat) → fAt F e.2 ≤ (k + 1 : Nat))
theorem rd_le {f F G : List Int} {k : Nat} {e : Nat × Nat} (h : ∀ v, fAt G v ≤ fAt F v) (r : Rd f F k e) : Rd f G k e := ⟨fun a b => Int.le_trans (h _) (r.1 a b), fun a b => Int.le_trans (h _) (r.2 a b)⟩
theorem kn_le {f F G : List Int} {k : Nat} (h : ∀ v, fAt G v ≤ fAt F v) (r : Kn f F k) : Kn f G k := fun v a b => Int.le_trans (h _) (r v a b)
/-- one link, both ways -/
def both (F : List Int) (e : Nat × Nat) : List Int := relax (relax F e.1 e.2) e.2 e.1
theorem both_ok {es : Es} {n g k : Nat} {f F : List Int} {e : Nat × Nat} (D : IsD es n g f) (L : Lo n f F) (h : e ∈ es) (he : e.1 < n ∧ e.2 < n) (K : Kn f F k) : Lo n f (both F e) ∧ (∀ v, fAt (both F e) v ≤ fAt F v) ∧ Rd f (both F e) k e := by
  have a : Adj es e.1 e.2 := .inl h
  have l1 : e.1 < F.length := by rw [L.len]; exact he.1
  have L1 := relax_lo D L a he.1 he.2
  have l2 : e.2 < (relax F e.1 e.2).length := by rw [L1.len]; exact he.2
  have L2 := relax_lo D L1 a.sym he.2 he.1
  have m1 := relax_le (F := F) (a := e.1) (b := e.2) l1
  have m2 := relax_le (F := relax F e.1 e.2) (a := e.2) (b := e.1) l2
  refine ⟨L2, fun v => Int.le_trans (m2 v) (m1 v), fun h1 h2 => ?_, fun h1 h2 => ?_⟩
  · have r := relax_at (F := F) (a := e.1) (b := e.2) l1
    have := K e.2 (by omega) (by omega)
    have := m2 e.1
    unfold both
    omega
  · have r := relax_at (F := relax F e.1 e.2) (a := e.2) (b := e.1) l2
    have := K e.1 (by omega) (by omega)
    have := m1 e.1
    unfold both
    omega
theorem round_end {es : Es} {n g k : Nat} {f F : List Int} (D : IsD es n g f) (K : Kn f F k) (R : ∀ e ∈ es, Rd f F k e) : Kn f F (k + 1) := fun v h0 hk => by
  by_cases c : dAt f v ≤ k
  · exact K v h0 c
  · have hv : dAt f v = (k + 1 : Nat) := by omega
    obtain ⟨u, a, hu⟩ := D.pre v (by omega)
    have hu' : dAt f u = (k : Nat) := by omega
    rw [hv]
    rcases a with a | a
    · exact (R _ a).2 hv hu'
    · exact (R _ a).1 hv hu'
def cut99 (F : List Int) : List Int := F.map fun x => if 99 ≤ x then -1 else x
theorem far_end {es : Es} {n g : Nat} {f F : List Int} (D : IsD es n g f) (hn : n ≤ 90) (L : Lo n f F) (K : Kn f F n) : cut99 F = f := by
  refine List.ext_getElem (by unfold cut99; rw [List.length_map, L.len, D.len]) fun i h1 h2 => ?_
  have hi : i < n := by rw [D.len] at h2; exact h2
  have hF : i < F.length := by rw [L.len]; exact hi
  have e1 : fAt F i = F[i] := by unfold fAt; rw [List.getD_eq_getElem?_getD, List.getElem?_eq_getElem hF]; rfl
  have e2 : dAt f i = f[i] := by unfold dAt; rw [List.getD_eq_getElem?_getD, List.getElem?_eq_getElem h2]; rfl
  have e3 : (cut99 F)[i] = if 99 ≤ F[i] then -1 else F[i] := by simp [cut99]
  rw [e3, ← e1, ← e2]
  have lt := isD_lt D i
  have lw := D.low i
  rcases Int.lt_or_le (dAt f i) 0 with c | c
  · have := (L.lo i hi).2 c
    rw [this, if_pos (by decide)]
    omega
  · have x1 := (L.lo i hi).1 c
    have x2 := K i c (by omega)
    have : fAt F i = dAt f i := by omega
    rw [this, if_neg (by omega)]
def far0 (n g : Nat) : List Int := (List.range n).map fun v => if v = g then 0 else 99
theorem far0_at {n g v : Nat} (h : v < n) : fAt (far0 n g) v = if v = g then 0 else 99 := by
  unfold fAt far0
  rw [List.getD_eq_getElem?_getD, List.getElem?_map, List.getElem?_range h]
  rfl
theorem far_start {es : Es} {n g : Nat} {f : List Int} (D : IsD es n g f) (hn : n ≤ 90) (hg : g < n) : Lo n f (far0 n g) ∧ Kn f (far0 n g) 0 := by
  refine ⟨⟨by unfold far0; rw [List.length_map, List.length_range], fun v hv => ?_⟩, fun v h0 h1 => ?_⟩
  · rw [far0_at hv]
    have lt := isD_lt D v
    by_cases e : v = g
    · subst e
      rw [if_pos rfl, D.go]
      exact ⟨fun _ => by omega, fun h => by omega⟩
    · rw [if_neg e]
      exact ⟨fun _ => by omega, fun _ => rfl⟩
  · have e := D.zero v (by omega)
    subst e
    rw [far0_at hg, if_pos rfl]
    omega
/-! ### neighbours and hops -/
def nbs (es : Es) (v : Nat) : List Nat := es.flatMap fun e => (if e.1 = v then [e.2] else []) ++ (if e.2 = v then [e.1] else [])
theorem mem_nbs {es : Es} {u v : Nat} : u ∈ nbs es v ↔ Adj es v u := by
  unfold nbs Adj
  rw [List.mem_flatMap]
  constructor
  · rintro ⟨⟨a, b⟩, he, h⟩
    rcases List.mem_append.mp h with h | h
    · split at h
      · rename_i e
        have := List.mem_singleton.mp h
        simp only at e this
        subst e this
        exact .inl he
      · exact absurd h List.not_mem_nil
    · split at h
      · rename_i e
        have := List.mem_singleton.mp h
        simp only at e this
        subst e this
        exact .inr he
      · exact absurd h List.not_mem_nil
  · rintro (h | h)
    · exact ⟨_, h, List.mem_append_left _ (by simp)⟩
    · exact ⟨_, h, List.mem_append_right _ (by simp)⟩
/-- the neighbours that are nearer, as the law lists them -/
def nearer (es : Es) (f : List Int) (v : Nat) : List Nat := (es.filter fun e => decide (e.1 = v ∧ dAt f e.2 < dAt f v)).map (·.2) ++ (es.filter fun e => decide (e.2 = v ∧ dAt f e.1 < dAt f v)).map (·.1)
theorem mem_nearer {es : Es} {f : List Int} {u v : Nat} : u ∈ nearer es f v ↔ Adj es v u ∧ dAt f u < dAt f v := by
  unfold nearer Adj
  rw [List.mem_append, List.mem_map, List.mem_map]
  constructor
  · rintro (⟨⟨a, b⟩, h, rfl⟩ | ⟨⟨a, b⟩, h, rfl⟩)
    · obtain ⟨h1, h2⟩ := List.mem_filter.mp h
      simp only [decide_eq_true_eq] at h2
      obtain ⟨rfl, h2⟩ := h2
      exact ⟨.inl h1, h2⟩
    · obtain ⟨h1, h2⟩ := List.mem_filter.mp h
      simp only [decide_eq_true_eq] at h2
      obtain ⟨rfl, h2⟩ := h2
      exact ⟨.inr h1, h2⟩
  · rintro ⟨h | h, h2⟩
    · exact .inl ⟨_, List.mem_filter.mpr ⟨h, by simpa using h2⟩, rfl⟩
    · exact .inr ⟨_, List.mem_filter.mpr ⟨h, by simpa using h2⟩, rfl⟩
/-- the least pair's vertex is the least of those nearer -/
theorem hop_least {es : Es} {n g v m : Nat} {f : List Int} (D : IsD es n g f) (hv : 0 < dAt f v) (hm : Adj es v m) (h : ∀ u, Adj es v u → dAt f m < dAt f u ∨ (dAt f m = dAt f u ∧ m ≤ u)) : m ∈ nearer es f v ∧ ∀ u ∈ nearer es f v, m ≤ u := by
  obtain ⟨p, hp, dp⟩ := D.pre v hv
  have em := (D.edge v m hm (by omega))
  have e2 := (D.edge m v hm.sym em.1)
  have hpm := h p hp.sym
  refine ⟨mem_nearer.mpr ⟨hm, by omega⟩, fun u hu => ?_⟩
  obtain ⟨a, b⟩ := mem_nearer.mp hu
  have eu := (D.edge v u a (by omega))
  have e3 := (D.edge u v a.sym eu.1)
  have := h u a
  omega
/-! ### rules by name -/
theorem hu65 {A : Around} {k : Nat} (hr : Room k A) : A.units + 65 < cLine := by have := hr.un; omega
theorem pg_tupK {X : Cx} {K : PySem.W.Frag} {es : List Expr} {k : Nat} {t : TGs} {n : Nat} {pos : Pos} (hk : X.K = K) (hc : X.calm = true) (h : PGs X es t) (hn : (assignEach es X.env).length = n := by rfl) (hst : (assignEach es X.env).findIdx? (·.1) = none := by rfl) : PG X (.Tuple es k pos) (gTup K n t) := by
  subst hk
  exact pg_tup hc h hn hst
def rRepN : R2 := rRep
theorem op_repA {X : Cx} : OpR X (binaryOp .Mult) rRepN := op_rep
theorem q_repN {H : Hp} {Q : VK} {l : Addr} {v : V} {n : Nat} (h : H l = some (.lst [v])) (hn : n ≤ 1000) (q : ∀ p Hn, H p = none → Ex H Hn → Hn p = some (.lst (List.replicate n v)) → Q (.ref p) Hn) : rRepN (.ref l) (.int n) H Q := by
  refine ⟨l, n, [v], rfl, rfl, h, by omega, by omega, ?_, fun p hp => ?_⟩
  · rw [Int.toNat_natCast]
    refine sl1000 ?_
    show 1 * n ≤ 100000
    omega
  · refine q p _ hp (Ex.mk hp rfl) ?_
    rw [upd_same, Int.toNat_natCast, List.flatten_replicate_singleton]
def rMinN (K : PySem.W.Frag) : List V → Hp → VK → Prop := rMin K
theorem cr_minA {X : Cx} (hc : X.calm = true) : CallR X (.builtin "min") (rMinN X.K) := cr_min hc
abbrev s_check_network : Stmt := topS 5
theorem sc_check_network : FnScope ["processors", "links", "index", "a", "b"] ["processors", "links"] (defScope s_check_network) := ⟨rfl, rfl, rfl, by decide +kernel, rfl, by decide +kernel, by decide +kernel⟩
abbrev p_check_network : List Str := ["processors", "links"]
abbrev s_neighbours : Stmt := topS 6
theorem sc_neighbours : FnScope ["processors", "links", "found", "a", "b", "_"] ["processors", "links"] (defScope s_neighbours) := ⟨rfl, rfl, rfl, by decide +kernel, rfl, by decide +kernel, by decide +kernel⟩
abbrev p_neighbours : List Str := ["processors", "links"]
abbrev s_distances : Stmt := topS 7
theorem sc_distances : FnScope ["processors", "links", "goal", "near", "found", "reached", "p", "other"] ["processors", "links", "goal"] (defScope s_distances) := ⟨rfl, rfl, rfl, by decide +kernel, rfl, by decide +kernel, by decide +kernel⟩
abbrev p_distances : List Str := ["processors", "links", "goal"]
abbrev s_next_hops : Stmt := topS 8
theorem sc_next_hops : FnScope ["processors", "links", "near", "ways", "goal", "p"] ["processors", "links"] (defScope s_next_hops) := ⟨rfl, rfl, rfl, by decide +kernel, rfl, by decide +kernel, by decide +kernel⟩
abbrev p_next_hops : List Str := ["processors", "links"]
abbrev s_next_hop : Stmt := topS 9
theorem sc_next_hop : FnScope ["near", "ways", "p", "goal", "other"] ["near", "ways", "p", "goal"] (defScope s_next_hop) := ⟨rfl, rfl, rfl, by decide +kernel, rfl, by decide +kernel, by decide +kernel⟩
abbrev p_next_hop : List Str := ["near", "ways", "p", "goal"]
/-! ### links in the heap -/
def LkI (H : Hp) (a : Addr) (ls : List (Int × Int)) : Prop := ∃ vs, H a = some (.lst vs) ∧ Paired (TupII H) vs ls
def casts (es : Es) : List (Int × Int) := es.map fun e => ((e.1 : Int), (e.2 : Int))
theorem paired_imp {α β : Type} {F G : α → β → Prop} (k : ∀ a b, F a b → G a b) : ∀ {xs : List α} {ys : List β}, Paired F xs ys → Paired G xs ys
  | _, _, .nil => .nil
  | _, _, .cons a t => .cons (k _ _ a) (paired_imp k t)
theorem tup_ex {H H' : Hp} (e : Ex H H') {v : V} {p : Int × Int} (h : TupII H v p) : TupII H' v p := by
  obtain ⟨q, rfl, hq⟩ := h
  exact ⟨q, rfl, e _ _ hq⟩
theorem lk_ex {H H' : Hp} {a : Addr} {ls : List (Int × Int)} (e : Ex H H') (h : LkI H a ls) : LkI H' a ls := by
  obtain ⟨vs, h1, h2⟩ := h
  exact ⟨vs, e _ _ h1, paired_imp (fun _ _ => tup_ex e) h2⟩
theorem ex_updF {p : Addr} {o : HO} {H H' : Hp} (k : Ex H H') (hp : H p = none) : Ex H (upd H' p o) := fun a u h => by
  rw [upd_ne (ne_of_none h hp)]
  exact k a u h
def rg (rs : List Addr) (v : Nat) : Addr := rs.getD v 0
theorem rg_at {rs : List Addr} {v : Nat} (h : v < rs.length) : atI (rs.map V.ref) (v : Int) = some (.ref (rg rs v)) := atI_nat (by
  unfold rg
  rw [List.getElem?_map, List.getD_eq_getElem?_getD, List.getElem?_eq_getElem h]
  rfl)
theorem rg_app {rs : List Addr} {p : Addr} {v : Nat} (h : v < rs.length) : rg (rs ++ [p]) v = rg rs v := by
  unfold rg
  rw [List.getD_eq_getElem?_getD, List.getD_eq_getElem?_getD, List.getElem?_append_left h]
theorem rg_end {rs : List Addr} {p : Addr} : rg (rs ++ [p]) rs.length = p := by
  unfold rg
  rw [List.getD_eq_getElem?_getD, List.getElem?_append_right (Nat.le_refl _), Nat.sub_self]
  rfl
def nats (l : List Nat) : List V := l.map fun (u : Nat) => V.int (u : Int)
theorem nats_at {l : List Nat} {i : Nat} {u : Nat} (h : l[i]? = some u) : (nats l)[i]? = some (.int (u : Int)) := by
  unfold nats
  rw [List.getElem?_map, h]
  rfl
theorem casts_at {es : Es} {i : Nat} {v : V} {H : Hp} {vs : List V} (h : Paired (TupII H) vs (casts es)) (hi : vs[i]? = some v) : ∃ x y q, es[i]? = some (x, y) ∧ v = .ref q ∧ H q = some (.tup [.int (x : Int), .int (y : Int)]) := by
  obtain ⟨p, hp, q, hq, hh⟩ := paired_at h hi
  unfold casts at hp
  rw [List.getElem?_map] at hp
  obtain ⟨⟨x, y⟩, he, rfl⟩ := Option.map_eq_some_iff.mp hp
  exact ⟨x, y, q, he, hq, hh⟩
theorem nbs_take {es : Es} {i x y v : Nat} (h : es[i]? = some (x, y)) : nbs (es.take (i + 1)) v = nbs (es.take i) v ++ ((if x = v then [y] else []) ++ (if y = v then [x] else [])) := by
  unfold nbs
  rw [List.take_add_one, h, List.flatMap_append]
  simp
/-- the rows of the neighbours: r, its rows rs -/
structure Near (es : Es) (n : Nat) (H : Hp) (r : Addr) (rs : List Addr) : Prop where
  ob : H r = some (.lst (rs.map V.ref))
  len : rs.length = n
  row : ∀ v, v < n → H (rg rs v) = some (.lst (nats (nbs es v)))
theorem near_ex {es : Es} {n : Nat} {H H' : Hp} {r : Addr} {rs : List Addr} (e : Ex H H') (h : Near es n H r rs) : Near es n H' r rs := ⟨e _ _ h.ob, h.len, fun v hv => e _ _ (h.row v hv)⟩
theorem val_at {es : Es} {n i x y : Nat} (hv : Val es n) (h : es[i]? = some (x, y)) : x < y ∧ y < n := hv _ (List.mem_of_getElem? h)
def sp_nbs : Sp := fun vs H Q _ => ∃ (n : Nat) (a : Addr) (es : Es), vs = [.int n, .ref a] ∧ LkI H a (casts es) ∧ Val es n ∧ n ≤ 100 ∧ es.length ≤ 1000 ∧ ∀ H' r rs, Ex H H' → H r = none → Near es n H' r rs → Q (.ref r) H'
theorem c_nbs {n : Nat} {a : Addr} {es : Es} {H : Hp} {Q : VK} {E : XK} (h1 : LkI H a (casts es)) (h2 : Val es n) (h3 : n ≤ 100) (h4 : es.length ≤ 1000) (q : ∀ H' r rs, Ex H H' → H r = none → Near es n H' r rs → Q (.ref r) H') : sp_nbs [.int n, .ref a] H Q E := ⟨n, a, es, rfl, h1, h2, h3, h4, q⟩
theorem nbs_le (es : Es) (v : Nat) : (nbs es v).length ≤ 2 * es.length := by
  unfold nbs
  induction es with
  | nil => simp
  | cons e r ih =>
    rw [List.flatMap_cons, List.length_append, List.length_append, List.length_cons]
    have h1 : (if e.1 = v then [e.2] else []).length ≤ 1 := by split <;> simp
    have h2 : (if e.2 = v then [e.1] else []).length ≤ 1 := by split <;> simp
    omega
theorem ok_nbs (T : Glo K w mg) (D : Dn K mg "neighbours" s_neighbours p_neighbours) : Cal P w K mg base "neighbours" 1 p_neighbours sp_nbs := by
  refine D.ok sc_neighbours (fun vs H Q E h => ?_) (fun f cdv A outer s H vs Q E hr h => ?_)
  · obtain ⟨_, _, _, rfl, _⟩ := h
    rfl
  obtain ⟨n, a, es, rfl, hlk, hval, hn, hes, q⟩ := h
  refine ⟨_, (pss_cons (ps_setLc (i := 2) (own := [("_", 5)]) (tt := tYes) rfl sc_neighbours.nd rfl rfl (sw_true rfl rfl rfl (by decide +kernel)) (pi_range1 rfl T.n_range (pa_cons (pv 0) pa_nil)) (blkOk_by (N := ["processors", "links", "found", "a", "b", "_"]) (sc := defScope s_neighbours) (by decide +kernel)) (fun _ _ _ _ _ => (pg_name (i := 5) sc_neighbours.nd rfl (by first | exact Or.inl rfl | exact Or.inr rfl))) (fun _ _ _ _ _ => pts_nil) (fun _ _ _ _ _ => (pe_lst pa_nil))) (pss_cons (ps_for PassesOwn.never rfl (pi_list (pv 1)) (pg_tup rfl (pgs_cons (pg_name (i := 3) sc_neighbours.nd rfl (by first | exact Or.inl rfl | exact Or.inr rfl)) (pgs_cons (pg_name (i := 4) sc_neighbours.nd rfl (by first | exact Or.inl rfl | exact Or.inr rfl)) pgs_nil))) (pss_cons (ps_expr (pe_bm PySem.F.plainAttrs_list PySem.F.slot_list_append PySem.F.type_list_append mt_append (pe_ix ix_seq (pv 2) (pv 3) (fun _ _ => rfl)) (pa_cons (pv 4) pa_nil))) (pss_one (ps_expr (pe_bm PySem.F.plainAttrs_list PySem.F.slot_list_append PySem.F.type_list_append mt_append (pe_ix ix_seq (pv 2) (pv 4) (fun _ _ => rfl)) (pa_cons (pv 3) pa_nil)))))) (pss_one (ps_ret (pv 2))))), ?_⟩
  try dsimp only [cxOf, Cx.nox]
  repeat' (first | subst "st0" | fail)
  intro L hL
  refine lc_range (lo := 0) (n := ((n : Nat) : Int).toNat) (fun i H2 => Ex H H2 ∧ ∃ rs : List Addr, rs.length = i ∧ H2 L = some (.lst (rs.map V.ref)) ∧ (∀ v, v < i → H2 (rg rs v) = some (.lst []) ∧ H (rg rs v) = none ∧ rg rs v ≠ L) ∧ ∀ u v, u < i → v < i → rg rs u = rg rs v → u = v) ?_ ?_ ?_
  · exact ⟨ex_updF (Ex.refl _) hL, [], rfl, upd_same, fun v hv => absurd hv (Nat.not_lt_zero v), fun u v hu => absurd hu (Nat.not_lt_zero u)⟩
  · rintro i H2 hi ⟨e2, rs, lr, h2, hv2, inj⟩
    rw [Int.toNat_natCast] at hi
    refine ⟨rfl, ?_⟩
    repeat' (first | subst "st0" | fail)
    have pL : p ≠ L := (ne_of_none h2 hp).symm
    have pr : ∀ v, v < i → rg rs v ≠ p := fun v hv => ne_of_none (hv2 v hv).1 hp
    refine ⟨rs.map V.ref, ke _ _ h2, sl1000' (by rw [List.length_map]; omega), ex_updF (e2.trans ke) hL, rs ++ [p], by simp [lr], ?_, fun v hv => ?_, fun u v hu hv e => ?_⟩
    · rw [upd_same, List.map_append]
      rfl
    · by_cases c : v < i
      · rw [rg_app (by omega)]
        obtain ⟨x1, x2, x3⟩ := hv2 v c
        exact ⟨by rw [upd_ne x3]; exact ke _ _ x1, x2, x3⟩
      · have ev : v = rs.length := by omega
        rw [ev, rg_end]
        exact ⟨by rw [upd_ne pL]; exact hn, free_back e2 hp, pL⟩
    · by_cases c : u < i
      · by_cases d : v < i
        · rw [rg_app (by omega), rg_app (by omega)] at e
          exact inj u v c d e
        · have ev : v = rs.length := by omega
          rw [rg_app (by omega), ev, rg_end] at e
          exact absurd e (pr u c)
      · have eu : u = rs.length := by omega
        by_cases d : v < i
        · rw [rg_app (v := v) (by omega), eu, rg_end] at e
          exact absurd e.symm (pr v d)
        · omega
  · rintro H2 ⟨e2, rs, lr, h2, hv2, inj⟩
    rw [Int.toNat_natCast] at lr hv2 inj
    obtain ⟨vs, hvs, hpr⟩ := lk_ex e2 hlk
    have lvs : vs.length = es.length := by rw [paired_len hpr]; unfold casts; rw [List.length_map]
    repeat' (first | subst "st0" | fail)
    refine w_list (xs := vs) (fun i σ H' => ∃ y3 y4 : Option V, σ = [some (.int n), some (.ref a), some (.ref L), y3, y4, none] ∧ Ex H H' ∧ H' L = some (.lst (rs.map V.ref)) ∧ (∀ v, v < n → H' (rg rs v) = some (.lst (nats (nbs (es.take i) v)))) ∧ ∀ b u, H2 b = some u → b ≠ L → (∀ v, v < n → b ≠ rg rs v) → H' b = some u) ?_ ?_ ?_ ?_
    · exact ⟨none, none, rfl, e2, h2, fun v hv => (hv2 v hv).1, fun b u h _ _ => h⟩
    · rintro i σ H' _ ⟨y3, y4, rfl, e3, h3, hv3, k3⟩
      obtain ⟨vs', hvs', _⟩ := hlk
      have := e2 _ _ hvs'
      rw [hvs] at this
      cases this
      exact sql (e3 _ _ hvs')
    · rintro i v σ H' hi ⟨y3, y4, rfl, e3, h3, hv3, k3⟩
      obtain ⟨vs', hvs', hpr'⟩ := hlk
      have ev := e2 _ _ hvs'
      rw [hvs] at ev
      cases ev
      obtain ⟨x, y, t, hxy, rfl, ht⟩ := casts_at hpr' hi
      have ht3 := e3 _ _ ht
      obtain ⟨hx, hy⟩ := val_at hval hxy
      have li : i < es.length := (List.getElem?_eq_some_iff.mp hxy).1
      have hlx : x < rs.length := by omega
      have hly : y < rs.length := by omega
      repeat' (first | subst "st0" | fail)
      refine q_ixL (sql h3) (rg_at hlx) ?_
      have hrx := hv3 x (by omega)
      have hry := hv3 y (by omega)
      have nxy : rg rs x ≠ rg rs y := fun z => by have := inj x y (by omega) (by omega) z; omega
      have b1 := nbs_le (es.take i) x
      have b2 := nbs_le (es.take i) y
      rw [List.length_take] at b1 b2
      refine q_tyL hrx ?_
      repeat' (first | subst "st0" | fail)
      refine q_append hrx (by unfold nats; rw [List.length_map]; omega) ?_
      have nL : ∀ v, v < n → rg rs v ≠ L := fun v hv => (hv2 v hv).2.2
      generalize hq : upd H' (rg rs x) _ = H5
      have at5 : ∀ b u, b ≠ rg rs x → H' b = some u → H5 b = some u := fun b u hb hu => by rw [← hq, upd_ne hb]; exact hu
      have x5 := at_new hq
      have L5 := at5 L _ (nL x (by omega)).symm h3
      have y5 := at5 _ _ nxy.symm hry
      repeat' (first | subst "st0" | fail)
      refine q_ixL (sql L5) (rg_at hly) ?_
      refine q_tyL y5 ?_
      repeat' (first | subst "st0" | fail)
      refine q_append y5 (by unfold nats; rw [List.length_map]; omega) ?_
      have ex5 : Ex H (upd H5 (rg rs y) (.lst (nats (nbs (es.take i) y) ++ [V.int (x : Int)]))) := by
        rw [← hq]
        exact ex_updF (ex_updF e3 (hv2 x (by omega)).2.1) (hv2 y (by omega)).2.1
      repeat' (first | subst "st0" | fail)
      refine ⟨_, _, rfl, ex5, ?_, fun v hv => ?_, fun b u hb hn1 hn2 => ?_⟩
      · rw [upd_ne (nL y (by omega)).symm]
        exact L5
      · rw [nbs_take hxy]
        by_cases cy : v = y
        · subst cy
          rw [upd_same, if_neg (by omega), if_pos rfl]
          unfold nats
          simp
        · have ny : rg rs v ≠ rg rs y := fun z => cy (inj v y hv (by omega) z)
          rw [upd_ne ny, if_neg (show ¬ y = v from fun z => cy z.symm), List.append_nil]
          by_cases cx : v = x
          · subst cx
            rw [x5, if_pos rfl]
            unfold nats
            simp
          · have nx : rg rs v ≠ rg rs x := fun z => cx (inj v x hv (by omega) z)
            rw [if_neg (show ¬ x = v from fun z => cx z.symm), List.append_nil]
            exact at5 _ _ nx (hv3 v hv)
      · rw [upd_ne (hn2 y (by omega))]
        exact at5 _ _ (hn2 x (by omega)) (k3 b u hb hn1 hn2)
    · rintro σ H' ⟨y3, y4, rfl, e3, h3, hv3, k3⟩
      rw [lvs, List.take_length] at hv3
      repeat' (first | subst "st0" | fail)
      exact q _ _ rs e3 hL ⟨h3, lr, hv3⟩
/-! ### distances -/
def iv (f : List Int) : List V := f.map V.int
theorem iv_at {f : List Int} {v : Nat} (h : v < f.length) : atI (iv f) (v : Int) = some (.int (dAt f v)) := atI_nat (by
  unfold iv
  rw [List.getElem?_map, dAt_some h]
  rfl)
theorem iv_set {f : List Int} {v : Nat} {x : Int} : (iv f).set v (.int x) = iv (f.set v x) := by
  unfold iv
  rw [List.map_set]
theorem q_truL {H : Hp} {QT : Bool → Hp → Prop} {a : Addr} {xs : List V} (h : SqL K H a xs) (q : QT (!xs.isEmpty) H) : ∃ k, TruV K (.ref a) H k ∧ QT k H := ⟨_, .inl ⟨xs, h, rfl⟩, q⟩
def sp_dist : Sp := fun vs H Q _ => ∃ (n g : Nat) (a : Addr) (es : Es), vs = [.int n, .ref a, .int g] ∧ LkI H a (casts es) ∧ Val es n ∧ n ≤ 100 ∧ es.length ≤ 1000 ∧ g < n ∧ ∀ H' p f, Ex H H' → H p = none → H' p = some (.lst (iv f)) → IsD es n g f → Q (.ref p) H'
theorem c_dist {n g : Nat} {a : Addr} {es : Es} {H : Hp} {Q : VK} {E : XK} (h1 : LkI H a (casts es)) (h2 : Val es n) (h3 : n ≤ 100) (h4 : es.length ≤ 1000) (h5 : g < n) (q : ∀ H' p f, Ex H H' → H p = none → H' p = some (.lst (iv f)) → IsD es n g f → Q (.ref p) H') : sp_dist [.int n, .ref a, .int g] H Q E :=
  ⟨n, g, a, es, rfl, h1, h2, h3, h4, h5, q⟩
theorem ok_dist (T : Glo K w mg) (D : Dn K mg "distances" s_distances p_distances) (G_neighbours : Cal P w K mg base "neighbours" 1 p_neighbours sp_nbs) : Cal P w K mg base "distances" 2 p_distances sp_dist := by
  refine D.ok sc_distances (fun vs H Q E h => ?_) (fun f cdv A outer s H vs Q E hr h => ?_)
  · obtain ⟨_, _, _, _, rfl, _⟩ := h
    rfl
  obtain ⟨n, g, a, es, rfl, hlk, hval, hn, hes, hg, q⟩ := h
  refine ⟨_, (pss_cons (ps_set (i := 3) sc_distances.nd rfl (by first | exact Or.inl rfl | exact Or.inr rfl) (pe_cal G_neighbours (hr.mono (by (first | subst "lev" | fail))) rfl (pa_cons (pv 0) (pa_cons (pv 1) pa_nil)))) (pss_cons (ps_set (i := 4) sc_distances.nd rfl (by first | exact Or.inl rfl | exact Or.inr rfl) (pe_op op_repA (pe_lst (pa_cons (pe_un un_neg pe_int) pa_nil)) (pv 0))) (pss_cons (ps_asg pe_int (pg_sub (pv 4) (pv 2) set_list)) (pss_cons (ps_set (i := 5) sc_distances.nd rfl (by first | exact Or.inl rfl | exact Or.inr rfl) (pe_lst (pa_cons (pv 2) pa_nil))) (pss_cons (ps_while PassesOwn.never (pt_truth (pv 5) (by intro _; rfl)) (pss_cons (ps_set (i := 6) sc_distances.nd rfl (by first | exact Or.inl rfl | exact Or.inr rfl) (pe_bm PySem.F.plainAttrs_list PySem.F.slot_list_pop PySem.F.type_list_pop mt_popAt (pv 5) (pa_cons pe_int pa_nil))) (pss_one (ps_for PassesOwn.never rfl (pi_list (pe_ix ix_seq (pv 3) (pv 6) (fun _ _ => rfl))) (pg_name (i := 7) sc_distances.nd rfl (by first | exact Or.inl rfl | exact Or.inr rfl)) (pss_one (ps_if (pt_cmpR op_lt (pe_ix ix_seq (pv 4) (pv 7) (fun _ _ => rfl)) pe_int (nomark _)) (pss_cons (ps_asg (pe_op op_addA (pe_ix ix_seq (pv 4) (pv 6) (fun _ _ => rfl)) pe_int) (pg_sub (pv 4) (pv 7) set_list)) (pss_one (ps_expr (pe_bm PySem.F.plainAttrs_list PySem.F.slot_list_append PySem.F.type_list_append mt_append (pv 5) (pa_cons (pv 7) pa_nil))))) pss_nil)))))) (pss_one (ps_ret (pv 4)))))))), ?_⟩
  try dsimp only [cxOf, Cx.nox]
  repeat' (first | subst "st0" | fail)
  refine c_nbs hlk hval hn hes (fun H1 r rs e1 hr1 N1 => ?_)
  repeat' (first | subst "st0" | fail)
  refine q_repN hn (by omega) ?_
  intro pf H2 hpf k2 h2
  repeat' (first | subst "st0" | fail)
  refine q_setL h2 (ixN_nat (by rw [List.length_replicate]; exact hg)) ?_
  have ef : (List.replicate n (V.int (-1))).set g (.int 0) = iv ((List.replicate n (-1)).set g 0) := by
    rw [← iv_set]
    unfold iv
    rw [List.map_replicate]
  rw [ef]
  generalize hq : upd H2 pf _ = H3
  have hpf1 : H1 pf = none := free_back ke hpf
  have e3 : Ex H1 H3 := by
    rw [← hq]
    exact ex_updF (ke.trans k2) hpf1
  have f3 := at_new hq
  repeat' (first | subst "st0" | fail)
  rename Addr => pl
  have hpl1 : H1 pl = none := free_back e3 hp
  have e4 : Ex H1 Hn := e3.trans ke
  have f4 := ke _ _ f3
  have h4 := hn
  have nfl : pf ≠ pl := ne_of_none f3 hp
  have c0 : cntN ((List.replicate n (-1 : Int)).set g 0) + 1 ≤ n := by
    rw [cnt_set (by rw [List.length_replicate]; exact hg) (by rw [rep_at]; decide) (by decide)]
    unfold cntN
    refine Nat.le_trans (List.length_filter_le ..) ?_
    rw [List.length_replicate]
    exact Nat.le_refl _
  refine w_while (fun m σ H' => ∃ (f : List Int) (q : List Nat) (y6 y7 : Option V), σ = [some (.int n), some (.ref a), some (.int g), some (.ref r), some (.ref pf), some (.ref pl), y6, y7] ∧ m = cntN f + q.length ∧ m ≤ n ∧ Srch es n g f q ∧ Ex H1 H' ∧ H' pf = some (.lst (iv f)) ∧ H' pl = some (.lst (nats q))) (cntN ((List.replicate n (-1 : Int)).set g 0) + 1) ⟨_, [g], none, none, rfl, rfl, c0, srch_start hg, e4, f4, h4⟩ ?_ ?_
  · rintro m σ H' ⟨f, qq, y6, y7, rfl, em, lm, S, e5, f5, l5⟩
    cases qq with
    | nil =>
      repeat' (first | subst "st0" | fail)
      refine ⟨false, .inl ⟨_, sql l5, rfl⟩, ?_⟩
      repeat' (first | subst "st0" | fail)
      exact q _ _ f (e1.trans e5) (free_back e1 hpf1) f5 (srch_end S)
    | cons p rest =>
      have hp0 : p < n := by
        have := dAt_in (S.qs p (List.mem_cons_self ..))
        rw [S.len] at this
        exact this
      have l6 : H' pl = some (.lst (.int (p : Int) :: nats rest)) := l5
      rw [List.length_cons] at em
      repeat' (first | subst "st0" | fail)
      refine ⟨true, .inl ⟨_, sql l5, rfl⟩, ?_⟩
      repeat' (first | subst "st0" | fail)
      refine q_tyL l6 ?_
      repeat' (first | subst "st0" | fail)
      refine q_pop0 l6 ?_
      generalize hq6 : upd H' pl _ = H6
      have x6 : Ex H1 H6 := by
        rw [← hq6]
        exact ex_updF e5 hpl1
      have l7 := at_new hq6
      have f6 : H6 pf = some (.lst (iv f)) := by
        rw [← hq6, upd_ne nfl]
        exact f5
      repeat' (first | subst "st0" | fail)
      refine q_ixL (sql (x6 _ _ N1.ob)) (rg_at (by rw [N1.len]; exact hp0)) ?_
      refine q_iL (sql (x6 _ _ (N1.row p hp0))) ?_
      refine w_list (xs := nats (nbs es p)) (fun i σ H' => ∃ (f : List Int) (q : List Nat) (y7 : Option V), σ = [some (.int n), some (.ref a), some (.int g), some (.ref r), some (.ref pf), some (.ref pl), some (.int p), y7] ∧ m = cntN f + (q.length + 1) ∧ Turn es n g p ((nbs es p).take i) f q ∧ Ex H1 H' ∧ H' pf = some (.lst (iv f)) ∧ H' pl = some (.lst (nats q))) ?_ ?_ ?_ ?_
      · exact ⟨f, rest, y7, rfl, em, turn_start S, x6, f6, l7⟩
      · rintro i σ H' _ ⟨_, _, _, _, _, _, e7, _, _⟩
        exact sql (e7 _ _ (N1.row p hp0))
      · rintro i x σ H' hi ⟨f, qq, y7, rfl, em, T7, e7, f7, l7⟩
        obtain ⟨u, hu, rfl⟩ : ∃ u, (nbs es p)[i]? = some u ∧ x = .int (u : Nat) := by
          unfold nats at hi
          rw [List.getElem?_map] at hi
          obtain ⟨u, h1, h2⟩ := Option.map_eq_some_iff.mp hi
          exact ⟨u, h1, h2.symm⟩
        have au : Adj es p u := mem_nbs.mp (List.mem_of_getElem? hu)
        have ul := (hval.adj au).2.1
        have tk : (nbs es p).take (i + 1) = (nbs es p).take i ++ [u] := by
          rw [List.take_add_one, hu]
          rfl
        have luf : u < f.length := by rw [T7.len]; exact ul
        have lpf : p < f.length := by rw [T7.len]; exact hp0
        repeat' (first | subst "st0" | fail)
        refine q_ixL (sql f7) (iv_at luf) ?_
        repeat' (first | subst "st0" | fail)
        · have c : dAt f u < 0 := by assumption
          refine q_ixL (sql f7) (iv_at lpf) ?_
          repeat' (first | subst "st0" | fail)
          refine q_setL f7 (ixN_nat (by unfold iv; rw [List.length_map]; exact luf)) ?_
          rw [iv_set]
          generalize hq8 : upd H' pf _ = H8
          have f8 := at_new hq8
          have l8 : H8 pl = some (.lst (nats qq)) := by
            rw [← hq8, upd_ne nfl.symm]
            exact l7
          have e8 : Ex H1 H8 := by
            rw [← hq8]
            exact ex_updF e7 hpf1
          have ct := cnt_set (x := dAt f p + 1) luf c (by have := T7.at_p; omega)
          repeat' (first | subst "st0" | fail)
          refine q_tyL l8 ?_
          repeat' (first | subst "st0" | fail)
          refine q_append l8 (by unfold nats; rw [List.length_map]; omega) ?_
          repeat' (first | subst "st0" | fail)
          refine ⟨f.set u (dAt f p + 1), qq ++ [u], _, rfl, ?_, ?_, ex_updF e8 hpl1, ?_, ?_⟩
          · rw [List.length_append, List.length_singleton]
            omega
          · rw [tk]
            exact turn_new T7 au ul c
          · rw [upd_ne nfl]
            exact f8
          · rw [upd_same]
            unfold nats
            simp
        · refine ⟨f, qq, _, rfl, em, ?_, e7, f7, l7⟩
          rw [tk]
          exact turn_old T7 (by omega)
      · rintro σ H' ⟨f, qq, y7, rfl, em, T7, e7, f7, l7⟩
        rw [show (nats (nbs es p)).length = (nbs es p).length by unfold nats; rw [List.length_map], List.take_length] at T7
        exact ⟨cntN f + qq.length, by omega, f, qq, _, _, rfl, rfl, by omega, turn_end T7 (fun w hw => mem_nbs.mpr hw), e7, f7, l7⟩
  · intro σ H Q Q' hQ h
    obtain ⟨v, hv, k, hk, hh⟩ := h
    exact ⟨v, hv, k, hk, hQ _ _ hh⟩
/-! ### next hops -/
theorem paired_snoc {α β : Type} {F : α → β → Prop} {x : α} {y : β} (h : F x y) : ∀ {xs : List α} {ys : List β}, Paired F xs ys → Paired F (xs ++ [x]) (ys ++ [y])
  | _, _, .nil => .cons h .nil
  | _, _, .cons a t => .cons a (paired_snoc h t)
theorem nats_in {l : List Nat} {i : Nat} {x : V} (h : (nats l)[i]? = some x) : ∃ u, l[i]? = some u ∧ x = .int (u : Nat) := by
  unfold nats at h
  rw [List.getElem?_map] at h
  obtain ⟨u, h1, h2⟩ := Option.map_eq_some_iff.mp h
  exact ⟨u, h1, h2.symm⟩
structure Ways (es : Es) (n : Nat) (H : Hp) (b : Addr) (ds : List Addr) : Prop where
  ob : H b = some (.lst (ds.map V.ref))
  len : ds.length = n
  row : ∀ g, g < n → ∃ f, H (rg ds g) = some (.lst (iv f)) ∧ IsD es n g f
theorem ways_ex {es : Es} {n : Nat} {H H' : Hp} {r : Addr} {rs : List Addr} (e : Ex H H') (h : Ways es n H r rs) : Ways es n H' r rs := ⟨e _ _ h.ob, h.len, fun v hv => by
  obtain ⟨f, h1, h2⟩ := h.row v hv
  exact ⟨f, e _ _ h1, h2⟩⟩
def Hop (es : Es) (n p g m : Nat) : Prop := (p = g → m = p) ∧ (p ≠ g → ∀ f, IsD es n g f → m ∈ nearer es f p ∧ ∀ u ∈ nearer es f p, m ≤ u)
def Conn (es : Es) (n : Nat) : Prop := ∀ g f v, IsD es n g f → v < n → 0 ≤ dAt f v
def sp_hop : Sp := fun vs H Q _ => ∃ (n p g : Nat) (r b : Addr) (rs ds : List Addr) (es : Es), vs = [.ref r, .ref b, .int p, .int g] ∧ Near es n H r rs ∧ Ways es n H b ds ∧ Val es n ∧ Conn es n ∧ n ≤ 100 ∧ es.length ≤ 1000 ∧ p < n ∧ g < n ∧ ∀ H' m, Ex H H' → Hop es n p g m → Q (.int (m : Nat)) H'
theorem c_hop {n p g : Nat} {r b : Addr} {rs ds : List Addr} {es : Es} {H : Hp} {Q : VK} {E : XK} (h1 : Near es n H r rs) (h2 : Ways es n H b ds) (h3 : Val es n) (h4 : Conn es n) (h5 : n ≤ 100 ∧ es.length ≤ 1000) (h6 : p < n) (h7 : g < n) (q : ∀ H' m, Ex H H' → Hop es n p g m → Q (.int (m : Nat)) H') : sp_hop [.ref r, .ref b, .int p, .int g] H Q E :=
  ⟨n, p, g, r, b, rs, ds, es, rfl, h1, h2, h3, h4, h5.1, h5.2, h6, h7, q⟩
theorem dAt_isD {es : Es} {n g : Nat} {f : List Int} (F : IsD es n g f) {v : Nat} (h : v < n) : v < f.length := by rw [F.len]; exact h
theorem ok_hop (T : Glo K w mg) (D : Dn K mg "next_hop" s_next_hop p_next_hop) : Cal P w K mg base "next_hop" 1 p_next_hop sp_hop := by
  refine D.ok sc_next_hop (fun vs H Q E h => ?_) (fun f cdv A outer s H vs Q E hr h => ?_)
  · obtain ⟨_, _, _, _, _, _, _, _, rfl, _⟩ := h
    rfl
  obtain ⟨n, p, g, r, b, rs, ds, es, rfl, N1, W1, hval, hcon, hn, hes, hp, hg, q⟩ := h
  refine ⟨_, (pss_cons (ps_if (pt_cmpR (op_eqA (hu64 hr)) (pv 2) (pv 3) (nomark _)) (pss_one (ps_ret (pv 2))) pss_nil) (pss_one (ps_ret (pe_ix ix_seq (pe_callB (cr_minT rfl (hu64 hr)) rfl T.n_min (by decide +kernel) (pa_cons (pe_lc (own := [("other", 4)]) (tt := tYes) rfl sc_next_hop.nd (pi_list (pe_ix ix_seq (pv 0) (pv 2) (fun _ _ => rfl))) (blkOk_by (N := ["near", "ways", "p", "goal", "other"]) (sc := defScope s_next_hop) (by decide +kernel)) (fun _ _ _ _ _ => (pg_name (i := 4) sc_next_hop.nd rfl (by first | exact Or.inl rfl | exact Or.inr rfl))) (fun _ _ _ _ _ => pts_nil) (fun _ _ _ _ _ => (pe_tup (pa_cons (pe_ix (ix_seqK (K := K) rfl) (pe_ix (ix_seqK (K := K) rfl) (pv 1) (pv 3) (fun _ _ => rfl)) (pv 4) (fun _ _ => rfl)) (pa_cons (pv 4) pa_nil))))) pa_nil)) pe_int (fun _ _ => rfl))))), ?_⟩
  try dsimp only [cxOf, Cx.nox]
  repeat' (first | subst "st0" | fail)
  · have e : p = g := Int.ofNat_inj.mp (by assumption)
    exact q H p (Ex.refl _) ⟨fun _ => rfl, fun z => absurd e z⟩
  have npg : p ≠ g := fun z => absurd (congrArg Int.ofNat z) (by assumption)
  obtain ⟨f, hf, F⟩ := W1.row g hg
  refine q_ixL (sql N1.ob) (rg_at (by rw [N1.len]; exact hp)) ?_
  refine q_iL (sql (N1.row p hp)) ?_
  intro L hL
  refine lc_list (xs := nats (nbs es p)) (fun i H2 => Ex H H2 ∧ ∃ ts, H2 L = some (.lst ts) ∧ Paired (TupII H2) ts (((nbs es p).take i).map fun u => (dAt f u, (u : Int)))) ?_ ?_ ?_ ?_
  · exact ⟨ex_updF (Ex.refl _) hL, [], upd_same, .nil⟩
  · rintro i H2 _ ⟨e2, _⟩
    exact sql (e2 _ _ (N1.row p hp))
  · rintro i x H2 hi ⟨e2, ts, h2, hp2⟩
    obtain ⟨u, hu, rfl⟩ := nats_in hi
    have au : Adj es p u := mem_nbs.mp (List.mem_of_getElem? hu)
    have ul := (hval.adj au).2.1
    have b9 := nbs_le es p
    refine ⟨rfl, ?_⟩
    repeat' (first | subst "st0" | fail)
    refine q_ixL (sql (e2 _ _ W1.ob)) (rg_at (by rw [W1.len]; exact hg)) ?_
    repeat' (first | subst "st0" | fail)
    refine q_ixL (sql (e2 _ _ hf)) (iv_at (dAt_isD F ul)) ?_
    repeat' (first | subst "st0" | fail)
    have tl : ts.length ≤ 2000 := by
      rw [paired_len hp2, List.length_map, List.length_take]
      omega
    have tL : p ≠ L := (ne_of_none h2 (by assumption)).symm
    refine ⟨ts, ke _ _ h2, sl1000' (by omega), ex_updF (e2.trans ke) hL, _, upd_same, ?_⟩
    rw [List.take_add_one, hu]
    rw [show (some u).toList = [u] from rfl]
    rw [List.map_append]
    refine paired_snoc ?_ (paired_imp (fun v w k => ?_) hp2)
    · exact ⟨p, rfl, by rw [upd_ne tL]; assumption⟩
    · obtain ⟨t2, rfl, ht2⟩ := k
      refine ⟨t2, rfl, ?_⟩
      rw [upd_ne (fun z => by rw [z, h2] at ht2; cases ht2)]
      exact ke _ _ ht2
  · rintro H2 ⟨e2, ts, h2, hp2⟩
    rw [show (nats (nbs es p)).length = (nbs es p).length by unfold nats; rw [List.length_map], List.take_length] at hp2
    have dpos : 0 < dAt f p := by
      have h0 := hcon g f p F hp
      by_cases c : dAt f p = 0
      · exact absurd (F.zero p c) npg
      · omega
    repeat' (first | subst "st0" | fail)
    refine ⟨L, ts, _, rfl, h2, hp2, ?_, ?_⟩
    · obtain ⟨u, hu, _⟩ := F.pre p dpos
      rw [List.length_map]
      exact List.length_pos_of_mem (mem_nbs.mpr hu.sym)
    · intro i v y hv hy hall
      obtain ⟨y', hy', t, rfl, ht⟩ := paired_at hp2 hv
      rw [hy] at hy'
      cases hy'
      rw [List.getElem?_map] at hy
      obtain ⟨u, hu, rfl⟩ := Option.map_eq_some_iff.mp hy
      have mu := mem_nbs.mp (List.mem_of_getElem? hu)
      repeat' (first | subst "st0" | fail)
      refine q H2 u e2 ⟨fun z => absurd z npg, fun _ f' F' => ?_⟩
      rw [isD_eq F' F]
      refine hop_least F dpos mu (fun z hz => ?_)
      have := hall _ (List.mem_map.mpr ⟨z, mem_nbs.mpr hz, rfl⟩)
      unfold ltP at this
      simp only at this
      split at this
      · rename_i c
        simp only [decide_eq_false_iff_not] at this
        exact .inr ⟨c.symm, by omega⟩
      · simp only [decide_eq_false_iff_not] at this
        exact .inl (by omega)
structure Hops (es : Es) (n : Nat) (H : Hp) (b : Addr) (hs : List Addr) : Prop where
  ob : H b = some (.lst (hs.map V.ref))
  len : hs.length = n
  row : ∀ p, p < n → ∃ ms : List Nat, H (rg hs p) = some (.lst (nats ms)) ∧ ms.length = n ∧ ∀ g m, ms[g]? = some m → Hop es n p g m
theorem hops_ex {es : Es} {n : Nat} {H H' : Hp} {r : Addr} {rs : List Addr} (e : Ex H H') (h : Hops es n H r rs) : Hops es n H' r rs := ⟨e _ _ h.ob, h.len, fun v hv => by
  obtain ⟨f, h1, h2⟩ := h.row v hv
  exact ⟨f, e _ _ h1, h2⟩⟩
def sp_hops : Sp := fun vs H Q _ => ∃ (n : Nat) (a : Addr) (es : Es), vs = [.int n, .ref a] ∧ LkI H a (casts es) ∧ Val es n ∧ Conn es n ∧ n ≤ 100 ∧ es.length ≤ 1000 ∧ ∀ H' p hs, Ex H H' → Hops es n H' p hs → Q (.ref p) H'
theorem c_hops {n : Nat} {a : Addr} {es : Es} {H : Hp} {Q : VK} {E : XK} (h1 : LkI H a (casts es)) (h2 : Val es n) (h3 : Conn es n) (h4 : n ≤ 100 ∧ es.length ≤ 1000) (q : ∀ H' p hs, Ex H H' → Hops es n H' p hs → Q (.ref p) H') : sp_hops [.int n, .ref a] H Q E :=
  ⟨n, a, es, rfl, h1, h2, h3, h4.1, h4.2, q⟩
theorem ok_hops (T : Glo K w mg) (D : Dn K mg "next_hops" s_next_hops p_next_hops) (G_neighbours : Cal P w K mg base "neighbours" 1 p_neighbours sp_nbs) (G_distances : Cal P w K mg base "distances" 2 p_distances sp_dist) (G_next_hop : Cal P w K mg base "next_hop" 1 p_next_hop sp_hop) : Cal P w K mg base "next_hops" 3 p_next_hops sp_hops := by
  refine D.ok sc_next_hops (fun vs H Q E h => ?_) (fun f cdv A outer s H vs Q E hr h => ?_)
  · obtain ⟨_, _, _, rfl, _⟩ := h
    rfl
  obtain ⟨n, a, es, rfl, hlk, hval, hcon, hn, hes, q⟩ := h
  refine ⟨_, (pss_cons (ps_set (i := 2) sc_next_hops.nd rfl (by first | exact Or.inl rfl | exact Or.inr rfl) (pe_cal G_neighbours (hr.mono (by (first | subst "lev" | fail))) rfl (pa_cons (pv 0) (pa_cons (pv 1) pa_nil)))) (pss_cons (ps_set (i := 3) sc_next_hops.nd rfl (by first | exact Or.inl rfl | exact Or.inr rfl) (pe_lc (own := [("goal", 4)]) (tt := tYes) rfl sc_next_hops.nd (pi_range1 rfl T.n_range (pa_cons (pv 0) pa_nil)) (blkOk_by (N := ["processors", "links", "near", "ways", "goal", "p"]) (sc := defScope s_next_hops) (by decide +kernel)) (fun _ _ _ _ _ => (pg_name (i := 4) sc_next_hops.nd rfl (by first | exact Or.inl rfl | exact Or.inr rfl))) (fun _ _ _ _ _ => pts_nil) (fun _ _ _ _ _ => (pe_cal G_distances (hr.mono (by (first | subst "lev" | fail))) rfl (pa_cons (pv 0) (pa_cons (pv 1) (pa_cons (pv 4) pa_nil))))))) (pss_one (ps_ret (pe_lc (own := [("p", 5)]) (tt := tYes) rfl sc_next_hops.nd (pi_range1 rfl T.n_range (pa_cons (pv 0) pa_nil)) (blkOk_by (N := ["processors", "links", "near", "ways", "goal", "p"]) (sc := defScope s_next_hops) (by decide +kernel)) (fun _ _ _ _ _ => (pg_name (i := 5) sc_next_hops.nd rfl (by first | exact Or.inl rfl | exact Or.inr rfl))) (fun _ _ _ _ _ => pts_nil) (fun _ _ _ _ _ => (pe_lc (own := [("goal", 4)]) (tt := tYes) rfl sc_next_hops.nd (pi_range1 rfl T.n_range (pa_cons (pv 0) pa_nil)) (blkOk_by (N := ["processors", "links", "near", "ways", "goal", "p"]) (by kernel_rfl)) (fun _ _ _ _ _ => (pg_name (i := 4) sc_next_hops.nd rfl (by first | exact Or.inl rfl | exact Or.inr rfl))) (fun _ _ _ _ _ => pts_nil) (fun _ _ _ _ _ => (pe_cal G_next_hop (hr.mono (by (first | subst "lev" | fail))) rfl (pa_cons (pv 2) (pa_cons (pv 3) (pa_cons (pv 5) (pa_cons (pv 4) pa_nil))))))))))))), ?_⟩
  try dsimp only [cxOf, Cx.nox]
  repeat' (first | subst "st0" | fail)
  refine c_nbs hlk hval hn hes (fun H1 r rs e1 hr1 N1 => ?_)
  repeat' (first | subst "st0" | fail)
  intro L hL
  refine lc_range (lo := 0) (n := ((n : Nat) : Int).toNat) (fun i H2 => Ex H1 H2 ∧ ∃ ds : List Addr, ds.length = i ∧ H2 L = some (.lst (ds.map V.ref)) ∧ ∀ g, g < i → rg ds g ≠ L ∧ ∃ f, H2 (rg ds g) = some (.lst (iv f)) ∧ IsD es n g f) ?_ ?_ ?_
  · exact ⟨ex_updF (Ex.refl _) hL, [], rfl, upd_same, fun v hv => absurd hv (Nat.not_lt_zero v)⟩
  · rintro i H2 hi ⟨e2, ds, ld, h2, hv2⟩
    rw [Int.toNat_natCast] at hi
    refine ⟨rfl, ?_⟩
    repeat' (first | subst "st0" | fail)
    rw [Int.zero_add]
    refine c_dist (lk_ex (e1.trans e2) hlk) hval hn hes hi (fun H3 t f k3 ht hf F => ?_)
    have tL : t ≠ L := (ne_of_none h2 ht).symm
    refine ⟨ds.map V.ref, k3 _ _ h2, sl1000' (by rw [List.length_map]; omega), ex_updF (e2.trans k3) hL, ds ++ [t], by simp [ld], ?_, fun g hg => ?_⟩
    · rw [upd_same, List.map_append]
      rfl
    · by_cases c : g < i
      · rw [rg_app (by omega)]
        obtain ⟨x1, f', x2, x3⟩ := hv2 g c
        exact ⟨x1, f', by rw [upd_ne x1]; exact k3 _ _ x2, x3⟩
      · have eg : g = ds.length := by omega
        rw [eg, rg_end]
        exact ⟨tL, f, by rw [upd_ne tL]; exact hf, by rw [ld]; exact F⟩
  · rintro H2 ⟨e2, ds, ld, h2, hv2⟩
    rw [Int.toNat_natCast] at ld hv2
    have W2 : Ways es n H2 L ds := ⟨h2, ld, fun g hg => (hv2 g hg).2⟩
    repeat' (first | subst "st0" | fail)
    intro M hM
    refine lc_range (lo := 0) (n := ((n : Nat) : Int).toNat) (fun i H3 => Ex H2 H3 ∧ ∃ hs : List Addr, hs.length = i ∧ H3 M = some (.lst (hs.map V.ref)) ∧ ∀ p, p < i → rg hs p ≠ M ∧ ∃ ms : List Nat, H3 (rg hs p) = some (.lst (nats ms)) ∧ ms.length = n ∧ ∀ g m, ms[g]? = some m → Hop es n p g m) ?_ ?_ ?_
    · exact ⟨ex_updF (Ex.refl _) hM, [], rfl, upd_same, fun v hv => absurd hv (Nat.not_lt_zero v)⟩
    · rintro i H3 hi ⟨e3, hs, lh, h3, hv3⟩
      rw [Int.toNat_natCast] at hi
      refine ⟨rfl, ?_⟩
      repeat' (first | subst "st0" | fail)
      intro R hR
      have MR : M ≠ R := ne_of_none h3 hR
      refine lc_range (lo := 0) (n := ((n : Nat) : Int).toNat) (fun j H4 => Ex H3 H4 ∧ ∃ ms : List Nat, ms.length = j ∧ H4 R = some (.lst (nats ms)) ∧ ∀ g m, ms[g]? = some m → Hop es n i g m) ?_ ?_ ?_
      · exact ⟨ex_updF (Ex.refl _) hR, [], rfl, upd_same, fun g m z => by cases z⟩
      · rintro j H4 hj ⟨e4, ms, lm, h4, hv4⟩
        rw [Int.toNat_natCast] at hj
        refine ⟨rfl, ?_⟩
        repeat' (first | subst "st0" | fail)
        rw [Int.zero_add, Int.zero_add]
        refine c_hop (near_ex (e2.trans (e3.trans e4)) N1) (ways_ex (e3.trans e4) W2) hval hcon ⟨hn, hes⟩ hi hj (fun H5 m k5 hm => ?_)
        refine ⟨nats ms, k5 _ _ h4, sl1000' (by unfold nats; rw [List.length_map]; omega), ex_updF (e4.trans k5) hR, ms ++ [m], by simp [lm], ?_, fun g m' hg => ?_⟩
        · rw [upd_same]
          unfold nats
          rw [List.map_append]
          rfl
        · by_cases c : g < ms.length
          · rw [List.getElem?_append_left c] at hg
            exact hv4 g m' hg
          · have lg := (List.getElem?_eq_some_iff.mp hg).1
            rw [List.length_append, List.length_singleton] at lg
            have eg : g = ms.length := by omega
            rw [eg, List.getElem?_append_right (Nat.le_refl _), Nat.sub_self] at hg
            cases hg
            rw [eg, lm]
            exact hm
      · rintro H4 ⟨e4, ms, lm, h4, hv4⟩
        rw [Int.toNat_natCast] at lm
        refine ⟨hs.map V.ref, e4 _ _ h3, sl1000' (by rw [List.length_map]; omega), ex_updF (e3.trans e4) hM, hs ++ [R], by simp [lh], ?_, fun p hp => ?_⟩
        · rw [upd_same, List.map_append]
          rfl
        · by_cases c : p < i
          · rw [rg_app (by omega)]
            obtain ⟨x1, ms', x2, x3⟩ := hv3 p c
            exact ⟨x1, ms', by rw [upd_ne x1]; exact e4 _ _ x2, x3⟩
          · have eg : p = hs.length := by omega
            rw [eg, rg_end]
            exact ⟨MR.symm, ms, by rw [upd_ne MR.symm]; exact h4, lm, by rw [lh]; exact hv4⟩
    · rintro H3 ⟨e3, hs, lh, h3, hv3⟩
      rw [Int.toNat_natCast] at lh hv3
      exact q H3 M hs (e1.trans (e2.trans e3)) ⟨h3, lh, fun p hp => (hv3 p hp).2⟩
variable {CL CP : Addr}
/-! ### what is due -/
abbrev s_PlanError___init__ : Stmt := inClass (topS 2) 0
theorem sc_PlanError___init__ : FnScope ["self", "reason"] ["self", "reason"] (defScope s_PlanError___init__) := ⟨rfl, rfl, rfl, by decide +kernel, rfl, by decide +kernel, by decide +kernel⟩
abbrev p_PlanError___init__ : List Str := ["self", "reason"]
def dP (p : Int × Int) : PyData := .tuple [.int p.1, .int p.2]
theorem dp_pair {H : Hp} {v : V} {p : Int × Int} (h : TupII H v p) : Dp K H v (dP p) := by
  obtain ⟨q, rfl, hq⟩ := h
  exact .tup (sqt hq) (.cons (.int _) (.cons (.int _) .nil))
theorem dp_pairs {H : Hp} : ∀ {vs : List V} {ls : List (Int × Int)}, Paired (TupII H) vs ls → DpAll K H vs (ls.map dP)
  | _, _, .nil => .nil
  | _, _, .cons a t => .cons (dp_pair a) (dp_pairs t)
theorem eqv_dP (p q : Int × Int) : PyData.eqv (dP p) (dP q) = decide (p = q) := by
  obtain ⟨a, b⟩ := p
  obtain ⟨c, d⟩ := q
  simp only [dP, PyData.eqv, PyData.eqvAll, Bool.and_true, Prod.mk.injEq, Bool.decide_and]
  rfl
theorem lay_dP : ∀ ls : List (Int × Int), PyData.canLayAll0 (ls.map dP) = true
  | [] => by simp [PyData.canLayAll0]
  | p :: r => by simp [PyData.canLayAll0, dP, PyData.canLay0, lay_dP r]
theorem depth_dP : ∀ ls : List (Int × Int), PyData.depthAll (ls.map dP) ≤ 1
  | [] => by simp [PyData.depthAll]
  | p :: r => by
    have h := depth_dP r
    have e : PyData.depth (dP p) = 1 := by simp [dP, PyData.depth, PyData.depthAll]
    rw [List.map_cons, PyData.depthAll, e]
    omega
theorem sh_dP (p : Int × Int) : SeqAt.shaped (dP p) = true := by simp [SeqAt.shaped, dP, PyData.canLay0, PyData.canLayAll0, PyData.depth, PyData.depthAll]
theorem sh_dPs (ls : List (Int × Int)) : SeqAt.shaped (.list (ls.map dP)) = true := by
  have h1 := lay_dP ls
  have h2 := depth_dP ls
  have e1 : PyData.depth (.list (ls.map dP)) = PyData.depthAll (ls.map dP) + 1 := by rw [PyData.depth]
  have e2 : PyData.canLay0 (.list (ls.map dP)) = PyData.canLayAll0 (ls.map dP) := by rw [PyData.canLay0]
  unfold SeqAt.shaped
  rw [e1, e2, h1, Bool.true_and, decide_eq_true_eq]
  omega
theorem any_dP (p : Int × Int) (ls : List (Int × Int)) : ((ls.map dP).any fun z => PyData.eqv z (dP p)) = decide (p ∈ ls) := by
  induction ls with
  | nil => simp
  | cons q r ih =>
    rw [List.map_cons, List.any_cons, ih, eqv_dP]
    by_cases h : q = p
    · simp [h]
    · have : ¬ p = q := fun z => h z.symm
      simp [h, this]
theorem q_inP {t l : Addr} {p : Int × Int} {vs : List V} {ls : List (Int × Int)} {H : Hp} {Q : VK} (h1 : H t = some (.tup [.int p.1, .int p.2])) (h2 : H l = some (.lst vs)) (h3 : Paired (TupII H) vs ls) (q : Q (.bl (decide (p ∈ ls))) H) : rInD K (.ref t) (.ref l) H Q :=
  ⟨dP p, ls.map dP, dp_pair ⟨t, rfl, h1⟩, .lst (sql h2) (dp_pairs h3), sh_dP p, sh_dPs ls, by rw [any_dP]; exact q⟩
theorem in_iv (x : Int) (f : List Int) : inV (.int x) (iv f) = decide (x ∈ f) := by
  unfold inV iv
  rw [List.any_map, Bool.eq_iff_iff, List.any_eq_true, decide_eq_true_eq]
  constructor
  · rintro ⟨y, hy, e⟩
    have : y = x := by simpa [eqV] using e
    rw [← this]
    exact hy
  · intro h
    exact ⟨x, h, by simp [eqV]⟩
theorem flat_iv (f : List Int) : (iv f).all flatV = true := by
  unfold iv
  rw [List.all_map, List.all_eq_true]
  intro x _
  rfl
def BadAt (n : Int) (ls : List (Int × Int)) (k : Nat) : Prop := ∃ a b, ls[k]? = some (a, b) ∧ (a < 0 ∨ b ≤ a ∨ n ≤ b ∨ (a, b) ∈ ls.take k)
theorem no_bad {n : Int} {ls : List (Int × Int)} (hn : 1 ≤ n) (h : ∀ k, k < ls.length → ¬ BadAt n ls k) : ∃ es, ls = casts es ∧ Val es n.toNat := by
  have hm : ∀ p ∈ ls, 0 ≤ p.1 ∧ p.1 < p.2 ∧ p.2 < n := by
    intro p hp
    obtain ⟨k, hk, e⟩ := List.mem_iff_getElem.mp hp
    have h1 := h k hk
    have e2 : ls[k]? = some (p.1, p.2) := by rw [List.getElem?_eq_getElem hk, e]
    have n1 : ¬ (p.1 < 0) := fun z => h1 ⟨_, _, e2, .inl z⟩
    have n2 : ¬ (p.2 ≤ p.1) := fun z => h1 ⟨_, _, e2, .inr (.inl z)⟩
    have n3 : ¬ (n ≤ p.2) := fun z => h1 ⟨_, _, e2, .inr (.inr (.inl z))⟩
    omega
  refine ⟨ls.map fun p => (p.1.toNat, p.2.toNat), ?_, ?_⟩
  · unfold casts
    rw [List.map_map]
    conv => lhs; rw [← List.map_id ls]
    refine List.map_congr_left fun p hp => ?_
    obtain ⟨h1, h2, _⟩ := hm p hp
    obtain ⟨a, b⟩ := p
    simp only [Function.comp, id, Prod.mk.injEq] at *
    omega
  · intro e he
    obtain ⟨p, hp, rfl⟩ := List.mem_map.mp he
    obtain ⟨h1, h2, h3⟩ := hm p hp
    simp only
    omega
theorem val_good {n : Nat} {es : Es} {k : Nat} (h : Val es n) (hd : ∀ k a b, (casts es)[k]? = some (a, b) → (a, b) ∉ (casts es).take k) : ¬ BadAt n (casts es) k := by
  rintro ⟨a, b, h1, h2⟩
  have h3 := hd k a b h1
  unfold casts at h1
  rw [List.getElem?_map] at h1
  obtain ⟨e, he, h4⟩ := Option.map_eq_some_iff.mp h1
  have := h e (List.mem_of_getElem? he)
  cases h4
  rcases h2 with h2 | h2 | h2 | h2
  · omega
  · omega
  · omega
  · exact h3 h2
inductive Due (n : Int) (ls : List (Int × Int)) : Str → Prop
  | num : n < 1 ∨ 6 < n → Due n ls "processors"
  | lnk (k : Nat) : 1 ≤ n → n ≤ 6 → BadAt n ls k → Due n ls "links"
  | prt (m : Nat) (es : Es) (f : List Int) : n = m → 1 ≤ m → m ≤ 6 → ls = casts es → Val es m → (∀ k, ¬ BadAt n ls k) → IsD es m 0 f → -1 ∈ f → Due n ls "parts"
  | ok (m : Nat) (es : Es) (f : List Int) : n = m → 1 ≤ m → m ≤ 6 → ls = casts es → Val es m → (∀ k, ¬ BadAt n ls k) → IsD es m 0 f → -1 ∉ f → Due n ls ""
theorem casts_inj : ∀ {es fs : Es}, casts es = casts fs → es = fs
  | [], [], _ => rfl
  | [], _ :: _, h => by simp [casts] at h
  | _ :: _, [], h => by simp [casts] at h
  | e :: es, f :: fs, h => by
    simp only [casts, List.map_cons, List.cons.injEq, Prod.mk.injEq] at h
    have := casts_inj (es := es) (fs := fs) h.2
    rw [this, Prod.ext (Int.ofNat_inj.mp h.1.1) (Int.ofNat_inj.mp h.1.2)]
theorem due_eq {n : Int} {ls : List (Int × Int)} {r t : Str} (a : Due n ls r) (b : Due n ls t) : r = t := by
  cases a with
  | num h =>
    cases b with
    | num => rfl
    | lnk k h1 h2 => omega
    | prt m es f e h1 h2 => omega
    | ok m es f e h1 h2 => omega
  | lnk k h1 h2 h3 =>
    cases b with
    | num => omega
    | lnk => rfl
    | prt m es f e h4 h5 h6 h7 h8 => exact absurd h3 (h8 k)
    | ok m es f e h4 h5 h6 h7 h8 => exact absurd h3 (h8 k)
  | prt m es f e h1 h2 h3 h4 h5 h6 h7 =>
    cases b with
    | num => omega
    | lnk k _ _ h => exact absurd h (h5 k)
    | prt => rfl
    | ok m' es' f' e' g1 g2 g3 g4 g5 g6 g7 =>
      have em : m = m' := Int.ofNat_inj.mp (e.symm.trans e')
      have ee : es = es' := casts_inj (h3.symm.trans g3)
      subst em
      subst ee
      rw [isD_eq h6 g6] at h7
      exact absurd h7 g7
  | ok m es f e h1 h2 h3 h4 h5 h6 h7 =>
    cases b with
    | num => omega
    | lnk k _ _ h => exact absurd h (h5 k)
    | ok => rfl
    | prt m' es' f' e' g1 g2 g3 g4 g5 g6 g7 =>
      have em : m = m' := Int.ofNat_inj.mp (e.symm.trans e')
      have ee : es = es' := casts_inj (h3.symm.trans g3)
      subst em
      subst ee
      rw [isD_eq h6 g6] at h7
      exact absurd g7 h7
def sp_check (C : Addr) : Sp := fun vs H Q E => ∃ (n : Int) (a : Addr) (ls : List (Int × Int)), vs = [.int n, .ref a] ∧ LkI H a ls ∧ ls.length ≤ 1000 ∧ (∀ H', Ex H H' → Due n ls "" → Q .non H') ∧
  (∀ r d H', Ex H H' → H' d = some (.xd [(("reason" : Str), .str r)]) → r ≠ "" → Due n ls r → E (.ref C) (some d) H')
theorem ok_check (T : Glo K w mg) (D : Dn K mg "check_network" s_check_network p_check_network) (T_PlanError : ErrC K mg "PlanError" CL "reason") (M_PlanError : MakE P w K mg base CL 1 p_PlanError___init__ (sp_einit CL "reason")) (G_distances : Cal P w K mg base "distances" 2 p_distances sp_dist) : CalX P w K mg base "check_network" 3 p_check_network (sp_check CL) := by
  refine D.okX sc_check_network (fun vs H Q E h => ?_) (fun f cdv A outer s H vs Q E hr h => ?_)
  · obtain ⟨_, _, _, rfl, _⟩ := h
    rfl
  obtain ⟨n, a, ls, rfl, hlk, hls, q, qe⟩ := h
  have tk := takes_def (P := P) (w := w) (K := K) (mg := mg) (base := base) (N := (["processors", "links", "index", "a", "b"] : List Str)) (x := "check_network") (sc := defScope s_check_network) (f := f) (cdv := cdv) (A := A) (outer := outer) (s := s) (H := H) (E := E)
  have po := passes_def (P := P) (w := w) (K := K) (mg := mg) (base := base) (N := (["processors", "links", "index", "a", "b"] : List Str)) (x := "check_network") (sc := defScope s_check_network) (f := f) (cdv := cdv) (A := A) (outer := outer) (s := s) (H := H) (E := E)
  refine ⟨_, (pss_cons (ps_if (PW.pt (pw_or (pt_cmpR op_lt (pv 0) pe_int (nomark _)) (pw_or1 (pt_cmpR op_gt (pv 0) (pe_globC rfl T.c_MOST_PROCESSORS) (nomark _))))) (pss_one (ps_err rfl tk T_PlanError M_PlanError (hr.mono (by (first | subst "lev" | fail))) rfl (pa_cons pe_str pa_nil))) pss_nil) (pss_cons (ps_for po rfl (pi_enum rfl T.n_enumerate (pa_cons (pv 1) pa_nil)) (pg_tup rfl (pgs_cons (pg_name (i := 2) sc_check_network.nd rfl (by first | exact Or.inl rfl | exact Or.inr rfl)) (pgs_cons (pg_tup rfl (pgs_cons (pg_name (i := 3) sc_check_network.nd rfl (by first | exact Or.inl rfl | exact Or.inr rfl)) (pgs_cons (pg_name (i := 4) sc_check_network.nd rfl (by first | exact Or.inl rfl | exact Or.inr rfl)) pgs_nil))) pgs_nil))) (pss_one (ps_if (PW.pt (pw_or (pt_cmpR op_lt (pv 3) pe_int (nomark _)) (pw_or (pt_cmpR op_ge (pv 3) (pv 4) (nomark _)) (pw_or (pt_cmpR op_ge (pv 4) (pv 0) (nomark _)) (pw_or1 (pt_cmpR (op_inD (hu65 hr)) (pe_tup (pa_cons (pv 3) (pa_cons (pv 4) pa_nil))) (pe_slice sl_any (pv 1) po_none (po_some (pv 2))) (by rfl))))))) (pss_one (ps_err rfl tk T_PlanError M_PlanError (hr.mono (by (first | subst "lev" | fail))) rfl (pa_cons pe_str pa_nil))) pss_nil))) (pss_one (ps_if (pt_cmpR op_in_seq (pe_un un_neg pe_int) (pe_cal G_distances (hr.mono (by (first | subst "lev" | fail))) rfl (pa_cons (pv 0) (pa_cons (pv 1) (pa_cons pe_int pa_nil)))) (by rfl)) (pss_one (ps_err rfl tk T_PlanError M_PlanError (hr.mono (by (first | subst "lev" | fail))) rfl (pa_cons pe_str pa_nil))) pss_nil)))), ?_⟩
  try dsimp only [cxOf]
  obtain ⟨vs0, hvs0, hpr0⟩ := hlk
  have lvs := paired_len hpr0
  repeat' (first | subst "st0" | fail)
  · exact fun d H2 hd k2 h2 => qe _ d H2 k2 h2 (by decide +kernel) (.num (.inl (by assumption)))
  · exact fun d H2 hd k2 h2 => qe _ d H2 k2 h2 (by decide +kernel) (.num (.inr (by assumption)))
  have n1 : 1 ≤ n := by omega
  have n6 : n ≤ 6 := by omega
  refine r_iEnum ?_
  repeat' (first | subst "st0" | fail)
  refine q_iEnum (sql hvs0) ?_
  refine w_enum (xs := vs0) (fun i σ H' => ∃ y2 y3 y4 : Option V, σ = [some (.int n), some (.ref a), y2, y3, y4] ∧ Ex H H' ∧ ∀ k, k < i → ¬ BadAt n ls k) ?_ ?_ ?_ ?_
  · exact ⟨_, _, _, rfl, Ex.refl _, fun k hk => absurd hk (Nat.not_lt_zero k)⟩
  · rintro i σ H' _ ⟨_, _, _, _, e2, _⟩
    exact sql (e2 _ _ hvs0)
  · rintro i x T1 σ H' hi ⟨y2, y3, y4, rfl, e2, hb⟩ hT
    obtain ⟨⟨ax, bx⟩, hax, t, rfl, ht⟩ := paired_at hpr0 hi
    simp only at ht
    generalize hq9 : upd H' T1 _ = H9
    have x9 : Ex H' H9 := Ex.mk hT hq9
    have h9 := at_new hq9
    have ht9 := x9 _ _ (e2 _ _ ht)
    have hl9 := x9 _ _ (e2 _ _ hvs0)
    have bad : ∀ (hh : ax < 0 ∨ bx ≤ ax ∨ n ≤ bx ∨ (ax, bx) ∈ ls.take i) (d : Addr) (H2 : Hp), Ex H9 H2 → H2 d = some (.xd [(("reason" : Str), .str "links")]) → E (.ref CL) (some d) H2 := fun hh d H2 k2 h2 => qe _ d H2 (e2.trans (x9.trans k2)) h2 (by decide +kernel) (.lnk i n1 n6 ⟨ax, bx, hax, hh⟩)
    have li : i < ls.length := (List.getElem?_eq_some_iff.mp hax).1
    repeat' (first | subst "st0" | fail)
    · exact fun d H2 hd k2 h2 => bad (.inl (by assumption)) d H2 k2 h2
    · exact fun d H2 hd k2 h2 => bad (.inr (.inl (by assumption))) d H2 k2 h2
    · exact fun d H2 hd k2 h2 => bad (.inr (.inr (.inl (by assumption)))) d H2 k2 h2
    refine q_slTo (sql (ke _ _ hl9)) (by omega) (fun p2 H3 hp2 k3 h3 => ?_)
    refine q_inP (p := (ax, bx)) (ls := ls.take i) (k3 _ _ hn) h3 (paired_take i (paired_imp (fun _ _ => tup_ex (e2.trans (x9.trans (ke.trans k3)))) hpr0)) ?_
    by_cases cc : (ax, bx) ∈ ls.take i
    · rw [decide_eq_true cc]
      repeat' (first | subst "st0" | fail)
      exact fun d H2 hd k2 h2 => bad (.inr (.inr (.inr cc))) d H2 (ke.trans (k3.trans k2)) h2
    · rw [decide_eq_false cc]
      repeat' (first | subst "st0" | fail)
      refine ⟨_, _, _, rfl, e2.trans (x9.trans (ke.trans k3)), fun k hk => ?_⟩
      by_cases ck : k < i
      · exact hb k ck
      · have ek : k = i := by omega
        subst ek
        rintro ⟨a1, b1, h1, h2⟩
        rw [hax] at h1
        cases h1
        rcases h2 with h2 | h2 | h2 | h2
        · omega
        · omega
        · omega
        · exact cc h2
  · rintro σ H' ⟨y2, y3, y4, rfl, e2, hb⟩
    rw [lvs] at hb
    obtain ⟨es, rfl, hval⟩ := no_bad n1 hb
    obtain ⟨m, rfl⟩ : ∃ m : Nat, n = m := ⟨n.toNat, by omega⟩
    rw [Int.toNat_natCast] at hval
    have hb2 : ∀ k, ¬ BadAt (m : Int) (casts es) k := fun k => by
      by_cases ck : k < (casts es).length
      · exact hb k ck
      · rintro ⟨a1, b1, h1, _⟩
        rw [List.getElem?_eq_none (by omega)] at h1
        cases h1
    have les : es.length ≤ 1000 := by
      have := hls
      unfold casts at this
      rw [List.length_map] at this
      exact this
    repeat' (first | subst "st0" | fail)
    refine c_dist (g := 0) ⟨vs0, e2 _ _ hvs0, paired_imp (fun _ _ => tup_ex e2) hpr0⟩ hval (by omega) les (by omega) (fun H3 t f k3 ht hf F => ?_)
    refine q_inL (sql hf) rfl (flat_iv f) ?_
    rw [in_iv]
    by_cases cc : (-1 : Int) ∈ f
    · rw [decide_eq_true cc]
      repeat' (first | subst "st0" | fail)
      exact fun d H2 hd k2 h2 => qe _ d H2 (e2.trans (k3.trans k2)) h2 (by decide +kernel) (.prt m es f rfl (by omega) (by omega) rfl hval hb2 F cc)
    · rw [decide_eq_false cc]
      repeat' (first | subst "st0" | fail)
      exact q _ (e2.trans k3) (.ok m es f rfl (by omega) (by omega) rfl hval hb2 F cc)
/-! ### a row of distances exists -/
theorem turn_go {es : Es} {n g p : Nat} (hv : Val es n) (hp : p < n) : ∀ (l dn : List Nat) (f : List Int) (q : List Nat), nbs es p = dn ++ l → Turn es n g p dn f q → ∃ f' q', Turn es n g p (nbs es p) f' q' ∧ cntN f' + q'.length = cntN f + q.length
  | [], dn, f, q, e, T => ⟨f, q, by rw [e, List.append_nil]; exact T, rfl⟩
  | w :: l, dn, f, q, e, T => by
    have aw : Adj es p w := mem_nbs.mp (by rw [e]; simp)
    have hw := (hv.adj aw).2.1
    have e2 : nbs es p = (dn ++ [w]) ++ l := by rw [e]; simp
    by_cases c : dAt f w < 0
    · obtain ⟨f', q', h1, h2⟩ := turn_go hv hp l _ _ _ e2 (turn_new T aw hw c)
      have ct := cnt_set (x := dAt f p + 1) (by rw [T.len]; exact hw) c (by have := T.at_p; omega)
      rw [List.length_append, List.length_singleton] at h2
      exact ⟨f', q', h1, by omega⟩
    · obtain ⟨f', q', h1, h2⟩ := turn_go hv hp l _ _ _ e2 (turn_old T (by omega))
      exact ⟨f', q', h1, h2⟩
theorem srch_ex {es : Es} {n g : Nat} (hv : Val es n) : ∀ (m : Nat) (f : List Int) (q : List Nat), Srch es n g f q → cntN f + q.length ≤ m → ∃ f', IsD es n g f'
  | m, f, [], S, _ => ⟨f, srch_end S⟩
  | 0, f, p :: q, S, h => by rw [List.length_cons] at h; omega
  | m + 1, f, p :: q, S, h => by
    have hp : p < n := by
      have := dAt_in (S.qs p (List.mem_cons_self ..))
      rw [S.len] at this
      exact this
    obtain ⟨f', q', h1, h2⟩ := turn_go hv hp (nbs es p) [] f q rfl (turn_start S)
    rw [List.length_cons] at h
    exact srch_ex hv m f' q' (turn_end h1 fun w hw => mem_nbs.mpr hw) (by omega)
theorem isD_ex {es : Es} {n g : Nat} (hv : Val es n) (hg : g < n) : ∃ f, IsD es n g f := srch_ex hv _ _ _ (srch_start hg) (Nat.le_refl _)
theorem conn_of {es : Es} {n : Nat} {f0 : List Int} (F0 : IsD es n 0 f0) (h : -1 ∉ f0) : Conn es n := by
  have pos : ∀ v, v < n → 0 ≤ dAt f0 v := fun v hv => by
    have l1 := F0.low v
    have l2 : dAt f0 v ≠ -1 := fun z => h (by
      have := dAt_some (f := f0) (v := v) (by rw [F0.len]; exact hv)
      rw [z] at this
      exact List.mem_of_getElem? this)
    omega
  have down : ∀ {g : Nat} {f : List Int}, IsD es n g f → ∀ (k v : Nat), dAt f0 v = k → 0 ≤ dAt f v → 0 ≤ dAt f 0 := by
    intro g f F k
    induction k with
    | zero =>
      intro v e hv
      rw [F0.zero v e] at hv
      exact hv
    | succ k ih =>
      intro v e hv
      obtain ⟨u, hu, hd⟩ := F0.pre v (by omega)
      exact ih u (by omega) (F.edge v u hu.sym hv).1
  have up : ∀ {g : Nat} {f : List Int}, IsD es n g f → 0 ≤ dAt f 0 → ∀ (k v : Nat), dAt f0 v = k → 0 ≤ dAt f v := by
    intro g f F h0 k
    induction k with
    | zero =>
      intro v e
      rw [F0.zero v e]
      exact h0
    | succ k ih =>
      intro v e
      obtain ⟨u, hu, hd⟩ := F0.pre v (by omega)
      exact (F.edge u v hu (ih u (by omega))).1
  intro g f v F hv
  have hg : g < n := by
    have h1 := F.go
    have := dAt_in (f := f) (v := g) (by omega)
    rw [F.len] at this
    exact this
  have h1 := pos g hg
  have h2 := pos v hv
  have h3 := down F (dAt f0 g).toNat g (by omega) (by rw [F.go]; exact Int.le_refl 0)
  exact up F h3 (dAt f0 v).toNat v (by omega)
theorem due_ok {n : Int} {ls : List (Int × Int)} {r : Str} (h : Due n ls r) (e : r = "") : ∃ (m : Nat) (es : Es) (f : List Int), n = m ∧ 1 ≤ m ∧ m ≤ 6 ∧ ls = casts es ∧ Val es m ∧ IsD es m 0 f ∧ -1 ∉ f := by
  cases h with
  | num => exact absurd e (by decide +kernel)
  | lnk => exact absurd e (by decide +kernel)
  | prt => exact absurd e (by decide +kernel)
  | ok m es f h1 h2 h3 h4 h5 h6 h7 h8 => exact ⟨m, es, f, h1, h2, h3, h4, h5, h7, h8⟩
abbrev s_check_places : Stmt := topS 18
theorem sc_check_places : FnScope ["processors", "places", "many", "p"] ["processors", "places", "many"] (defScope s_check_places) := ⟨rfl, rfl, rfl, by decide +kernel, rfl, by decide +kernel, by decide +kernel⟩
abbrev p_check_places : List Str := ["processors", "places", "many"]
abbrev s_make_plan : Stmt := topS 17
theorem sc_make_plan : FnScope ["core", "network", "places", "homes", "processors", "links", "channels", "kind", "home"] ["core", "network", "places", "homes"] (defScope s_make_plan) := ⟨rfl, rfl, rfl, by decide +kernel, rfl, by decide +kernel, by decide +kernel⟩
abbrev p_make_plan : List Str := ["core", "network", "places", "homes"]
abbrev s_Plan___init__ : Stmt := inClass (topS 16) 0
theorem sc_Plan___init__ : FnScope ["self", "network", "places", "homes", "processors", "links"] ["self", "network", "places", "homes"] (defScope s_Plan___init__) := ⟨rfl, rfl, rfl, by decide +kernel, rfl, by decide +kernel, by decide +kernel⟩
abbrev p_Plan___init__ : List Str := ["self", "network", "places", "homes"]
section
variable {CL CP : Addr}
/-! ### zip -/
theorem w_zip {K : PySem.W.Frag} {g : TG} {ts : Ends → L2.St → Hp → Prop} {nx : L2.St → Hp → Prop} {rt : VK} {σ : L2.St} {H : Hp} {a b : Addr} {xs ys : List V} (Pv : Nat → L2.St → Hp → Prop) (hn : xs.length = ys.length) (h0 : Pv 0 σ H)
    (hl : ∀ i σ H, i ≤ xs.length → Pv i σ H → SqL K H a xs ∧ SqL K H b ys)
    (hs : ∀ i x y T σ H, xs[i]? = some x → ys[i]? = some y → Pv i σ H → H T = none → g (.ref T) σ (upd H T (.tup [x, y])) fun σ2 H2 => ts ⟨Pv (i + 1), rt, nx, Pv (i + 1)⟩ σ2 H2) (hd : ∀ σ H, Pv xs.length σ H → nx σ H) :
    ∃ W : Nat → Nat → L2.St → Hp → Prop, (∃ m, W 0 m σ H) ∧ ∀ i m σ H, W i m σ H →
      ((Itz K a b).stop i H ∧ nx σ H) ∨ ((Itz K a b).go i H ∧ ∃ N : L2.St → Hp → Prop, (∀ σ' H', N σ' H' → ∃ m', m' < m ∧ W (i + 1) m' σ' H') ∧ ∀ x H', (Itz K a b).yld i H x H' → g x σ H' fun σ2 H2 => ts ⟨N, rt, nx, N⟩ σ2 H2) :=
  for_it (D := ⟨nx, rt, nx, nx⟩) (walk_zip (n := xs.length) (by rw [hn, Nat.min_self])) Pv h0 hl (fun i x σ H H' _ p y => by
    obtain ⟨T, u, v, h1, h2, h3, h4, h5⟩ := y
    subst h1
    subst h3
    exact hs i u v T σ H h4 h5 p h2) hd
theorem r_iZip {K : PySem.W.Frag} {ta : TA} {σ : L2.St} {H : Hp} {R : It → Hp → Prop} (q : ta σ H fun vs H1 => ∃ a b xs ys, vs = [.ref a, .ref b] ∧ SqL K H1 a xs ∧ SqL K H1 b ys ∧ R (Itz K a b) H1) : iZip K ta σ H R := q
theorem q_iZip {K : PySem.W.Frag} {H : Hp} {a b : Addr} {xs ys : List V} {B : Addr → Addr → Prop} (h : SqL K H a xs) (h2 : SqL K H b ys) (q : B a b) : ∃ c d zs ws, [V.ref a, V.ref b] = [.ref c, .ref d] ∧ SqL K H c zs ∧ SqL K H d ws ∧ B c d := ⟨a, b, xs, ys, rfl, h, h2, q⟩
/-! ### check_places -/
def InR (n : Int) (ps : List Int) : Prop := ∀ x ∈ ps, 0 ≤ x ∧ x < n
def sp_places (C : Addr) : Sp := fun vs H Q E => ∃ (n many : Int) (a : Addr) (ps : List Int), vs = [.int n, .ref a, .int many] ∧ H a = some (.lst (ps.map V.int)) ∧ ps.length ≤ 2000 ∧ (∀ H', Ex H H' → (ps.length : Int) = many ∧ InR n ps → Q .non H') ∧
  (∀ d H', Ex H H' → H' d = some (.xd [(("reason" : Str), .str "places")]) → ¬ ((ps.length : Int) = many ∧ InR n ps) → E (.ref C) (some d) H')
theorem ok_places (T : Glo K w mg) (D : Dn K mg "check_places" s_check_places p_check_places) (T_PlanError : ErrC K mg "PlanError" CL "reason") (M_PlanError : MakE P w K mg base CL 1 p_PlanError___init__ (sp_einit CL "reason")) : CalX P w K mg base "check_places" 3 p_check_places (sp_places CL) := by
  refine D.okX sc_check_places (fun vs H Q E h => ?_) (fun f cdv A outer s H vs Q E hr h => ?_)
  · obtain ⟨_, _, _, _, rfl, _⟩ := h
    rfl
  obtain ⟨n, many, a, ps, rfl, ha, hl, q, qe⟩ := h
  have tk := takes_def (P := P) (w := w) (K := K) (mg := mg) (base := base) (N := (["processors", "places", "many", "p"] : List Str)) (x := "check_places") (sc := defScope s_check_places) (f := f) (cdv := cdv) (A := A) (outer := outer) (s := s) (H := H) (E := E)
  have po := passes_def (P := P) (w := w) (K := K) (mg := mg) (base := base) (N := (["processors", "places", "many", "p"] : List Str)) (x := "check_places") (sc := defScope s_check_places) (f := f) (cdv := cdv) (A := A) (outer := outer) (s := s) (H := H) (E := E)
  refine ⟨_, (pss_cons (ps_if (pt_cmpR (op_neA (hu64 hr)) (pe_callB call_lenA rfl T.n_len (by decide +kernel) (pa_cons (pv 1) pa_nil)) (pv 2) (nomark _)) (pss_one (ps_err rfl tk T_PlanError M_PlanError (hr.mono (by (first | subst "lev" | fail))) rfl (pa_cons pe_str pa_nil))) pss_nil) (pss_one (ps_for po rfl (pi_list (pv 1)) (pg_name (i := 3) sc_check_places.nd rfl (by first | exact Or.inl rfl | exact Or.inr rfl)) (pss_one (ps_if (PW.pt (pw_or (pt_cmpR op_lt (pv 3) pe_int (nomark _)) (pw_or1 (pt_cmpR op_ge (pv 3) (pv 0) (nomark _))))) (pss_one (ps_err rfl tk T_PlanError M_PlanError (hr.mono (by (first | subst "lev" | fail))) rfl (pa_cons pe_str pa_nil))) pss_nil))))), ?_⟩
  try dsimp only [cxOf]
  have hml : (ps.map V.int).length = ps.length := List.length_map ..
  repeat' (first | specialize "st" | fail)
  · rename_i c
    rw [hml] at c
    exact fun d H2 hd k2 h2 => qe d H2 k2 h2 fun z => c z.1
  rename_i c
  rw [hml] at c
  refine w_list (xs := ps.map V.int) (fun i σ H' => ∃ y3 : Option V, σ = [some (.int n), some (.ref a), some (.int many), y3] ∧ Ex H H' ∧ ∀ x ∈ ps.take i, 0 ≤ x ∧ x < n) ?_ ?_ ?_ ?_
  · exact ⟨_, rfl, Ex.refl _, fun x hx => by simp at hx⟩
  · rintro i σ H' _ ⟨_, _, e2, _⟩
    exact sql (e2 _ _ ha)
  · rintro i x σ H' hi ⟨y3, rfl, e2, hb⟩
    rw [List.getElem?_map] at hi
    obtain ⟨z, hz, rfl⟩ := Option.map_eq_some_iff.mp hi
    have hzm := List.mem_of_getElem? hz
    repeat' (first | specialize "st" | fail)
    · rename_i c1
      exact fun d H2 hd k2 h2 => qe d H2 (e2.trans k2) h2 fun w1 => by have := w1.2 z hzm; omega
    · rename_i c1 c2
      exact fun d H2 hd k2 h2 => qe d H2 (e2.trans k2) h2 fun w1 => by have := w1.2 z hzm; omega
    · refine ⟨_, rfl, e2, fun x hx => ?_⟩
      rcases (take_snoc hz).mp hx with hx | rfl
      · exact hb x hx
      · omega
  · rintro σ H' ⟨y3, rfl, e2, hb⟩
    rw [hml, List.take_length] at hb
    repeat' (first | specialize "st" | fail)
    exact q _ e2 ⟨by assumption, hb⟩
end
/-! ### Plan -/
structure PlnK (K : PySem.W.Frag) (C : Addr) : Prop where
  cl : Cls K C
  n1 : NoAttr K C "processors"
  n2 : NoAttr K C "links"
  n3 : NoAttr K C "threads"
  n4 : NoAttr K C "homes"
  n5 : NoAttr K C "hops"
section
variable {C : Addr}
def pfl (n : Nat) (l t h q : Addr) : List (Str × V) := [("processors", .int n), ("links", .ref l), ("threads", .ref t), ("homes", .ref h), ("hops", .ref q)]
def sp_pinit (C : Addr) : Sp := fun vs H Q _ => ∃ (a dx nt lk pl hm : Addr) (n : Nat) (es : Es) (lvs pvs hvs : List V), vs = [.ref a, .ref nt, .ref pl, .ref hm] ∧ H a = some (.ins C dx []) ∧ H nt = some (.tup [.int n, .ref lk]) ∧ H lk = some (.lst lvs) ∧ Paired (TupII H) lvs (casts es) ∧ Val es n ∧ Conn es n ∧ n ≤ 100 ∧ es.length ≤ 1000 ∧
  H pl = some (.lst pvs) ∧ pvs.length ≤ 2000 ∧ H hm = some (.lst hvs) ∧ hvs.length ≤ 2000 ∧
  ∀ (H' : Hp) (l t h q : Addr) (rows : List Addr), Kp [a] H H' → H' a = some (.ins C dx (pfl n l t h q)) → H l = none → H t = none → H h = none → H' l = some (.lst lvs) → H' t = some (.lst pvs) → H' h = some (.lst hvs) → Hops es n H' q rows → Q .non H'
theorem tupII_kp {M : List Addr} {H H' : Hp} (e : Kp M H H') {v : V} {p : Int × Int} (h : TupII H v p) : TupII H' v p := by
  obtain ⟨q, rfl, hq⟩ := h
  exact ⟨q, rfl, e.tup _ _ hq⟩
theorem hops_kp {es : Es} {n : Nat} {H H' : Hp} {M : List Addr} {r : Addr} {rs : List Addr} (k : Kp M H H') (n1 : r ∉ M) (n2 : ∀ p, p < n → rg rs p ∉ M) (h : Hops es n H r rs) : Hops es n H' r rs := ⟨k.out _ _ n1 h.ob, h.len, fun p hp => by
  obtain ⟨ms, h1, h2⟩ := h.row p hp
  exact ⟨ms, k.out _ _ (n2 p hp) h1, h2⟩⟩
theorem ok_pinit (T : Glo K w mg) (W : PlnK K C) (D : DnI K mg "Plan" "Plan.__init__" C s_Plan___init__ p_Plan___init__) (G_next_hops : Cal P w K mg base "next_hops" 3 p_next_hops sp_hops) : MakC P w K mg base "Plan" C 4 p_Plan___init__ (sp_pinit C) := by
  obtain ⟨hcS, n1, n2, n3, n4, n5⟩ := W
  refine D.ok sc_Plan___init__ (fun vs H Q E h => ?_) (fun f cdv A outer s H vs Q E hr h => ?_)
  · obtain ⟨_, _, _, _, _, _, _, _, _, _, _, rfl, _⟩ := h
    rfl
  obtain ⟨a, dx, nt, lk, pl, hm, n, es, lvs, pvs, hvs, rfl, ha, hnt, hlk, hpr, hval, hcon, hn1, hes, hpl, hpz, hhm, hhz, q⟩ := h
  refine ⟨_, (pss_cons (ps_asg (pv 1) (pg_tup rfl (pgs_cons (pg_name (i := 4) sc_Plan___init__.nd rfl (by first | exact Or.inl rfl | exact Or.inr rfl)) (pgs_cons (pg_name (i := 5) sc_Plan___init__.nd rfl (by first | exact Or.inl rfl | exact Or.inr rfl)) pgs_nil)))) (pss_cons (ps_fld (pv 0) (pv 4) rfl) (pss_cons (ps_fld (pv 0) (pe_callTy call_listA rfl T.n_list (by decide +kernel) (pa_cons (pv 5) pa_nil)) rfl) (pss_cons (ps_fld (pv 0) (pe_callTy call_listA rfl T.n_list (by decide +kernel) (pa_cons (pv 2) pa_nil)) rfl) (pss_cons (ps_fld (pv 0) (pe_callTy call_listA rfl T.n_list (by decide +kernel) (pa_cons (pv 3) pa_nil)) rfl) (pss_one (ps_fld (pv 0) (pe_cal G_next_hops (hr.mono (by (first | subst "lev" | fail))) rfl (pa_cons (pv 4) (pa_cons (pv 5) pa_nil))) rfl))))))), ?_⟩
  try dsimp only [cxOf, Cx.nox]
  have na : lk ∉ [a] := fun z => by rw [List.mem_singleton.mp z, ha] at hlk; cases hlk
  have np : pl ∉ [a] := fun z => by rw [List.mem_singleton.mp z, ha] at hpl; cases hpl
  have nh : hm ∉ [a] := fun z => by rw [List.mem_singleton.mp z, ha] at hhm; cases hhm
  have hlvz : lvs.length ≤ 1000 := by
    have := Paired.length hpr
    unfold casts at this
    rw [List.length_map] at this
    omega
  repeat' (first | specialize "st" | fail)
  rename_i H1 k1 hu1 lp H2 hlp e2 hn2 H3 k3 hu3 tp H4 htp e4 hn4 H5 k5 hu5 H6
  have a2 : H2 a ≠ none := fsome (e2 _ _ hu1)
  have a3 : H3 a ≠ none := fsome hu3
  have a5 : H5 a ≠ none := fsome hu5
  have back : ∀ {x : Addr} {G G' : Hp}, x ∉ [a] → Kp [a] G G' → G' x = none → G x = none := fun {x G G'} n k h => by
    cases h1 : G x with
    | none => rfl
    | some o => rw [k.out _ _ n h1] at h; cases h
  have nlp : lp ∉ [a] := fun z => by rw [List.mem_singleton.mp z] at hlp; exact fsome hu1 hlp
  have ntp : tp ∉ [a] := fun z => by rw [List.mem_singleton.mp z] at htp; exact a3 htp
  have nhp : p ∉ [a] := fun z => by rw [List.mem_singleton.mp z] at hp; exact a5 hp
  have f1 : H lp = none := back nlp k1 hlp
  have f3 : H tp = none := back ntp k1 (free_back e2 (back ntp k3 htp))
  have f5 : H p = none := back nhp k1 (free_back e2 (back nhp k3 (free_back e4 (back nhp k5 hp))))
  have kk : Kp [a] H Hn := k1.trans (e2.kp.trans (k3.trans (e4.kp.trans (k5.trans (ke.kp.trans ku)))))
  have l6 : Hn lp = some (.lst lvs) := ku.out _ _ nlp (ke _ _ (k5.out _ _ nlp (e4 _ _ (k3.out _ _ nlp hn2))))
  have t6 : Hn tp = some (.lst pvs) := ku.out _ _ ntp (ke _ _ (k5.out _ _ ntp hn4))
  have h6 : Hn p = some (.lst hvs) := ku.out _ _ nhp hn
  refine c_hops ⟨lvs, kk.out _ _ na hlk, Paired.mapP hpr fun _ _ => tupII_kp kk⟩ hval hcon ⟨hn1, hes⟩ (fun H7 q' rows e7 hops => ?_)
  have ha7 := e7 _ _ hu
  clear k1 e2 k3 e4 k5 ke ku hu1 hn2 hu3 hn4 hu5 hn hu
  repeat' (first | specialize "st" | fail)
  exact q Hn lp tp p q' rows (kk.trans (e7.kp.trans ku)) hu f1 f3 f5 (ku.out _ _ nlp (e7 _ _ l6)) (ku.out _ _ ntp (e7 _ _ t6)) (ku.out _ _ nhp (e7 _ _ h6)) (hops_kp ku (fun z => by have h1 := hops.ob; rw [List.mem_singleton.mp z, ha7] at h1; cases h1) (fun p0 hp0 z => by obtain ⟨ms, h1, _⟩ := hops.row p0 hp0; rw [List.mem_singleton.mp z, ha7] at h1; cases h1) hops)
/-! ### make_plan -/
/-- what is due: n processors, links ls, places ps of many threads, homes hs of channels chs -/
inductive DueP (n : Int) (ls : List (Int × Int)) (ps hs : List Int) (chs : List Str) (many : Nat) : Str → Prop
  | net (r : Str) : Due n ls r → r ≠ "" → DueP n ls ps hs chs many r
  | pl : Due n ls "" → ¬ (ps.length = many ∧ InR n ps ∧ hs.length = chs.length ∧ InR n hs) → DueP n ls ps hs chs many "places"
  | hm (i : Nat) (x : Str) (z : Int) : Due n ls "" → ps.length = many ∧ InR n ps ∧ hs.length = chs.length ∧ InR n hs → chs[i]? = some x → hs[i]? = some z → x ≠ "inner" → z ≠ 0 → DueP n ls ps hs chs many "homes"
  | ok : Due n ls "" → ps.length = many ∧ InR n ps ∧ hs.length = chs.length ∧ InR n hs → (∀ (i : Nat) (x : Str) (z : Int), chs[i]? = some x → hs[i]? = some z → x = "inner" ∨ z = 0) → DueP n ls ps hs chs many ""
def sp_mkplan (C CP : Addr) (n0 : Nat) : Sp := fun vs H Q E => ∃ (pc nt pl hm ch lk : Addr) (nc n : Int) (s : Sx) (sv : V) (bl : List (V × V)) (chs : List Str) (ls : List (Int × Int)) (ps hs : List Int), vs = [.ref pc, .ref nt, .ref pl, .ref hm] ∧ H pc = some (.tup [.str "core", .int nc, .ref ch, sv]) ∧ H ch = some (.lst (chs.map V.str)) ∧ chs.length ≤ 100 ∧
  Brs [] H n0 s sv (.int 0) bl ∧ s.num 1 ∧ s.cnt ≤ 40 ∧ s.sz ≤ 50000 ∧ H nt = some (.tup [.int n, .ref lk]) ∧ LkI H lk ls ∧ ls.length ≤ 1000 ∧ H pl = some (.lst (ps.map V.int)) ∧ ps.length ≤ 2000 ∧ H hm = some (.lst (hs.map V.int)) ∧ hs.length ≤ 2000 ∧
  (∀ (H' : Hp) (p dx l t h q : Addr) (m : Nat) (es : Es) (lvs : List V) (rows : List Addr), Ex H H' → DueP n ls ps hs chs (s.cnt + 1) "" → n = m → ls = casts es → Val es m → Conn es m → H' p = some (.ins CP dx (pfl m l t h q)) → H p = none → H l = none → H t = none → H h = none → H' l = some (.lst lvs) → H lk = some (.lst lvs) → Paired (TupII H') lvs ls → H' t = some (.lst (ps.map V.int)) → H' h = some (.lst (hs.map V.int)) → Hops es m H' q rows → Q (.ref p) H') ∧
  (∀ (r : Str) d H', Ex H H' → H' d = some (.xd [(("reason" : Str), .str r)]) → r ≠ "" → DueP n ls ps hs chs (s.cnt + 1) r → E (.ref C) (some d) H')
theorem ok_mkplan {CL : Addr} (T : Glo K w mg) (D : Dn K mg "make_plan" s_make_plan p_make_plan) (n0 : Nat) (T_PlanError : ErrC K mg "PlanError" CL "reason") (M_PlanError : MakE P w K mg base CL 1 p_PlanError___init__ (sp_einit CL "reason")) (M_Plan : MakC P w K mg base "Plan" C 4 p_Plan___init__ (sp_pinit C))
    (G_check_network : CalX P w K mg base "check_network" 3 p_check_network (sp_check CL)) (G_check_places : CalX P w K mg base "check_places" 3 p_check_places (sp_places CL)) (G_threads_of : Cal P w K mg base "threads_of" (1 + n0 + 1) p_threads_of (sp_threads n0)) : CalX P w K mg base "make_plan" (1 + n0 + 5) p_make_plan (sp_mkplan CL C n0) := by
  refine D.okX sc_make_plan (fun vs H Q E h => ?_) (fun f cdv A outer s H vs Q E hr h => ?_)
  · obtain ⟨_, _, _, _, _, _, _, _, _, _, _, _, _, _, _, rfl, _⟩ := h
    rfl
  obtain ⟨pc, nt, pl, hm, ch, lk, nc, n, s0, sv, bl, chs, ls, ps, hs, rfl, hpc, hch, hcz, hbr, hnum, hcnt, hsz, hnt, hlk, hlz, hpl, hpz, hhm, hhz, q, qe⟩ := h
  have tk := takes_def (P := P) (w := w) (K := K) (mg := mg) (base := base) (N := (["core", "network", "places", "homes", "processors", "links", "channels", "kind", "home"] : List Str)) (x := "make_plan") (sc := defScope s_make_plan) (f := f) (cdv := cdv) (A := A) (outer := outer) (s := s) (H := H) (E := E)
  have po := passes_def (P := P) (w := w) (K := K) (mg := mg) (base := base) (N := (["core", "network", "places", "homes", "processors", "links", "channels", "kind", "home"] : List Str)) (x := "make_plan") (sc := defScope s_make_plan) (f := f) (cdv := cdv) (A := A) (outer := outer) (s := s) (H := H) (E := E)
  refine ⟨_, (pss_cons (ps_asg (pv 1) (pg_tup rfl (pgs_cons (pg_name (i := 4) sc_make_plan.nd rfl (by first | exact Or.inl rfl | exact Or.inr rfl)) (pgs_cons (pg_name (i := 5) sc_make_plan.nd rfl (by first | exact Or.inl rfl | exact Or.inr rfl)) pgs_nil)))) (pss_cons (ps_set (i := 6) sc_make_plan.nd rfl (by first | exact Or.inl rfl | exact Or.inr rfl) (pe_ix ix_seq (pv 0) pe_int (fun _ _ => rfl))) (pss_cons (ps_expr (pe_calX G_check_network (hr.mono (by (first | subst "lev" | fail))) rfl tk (pa_cons (pv 4) (pa_cons (pv 5) pa_nil)))) (pss_cons (ps_expr (pe_calX G_check_places (hr.mono (by (first | subst "lev" | fail))) rfl tk (pa_cons (pv 4) (pa_cons (pv 2) (pa_cons (pe_callB call_lenA rfl T.n_len (by decide +kernel) (pa_cons (pe_cal G_threads_of (hr.mono (by (first | subst "lev" | fail))) rfl (pa_cons (pv 0) pa_nil)) pa_nil)) pa_nil))))) (pss_cons (ps_expr (pe_calX G_check_places (hr.mono (by (first | subst "lev" | fail))) rfl tk (pa_cons (pv 4) (pa_cons (pv 3) (pa_cons (pe_callB call_lenA rfl T.n_len (by decide +kernel) (pa_cons (pv 6) pa_nil)) pa_nil))))) (pss_cons (ps_for po rfl (pi_zip rfl T.n_zip (pa_cons (pv 6) (pa_cons (pv 3) pa_nil))) (pg_tup rfl (pgs_cons (pg_name (i := 7) sc_make_plan.nd rfl (by first | exact Or.inl rfl | exact Or.inr rfl)) (pgs_cons (pg_name (i := 8) sc_make_plan.nd rfl (by first | exact Or.inl rfl | exact Or.inr rfl)) pgs_nil))) (pss_one (ps_if (PW.pt (pw_and (pt_cmpR (op_neA (hu64 hr)) (pv 7) pe_str (nomark _)) (pw_and1 (pt_cmpR (op_neA (hu64 hr)) (pv 8) pe_int (nomark _))))) (pss_one (ps_err rfl tk T_PlanError M_PlanError (hr.mono (by (first | subst "lev" | fail))) rfl (pa_cons pe_str pa_nil))) pss_nil))) (pss_one (ps_ret (pe_mkC M_Plan (hr.mono (by (first | subst "lev" | fail))) rfl (pa_cons (pv 1) (pa_cons (pv 2) (pa_cons (pv 3) pa_nil)))))))))))), ?_⟩
  try dsimp only [cxOf]
  repeat' (first | specialize "st" | fail)
  refine ⟨n, lk, ls, rfl, hlk, hlz, fun H1 e1 du => ?_, fun r d H1 e1 hd hr0 du => qe r d H1 e1 hd hr0 (.net r du hr0)⟩
  have hpc1 := e1 _ _ hpc
  have hbr1 := hbr.kp (M := []) e1.kp
  repeat' (first | specialize "st" | fail)
  refine ⟨pc, ch, nc, s0, sv, bl, rfl, hpc1, hbr1, hnum, hcnt, hsz, fun L us H2 e2 hL hL2 _ hul => ?_⟩
  have e12 := e1.trans e2
  have hpl2 := e12 _ _ hpl
  clear hbr1 hpc1
  repeat' (first | specialize "st" | fail)
  refine ⟨n, _, pl, ps, rfl, hpl2, hpz, fun H3 e3 ok1 => ?_, fun d H3 e3 hd no1 => qe "places" d H3 (e12.trans e3) hd (by decide +kernel) (.pl du fun z => no1 ⟨by rw [hul]; omega, z.2.1⟩)⟩
  obtain ⟨ol1, or1⟩ := ok1
  have e13 := e12.trans e3
  have hch3 := e13 _ _ hch
  have hhm3 := e13 _ _ hhm
  have hpc3 := e13 _ _ hpc
  clear e2 e3 hL hL2
  repeat' (first | specialize "st" | fail)
  refine ⟨n, _, hm, hs, rfl, hhm3, hhz, fun H4 e4 ok2 => ?_, fun d H4 e4 hd no2 => qe "places" d H4 (e13.trans e4) hd (by decide +kernel) (.pl du fun z => no2 ⟨by rw [List.length_map]; omega, z.2.2.2⟩)⟩
  obtain ⟨ol2, or2⟩ := ok2
  rw [List.length_map] at ol2
  have all : ps.length = s0.cnt + 1 ∧ InR n ps ∧ hs.length = chs.length ∧ InR n hs := ⟨by rw [hul] at ol1; omega, or1, by omega, or2⟩
  have e14 := e13.trans e4
  have hch4 := e14 _ _ hch
  have hhm4 := e14 _ _ hhm
  clear hpc3 hch3 hhm3 e4
  repeat' (first | specialize "st" | fail)
  refine r_iZip ?_
  repeat' (first | specialize "st" | fail)
  refine q_iZip (sql hch4) (sql hhm4) ?_
  refine w_zip (xs := chs.map V.str) (ys := hs.map V.int) (fun i σ H' => ∃ y7 y8 : Option V, σ = [some (.ref pc), some (.ref nt), some (.ref pl), some (.ref hm), some (.int n), some (.ref lk), some (.ref ch), y7, y8] ∧ Ex H H' ∧ ∀ (k : Nat) (x : Str) (z : Int), k < i → chs[k]? = some x → hs[k]? = some z → x = "inner" ∨ z = 0) (by simp only [List.length_map]; omega) ?_ ?_ ?_ ?_
  · exact ⟨_, _, rfl, e14, fun k x z hk => absurd hk (Nat.not_lt_zero k)⟩
  · rintro i σ H' _ ⟨_, _, _, e5, _⟩
    exact ⟨sql (e5 _ _ hch), sql (e5 _ _ hhm)⟩
  · rintro i x y T1 σ H' hx hy ⟨y7, y8, rfl, e5, hgood⟩ hT
    rw [List.getElem?_map] at hx hy
    obtain ⟨x1, hx1, rfl⟩ := Option.map_eq_some_iff.mp hx
    obtain ⟨z1, hz1, rfl⟩ := Option.map_eq_some_iff.mp hy
    clear hx hy
    generalize hq9 : upd H' T1 _ = H9
    have x9 : Ex H' H9 := Ex.mk hT hq9
    have h9 := at_new hq9
    have e9 := e5.trans x9
    clear hq9 x9 e5
    repeat' (first | specialize "st" | fail)
    · rename_i c1 c2
      exact fun d H2 hd k2 h2 => qe "homes" d H2 (e9.trans k2) h2 (by decide +kernel) (.hm i x1 z1 du all hx1 hz1 c1 c2)
    · refine ⟨_, _, rfl, e9, fun k x z hk hx hz => ?_⟩
      by_cases ck : k < i
      · exact hgood k x z ck hx hz
      · obtain rfl : k = i := by omega
        rw [hx1] at hx
        rw [hz1] at hz
        cases hx
        cases hz
        exact .inr (by assumption)
    · refine ⟨_, _, rfl, e9, fun k x z hk hx hz => ?_⟩
      by_cases ck : k < i
      · exact hgood k x z ck hx hz
      · obtain rfl : k = i := by omega
        rw [hx1] at hx
        cases hx
        exact .inl (by assumption)
  · rintro σ H5 ⟨y7, y8, rfl, e5, hgood⟩
    have hnt5 := e5 _ _ hnt
    have hpl5 := e5 _ _ hpl
    have hhm5 := e5 _ _ hhm
    repeat' (first | specialize "st" | fail)
    obtain ⟨m, es, f0, rfl, hm1, hm6, rfl, hval, hF, hnf⟩ := due_ok du rfl
    have hcon := conn_of hF hnf
    obtain ⟨lvs, hlv, hlp⟩ := hlk
    intro x dx nx ndx ne
    have old : Ex H5 (upd (upd H5 dx (.own x)) x (.ins C dx [])) := fun b u hb => by
      rw [upd_ne (ne_of_none hb nx), upd_ne (ne_of_none hb ndx)]
      exact hb
    have e6 := e5.trans old
    have hx0 : H x = none := free_back e5 nx
    have hez : List.length es ≤ 1000 := by
      unfold casts at hlz
      rw [List.length_map] at hlz
      exact hlz
    refine ⟨x, dx, nt, lk, pl, hm, m, es, lvs, ps.map V.int, hs.map V.int, rfl, upd_same, old _ _ hnt5, e6 _ _ hlv, Paired.mapP hlp fun _ _ => tup_ex e6, hval, hcon, by omega, hez, old _ _ hpl5, by rw [List.length_map]; exact hpz, old _ _ hhm5, by rw [List.length_map]; exact hhz, fun H7 l t h q' rows k7 ha f1 f2 f3 g1 g2 g3 hops => ⟨rfl, ?_⟩⟩
    have e7 : Ex H H7 := fun b u hb => k7.out _ _ (nin_c (ne_of_none hb hx0) List.not_mem_nil) (e6 _ _ hb)
    exact q H7 x dx l t h q' m es lvs rows e7 (.ok du all fun i x z hx hz => hgood i x z (by rw [List.length_map]; exact (List.getElem?_eq_some_iff.mp hx).1) hx hz) rfl rfl hval hcon ha hx0 (free_back e6 f1) (free_back e6 f2) (free_back e6 f3) g1 hlv (Paired.mapP hlp fun _ _ => tup_ex e7) g2 g3 hops
end
/-! ### what is due, once -/
theorem dueP_eq {n : Int} {ls : List (Int × Int)} {ps hs : List Int} {chs : List Str} {many : Nat} {r t : Str} (a : DueP n ls ps hs chs many r) (b : DueP n ls ps hs chs many t) : r = t := by
  cases a with
  | net _ h1 h2 =>
    cases b with
    | net _ g1 g2 => exact due_eq h1 g1
    | pl g1 _ => exact absurd (due_eq h1 g1) h2
    | hm _ _ _ g1 _ _ _ _ _ => exact absurd (due_eq h1 g1) h2
    | ok g1 _ _ => exact absurd (due_eq h1 g1) h2
  | pl h1 h2 =>
    cases b with
    | net _ g1 g2 => exact absurd (due_eq g1 h1) g2
    | pl => rfl
    | hm _ _ _ _ g _ _ _ _ => exact absurd g h2
    | ok _ g _ => exact absurd g h2
  | hm i x z h1 h2 h3 h4 h5 h6 =>
    cases b with
    | net _ g1 g2 => exact absurd (due_eq g1 h1) g2
    | pl _ g => exact absurd h2 g
    | hm => rfl
    | ok _ _ g => exact absurd (g i x z h3 h4) (fun w => w.elim h5 h6)
  | ok h1 h2 h3 =>
    cases b with
    | net _ g1 g2 => exact absurd (due_eq g1 h1) g2
    | pl _ g => exact absurd h2 g
    | hm i x z _ _ g1 g2 g3 g4 => exact absurd (h3 i x z g1 g2) (fun w => w.elim g3 g4)
    | ok => rfl
/-! ### rows, one after the other -/
theorem Ss.app_nil : ∀ a : Ss, a.app .nil = a
  | .nil => rfl
  | .cons s r => by rw [Ss.app, Ss.app_nil r]
theorem Ps.app_nil : ∀ a : Ps, a.app .nil = a
  | .nil => rfl
  | .cons t s r => by rw [Ps.app, Ps.app_nil r]
theorem As.app_nil : ∀ a : As, a.app .nil = a
  | .nil => rfl
  | .cons g c t s r => by rw [As.app, As.app_nil r]
theorem Ss.app_mid (s : Sx) (r : Ss) : ∀ a : Ss, a.app (.cons s r) = (a.app (.cons s .nil)).app r
  | .nil => rfl
  | .cons x y => by rw [Ss.app, Ss.app, Ss.app, Ss.app_mid s r y]
theorem Ps.app_mid (t : Int) (s : Sx) (r : Ps) : ∀ a : Ps, a.app (.cons t s r) = (a.app (.cons t s .nil)).app r
  | .nil => rfl
  | .cons k x y => by rw [Ps.app, Ps.app, Ps.app, Ps.app_mid t s r y]
theorem As.app_mid (g : Option Tm) (c : Int) (t : Tm) (s : Sx) (r : As) : ∀ a : As, a.app (.cons g c t s r) = (a.app (.cons g c t s .nil)).app r
  | .nil => rfl
  | .cons g' c' t' x y => by rw [As.app, As.app, As.app, As.app_mid g c t s r y]
abbrev s__law_threads : Stmt := topS 44
theorem sc__law_threads : FnScope ["_law_s", "_law_kind", "_law_found", "_law_number_here", "_law_part", "_law_row"] ["_law_s"] (defScope s__law_threads) := ⟨rfl, rfl, rfl, by decide +kernel, rfl, by decide +kernel, by decide +kernel⟩
abbrev p__law_threads : List Str := ["_law_s"]
abbrev s__law_network : Stmt := topS 45
theorem sc__law_network : FnScope ["_law_state_here", "_law_many", "_law_links", "_law_k", "_law_a", "_law_b"] ["_law_state_here"] (defScope s__law_network) := ⟨rfl, rfl, rfl, by decide +kernel, rfl, by decide +kernel, by decide +kernel⟩
abbrev p__law_network : List Str := ["_law_state_here"]
abbrev s__law_told : Stmt := topS 46
theorem sc__law_told : FnScope ["_law_core_here", "_law_network_here", "_law_places", "_law_homes", "e"] ["_law_core_here", "_law_network_here", "_law_places", "_law_homes"] (defScope s__law_told) := ⟨rfl, rfl, rfl, by decide +kernel, rfl, by decide +kernel, by decide +kernel⟩
abbrev p__law_told : List Str := ["_law_core_here", "_law_network_here", "_law_places", "_law_homes"]
abbrev s_spread : Stmt := topS 19
theorem sc_spread : FnScope ["many", "processors", "k"] ["many", "processors"] (defScope s_spread) := ⟨rfl, rfl, rfl, by decide +kernel, rfl, by decide +kernel, by decide +kernel⟩
abbrev p_spread : List Str := ["many", "processors"]
abbrev s_law : Stmt := topS 47
theorem sc_law : FnScope ["_law_script", "_law_state_here", "_law_core_here", "_law_many", "_law_links", "_law_threads_here", "_law_places", "_law_homes", "_law_plan", "_law_network_here", "_law_due", "_law_turn", "_law_at", "_law_outer", "_law_row", "_law_k", "_law_kind", "_law_c"] ["_law_script"] (defScope s_law) := ⟨rfl, rfl, rfl, by decide +kernel, rfl, by decide +kernel, by decide +kernel⟩
abbrev p_law : List Str := ["_law_script"]
def sp_lthreads (n : Nat) : Sp := fun vs H Q _ => ∃ (M : List Addr) (s : Sx) (v : V), vs = [v] ∧ s.In M H v ∧ s.dep ≤ n ∧ s.cnt ≤ 1000 ∧ ∀ (L : Addr) (us : List V) (H' : Hp), Ex H H' → H' L = some (.lst us) → us.length = s.cnt → Q (.ref L) H'
theorem ok_lthreads (T : Glo K w mg) (D : Dn K mg "_law_threads" s__law_threads p__law_threads) (n : Nat) (G__law_threads : Cal P w K mg base "_law_threads" (1 + n) p__law_threads (sp_lthreads n)) : Cal P w K mg base "_law_threads" (1 + n + 1) p__law_threads (sp_lthreads (n + 1)) := by
  refine D.ok sc__law_threads (fun vs H Q E h => ?_) (fun f cdv A outer s H vs Q E hr h => ?_)
  · obtain ⟨_, _, _, rfl, _⟩ := h
    rfl
  obtain ⟨M, s0, v, rfl, hs, hd, hc, q⟩ := h
  refine ⟨_, (pss_cons (ps_set (i := 1) sc__law_threads.nd rfl (by first | exact Or.inl rfl | exact Or.inr rfl) (pe_ix ix_seq (pv 0) pe_int (fun _ _ => rfl))) (pss_cons (ps_set (i := 2) sc__law_threads.nd rfl (by first | exact Or.inl rfl | exact Or.inr rfl) (pe_lst pa_nil)) (pss_cons (ps_if (pt_cmpR (op_eqA (hu64 hr)) (pv 1) pe_str (nomark _)) (pss_one (ps_for PassesOwn.never rfl (pi_list (pe_ix ix_seq (pv 0) pe_int (fun _ _ => rfl))) (pg_tup rfl (pgs_cons (pg_name (i := 3) sc__law_threads.nd rfl (by first | exact Or.inl rfl | exact Or.inr rfl)) (pgs_cons (pg_name (i := 4) sc__law_threads.nd rfl (by first | exact Or.inl rfl | exact Or.inr rfl)) pgs_nil))) (pss_one (ps_set (i := 2) sc__law_threads.nd rfl (by first | exact Or.inl rfl | exact Or.inr rfl) (pe_op op_addA (pe_op op_addA (pv 2) (pe_lst (pa_cons (pv 3) pa_nil))) (pe_cal G__law_threads (hr.mono (by (first | subst "lev" | fail))) rfl (pa_cons (pv 4) pa_nil))))))) (pss_one (ps_if (pt_cmpR (op_eqA (hu64 hr)) (pv 1) pe_str (nomark _)) (pss_one (ps_for PassesOwn.never rfl (pi_list (pe_ix ix_seq (pv 0) pe_int (fun _ _ => rfl))) (pg_name (i := 4) sc__law_threads.nd rfl (by first | exact Or.inl rfl | exact Or.inr rfl)) (pss_one (ps_set (i := 2) sc__law_threads.nd rfl (by first | exact Or.inl rfl | exact Or.inr rfl) (pe_op op_addA (pv 2) (pe_cal G__law_threads (hr.mono (by (first | subst "lev" | fail))) rfl (pa_cons (pv 4) pa_nil))))))) (pss_one (ps_if (pt_cmpR (op_eqA (hu64 hr)) (pv 1) pe_str (nomark _)) (pss_one (ps_for PassesOwn.never rfl (pi_list (pe_ix ix_seq (pv 0) pe_int (fun _ _ => rfl))) (pg_name (i := 5) sc__law_threads.nd rfl (by first | exact Or.inl rfl | exact Or.inr rfl)) (pss_one (ps_set (i := 2) sc__law_threads.nd rfl (by first | exact Or.inl rfl | exact Or.inr rfl) (pe_op op_addA (pv 2) (pe_cal G__law_threads (hr.mono (by (first | subst "lev" | fail))) rfl (pa_cons (pe_ix ix_seq (pv 5) pe_int (fun _ _ => rfl)) pa_nil))))))) (pss_one (ps_if (pt_cmpR (op_eqA (hu64 hr)) (pv 1) pe_str (nomark _)) (pss_one (ps_set (i := 2) sc__law_threads.nd rfl (by first | exact Or.inl rfl | exact Or.inr rfl) (pe_op op_addA (pe_cal G__law_threads (hr.mono (by (first | subst "lev" | fail))) rfl (pa_cons (pe_ix ix_seq (pv 0) pe_int (fun _ _ => rfl)) pa_nil)) (pe_cal G__law_threads (hr.mono (by (first | subst "lev" | fail))) rfl (pa_cons (pe_ix ix_seq (pv 0) pe_int (fun _ _ => rfl)) pa_nil))))) (pss_one (ps_if (pt_cmpR (op_eqA (hu64 hr)) (pv 1) pe_str (nomark _)) (pss_one (ps_set (i := 2) sc__law_threads.nd rfl (by first | exact Or.inl rfl | exact Or.inr rfl) (pe_cal G__law_threads (hr.mono (by (first | subst "lev" | fail))) rfl (pa_cons (pe_ix ix_seq (pv 0) pe_int (fun _ _ => rfl)) pa_nil)))) pss_nil))))))))) (pss_one (ps_ret (pv 2)))))), ?_⟩
  try dsimp only [cxOf, Cx.nox]
  cases s0 with
  | skip =>
    obtain ⟨q0, rfl, hq0⟩ := hs
    repeat' (first | specialize "st" | fail)
    exact q p [] _ ke hn rfl
  | stop =>
    obtain ⟨q0, rfl, hq0⟩ := hs
    repeat' (first | specialize "st" | fail)
    exact q p [] _ ke hn rfl
  | set t e =>
    obtain ⟨q0, _, _, rfl, hq0, _⟩ := hs
    repeat' (first | specialize "st" | fail)
    exact q p [] _ ke hn rfl
  | give c e =>
    obtain ⟨q0, _, rfl, hq0, _⟩ := hs
    repeat' (first | specialize "st" | fail)
    exact q p [] _ ke hn rfl
  | take c t =>
    obtain ⟨q0, _, rfl, hq0, _⟩ := hs
    repeat' (first | specialize "st" | fail)
    exact q p [] _ ke hn rfl
  | ife e a b =>
    obtain ⟨q0, x, y, z, rfl, hq0, hx, ha, hb⟩ := hs
    simp only [Sx.dep] at hd
    simp only [Sx.cnt] at hc
    repeat' (first | specialize "st" | fail)
    refine ⟨M, a, y, rfl, ha.kp (M := M) ke.kp, by omega, by omega, fun L1 us1 H1 e1 h1 l1 => ?_⟩
    have e01 : Ex H H1 := ke.trans e1
    have hq1 := e01 _ _ hq0
    repeat' (first | specialize "st" | fail)
    refine ⟨M, b, z, rfl, hb.kp (M := M) e01.kp, by omega, by omega, fun L2 us2 H2 e2 h2 l2 => ?_⟩
    have h12 := e2 _ _ h1
    clear ke e1 hn hq1 h1
    repeat' (first | specialize "st" | fail)
    exact q p _ _ (e01.trans (e2.trans ke)) hn (by rw [List.length_append, l1, l2]; rfl)
  | rep e m a =>
    obtain ⟨q0, x, y, rfl, hq0, hx, ha⟩ := hs
    simp only [Sx.dep] at hd
    simp only [Sx.cnt] at hc
    repeat' (first | specialize "st" | fail)
    refine ⟨M, a, y, rfl, ha.kp (M := M) ke.kp, by omega, by omega, fun L1 us1 H1 e1 h1 l1 => ?_⟩
    repeat' (first | specialize "st" | fail)
    exact q L1 us1 H1 (ke.trans e1) h1 l1
  | seq ss =>
    obtain ⟨q0, l, xs, rfl, hq0, hl, nl, hss⟩ := hs
    simp only [Sx.dep] at hd
    simp only [Sx.cnt] at hc
    repeat' (first | specialize "st" | fail)
    refine w_list (xs := xs) (fun i σ H3 => ∃ (L : Addr) (us : List V) (pre rest : Ss) (y3 y4 y5 : Option V), σ = [some (.ref q0), some (.str "seq"), some (.ref L), y3, y4, y5] ∧ Ex H H3 ∧ H3 L = some (.lst us) ∧ ss = pre.app rest ∧ us.length = pre.cnt ∧ rest.In M H3 (xs.drop i) ∧ rest.dep ≤ n) ?_ ?_ ?_ ?_
    · exact ⟨p, [], .nil, ss, _, _, _, rfl, ke, hn, rfl, rfl, Ss.In.kp ke.kp hss, by omega⟩
    · rintro i σ H3 _ ⟨_, _, _, _, _, _, _, _, e3, _⟩
      exact sql (e3 _ _ hl)
    · rintro i x σ H3 hx ⟨L, us, pre, rest, y3, y4, y5, rfl, e3, h3, rfl, hul, hr1, hrd⟩
      obtain ⟨hxi, hxe⟩ := List.getElem?_eq_some_iff.mp hx
      rw [List.drop_eq_getElem_cons hxi, hxe] at hr1
      rw [Ss.app_cnt] at hc
      cases rest with
      | nil => cases hr1
      | cons s1 r =>
        obtain ⟨x', xs', e0, hs1, hr2⟩ := hr1
        cases e0
        simp only [Ss.dep] at hrd
        simp only [Ss.cnt] at hc
        clear ke hn
        repeat' (first | specialize "st" | fail)
        refine ⟨M, s1, x, rfl, hs1, by omega, by omega, fun L1 us1 H1 e1 h1 l1 => ?_⟩
        have h31 := e1 _ _ h3
        repeat' (first | specialize "st" | fail)
        refine ⟨p, us ++ us1, pre.app (.cons s1 .nil), r, _, _, _, rfl, e3.trans (e1.trans ke), hn, Ss.app_mid s1 r pre, ?_, Ss.In.kp (e1.trans ke).kp hr2, by omega⟩
        rw [List.length_append, hul, l1, Ss.app_cnt]
        simp only [Ss.cnt]
        omega
    · rintro σ H3 ⟨L, us, pre, rest, y3, y4, y5, rfl, e3, h3, rfl, hul, hr1, _⟩
      rw [List.drop_length] at hr1
      obtain rfl : rest = .nil := by
        cases rest with
        | nil => rfl
        | cons => obtain ⟨_, _, e0, _⟩ := hr1; cases e0
      repeat' (first | specialize "st" | fail)
      exact q L us H3 e3 h3 (by rw [Ss.app_nil]; exact hul)
  | par ss =>
    obtain ⟨q0, l, xs, rfl, hq0, hl, nl, hss⟩ := hs
    simp only [Sx.dep] at hd
    simp only [Sx.cnt] at hc
    repeat' (first | specialize "st" | fail)
    refine w_list (xs := xs) (fun i σ H3 => ∃ (L : Addr) (us : List V) (pre rest : Ps) (y3 y4 y5 : Option V), σ = [some (.ref q0), some (.str "par"), some (.ref L), y3, y4, y5] ∧ Ex H H3 ∧ H3 L = some (.lst us) ∧ ss = pre.app rest ∧ us.length = pre.cnt ∧ rest.In M H3 (xs.drop i) ∧ rest.dep ≤ n) ?_ ?_ ?_ ?_
    · exact ⟨p, [], .nil, ss, _, _, _, rfl, ke, hn, rfl, rfl, Ps.In.kp ke.kp hss, by omega⟩
    · rintro i σ H3 _ ⟨_, _, _, _, _, _, _, _, e3, _⟩
      exact sql (e3 _ _ hl)
    · rintro i x σ H3 hx ⟨L, us, pre, rest, y3, y4, y5, rfl, e3, h3, rfl, hul, hr1, hrd⟩
      obtain ⟨hxi, hxe⟩ := List.getElem?_eq_some_iff.mp hx
      rw [List.drop_eq_getElem_cons hxi, hxe] at hr1
      rw [Ps.app_cnt] at hc
      cases rest with
      | nil => cases hr1
      | cons t s1 r =>
        obtain ⟨q1, y, xs', e0, hq1, hs1, hr2⟩ := hr1
        cases e0
        simp only [Ps.dep] at hrd
        simp only [Ps.cnt] at hc
        clear ke hn
        repeat' (first | specialize "st" | fail)
        have eA : Ex H3 Hn := by (first | subst "exx" | fail)
        refine ⟨M, s1, y, rfl, hs1.kp (M := M) eA.kp, by omega, by omega, fun L1 us1 H1 e1 h1 l1 => ?_⟩
        have hn1 := e1 _ _ hn
        have hul2 : (us ++ [V.int t]).length = pre.cnt + 1 := by rw [List.length_append, hul]; rfl
        clear ke hn
        repeat' (first | specialize "st" | fail)
        refine ⟨p, us ++ [V.int t] ++ us1, pre.app (.cons t s1 .nil), r, _, _, _, rfl, e3.trans (eA.trans (e1.trans ke)), hn, Ps.app_mid t s1 r pre, ?_, Ps.In.kp (eA.trans (e1.trans ke)).kp hr2, by omega⟩
        rw [List.length_append, hul2, l1, Ps.app_cnt]
        simp only [Ps.cnt]
        omega
    · rintro σ H3 ⟨L, us, pre, rest, y3, y4, y5, rfl, e3, h3, rfl, hul, hr1, _⟩
      rw [List.drop_length] at hr1
      obtain rfl : rest = .nil := by
        cases rest with
        | nil => rfl
        | cons => obtain ⟨_, _, _, e0, _⟩ := hr1; cases e0
      repeat' (first | specialize "st" | fail)
      exact q L us H3 e3 h3 (by rw [Ps.app_nil]; exact hul)
  | alt ss =>
    obtain ⟨q0, l, xs, rfl, hq0, hl, nl, hss⟩ := hs
    simp only [Sx.dep] at hd
    simp only [Sx.cnt] at hc
    repeat' (first | specialize "st" | fail)
    refine w_list (xs := xs) (fun i σ H3 => ∃ (L : Addr) (us : List V) (pre rest : As) (y3 y4 y5 : Option V), σ = [some (.ref q0), some (.str "alt"), some (.ref L), y3, y4, y5] ∧ Ex H H3 ∧ H3 L = some (.lst us) ∧ ss = pre.app rest ∧ us.length = pre.cnt ∧ rest.In M H3 (xs.drop i) ∧ rest.dep ≤ n) ?_ ?_ ?_ ?_
    · exact ⟨p, [], .nil, ss, _, _, _, rfl, ke, hn, rfl, rfl, As.In.kp ke.kp hss, by omega⟩
    · rintro i σ H3 _ ⟨_, _, _, _, _, _, _, _, e3, _⟩
      exact sql (e3 _ _ hl)
    · rintro i x σ H3 hx ⟨L, us, pre, rest, y3, y4, y5, rfl, e3, h3, rfl, hul, hr1, hrd⟩
      obtain ⟨hxi, hxe⟩ := List.getElem?_eq_some_iff.mp hx
      rw [List.drop_eq_getElem_cons hxi, hxe] at hr1
      rw [As.app_cnt] at hc
      cases rest with
      | nil => cases hr1
      | cons g c t s1 r =>
        obtain ⟨q1, u, z, y, xs', e0, hq1, hg, hz, hs1, hr2⟩ := hr1
        cases e0
        simp only [As.dep] at hrd
        simp only [As.cnt] at hc
        clear ke hn
        repeat' (first | specialize "st" | fail)
        refine ⟨M, s1, y, rfl, hs1, by omega, by omega, fun L1 us1 H1 e1 h1 l1 => ?_⟩
        have h31 := e1 _ _ h3
        repeat' (first | specialize "st" | fail)
        refine ⟨p, us ++ us1, pre.app (.cons g c t s1 .nil), r, _, _, _, rfl, e3.trans (e1.trans ke), hn, As.app_mid g c t s1 r pre, ?_, As.In.kp (e1.trans ke).kp hr2, by omega⟩
        rw [List.length_append, hul, l1, As.app_cnt]
        simp only [As.cnt]
        omega
    · rintro σ H3 ⟨L, us, pre, rest, y3, y4, y5, rfl, e3, h3, rfl, hul, hr1, _⟩
      rw [List.drop_length] at hr1
      obtain rfl : rest = .nil := by
        cases rest with
        | nil => rfl
        | cons => obtain ⟨_, _, _, _, _, e0, _⟩ := hr1; cases e0
      repeat' (first | specialize "st" | fail)
      exact q L us H3 e3 h3 (by rw [As.app_nil]; exact hul)
theorem lthreads_all (T : Glo K w mg) (D : Dn K mg "_law_threads" s__law_threads p__law_threads) : ∀ n : Nat, Cal P w K mg base "_law_threads" (1 + n) p__law_threads (sp_lthreads n)
  | 0 => cal_imp (cal_false D sc__law_threads 0) fun _ _ _ _ ⟨_, s, _, _, _, h, _⟩ => absurd h (by cases s <;> simp [Sx.dep])
  | n + 1 => ok_lthreads T D n (lthreads_all T D n)
/-! ### the drawn links -/
def Tree (es : Es) : Prop := ∀ j e, es[j]? = some e → e.2 = j + 1 ∧ e.1 < e.2
theorem Tree.val {es : Es} {m : Nat} (t : Tree es) (h : es.length + 1 = m) : Val es m := fun e he => by
  obtain ⟨j, hj⟩ := List.mem_iff_getElem?.mp he
  have := t j e hj
  have := (List.getElem?_eq_some_iff.mp hj).1
  omega
theorem Tree.good {es : Es} {m k : Nat} (t : Tree es) (h : es.length + 1 = m) : ¬ BadAt m (casts es) k := val_good (t.val h) fun k a b hk hm => by
  obtain ⟨j, hj⟩ := List.mem_iff_getElem?.mp hm
  rw [List.getElem?_take] at hj
  split at hj
  · next c =>
    unfold casts at hk hj
    rw [List.getElem?_map] at hk hj
    obtain ⟨e1, he1, h1⟩ := Option.map_eq_some_iff.mp hk
    obtain ⟨e2, he2, h2⟩ := Option.map_eq_some_iff.mp hj
    have t1 := (t _ _ he1).1
    have t2 := (t _ _ he2).1
    rw [← h1] at h2
    have := congrArg Prod.snd h2
    simp only at this
    omega
  · cases hj
theorem Tree.conn {es : Es} {m : Nat} {f : List Int} (t : Tree es) (h : es.length + 1 = m) (F : IsD es m 0 f) : ∀ v, v < m → 0 ≤ dAt f v := fun v => by
  induction v using Nat.strongRecOn with
  | ind v ih =>
    intro hv
    cases v with
    | zero => rw [F.go]; exact Int.le_refl _
    | succ w =>
      have hw : w < es.length := by omega
      have he := List.getElem?_eq_getElem hw
      have t1 := t w _ he
      have hm : es[w] ∈ es := List.getElem_mem hw
      have ha : Adj es (es[w]).1 (w + 1) := .inl (by rw [← t1.1]; exact hm)
      exact (F.edge _ _ ha (ih _ (by omega) (by omega))).1
theorem Tree.due {es : Es} {m : Nat} (t : Tree es) (h : es.length + 1 = m) (h6 : m ≤ 6) : Due m (casts es) "" := by
  obtain ⟨f, F⟩ := isD_ex (t.val h) (g := 0) (by omega)
  refine .ok m es f rfl (by omega) h6 rfl (t.val h) (fun k => t.good h) F fun hm => ?_
  obtain ⟨v, hv⟩ := List.mem_iff_getElem?.mp hm
  have hl := (List.getElem?_eq_some_iff.mp hv).1
  rw [dAt_some hl] at hv
  have := t.conn h F v (by rw [← F.len]; exact hl)
  have := Option.some.inj hv
  omega
def offE (m : Nat) (es : Es) : Es := es.filter fun e => decide (e.1 ≠ m - 1 ∧ e.2 ≠ m - 1)
theorem Tree.due_off {es : Es} {m : Nat} (t : Tree es) (h : es.length + 1 = m) (h2 : 2 ≤ m) (h6 : m ≤ 6) : Due m (casts (offE m es)) "parts" := by
  have hv : Val (offE m es) m := fun e he => (t.val h) e (List.mem_filter.mp he).1
  obtain ⟨f, F⟩ := isD_ex hv (g := 0) (by omega)
  have iso : ∀ u, ¬ Adj (offE m es) u (m - 1) := fun u a => by
    rcases a with a | a
    · have := (List.mem_filter.mp a).2
      simp at this
    · have := (List.mem_filter.mp a).2
      simp at this
  have hn : ∀ v, v = m - 1 → dAt f v = -1 := fun v e => by
    have h1 := F.low v
    have h3 : ¬ dAt f v = 0 := fun z => by
      have := F.zero v z
      omega
    have h4 : ¬ 0 < dAt f v := fun z => by
      obtain ⟨u, a, _⟩ := F.pre v z
      rw [e] at a
      exact iso u a
    omega
  refine .prt m (offE m es) f rfl (by omega) h6 rfl hv (fun k => val_good hv fun k a b hk hm => ?_) F ?_
  · have nd : (casts (offE m es)).Nodup := by
      have n1 : es.Nodup := by
        refine List.pairwise_iff_getElem.mpr fun i j hi hj hij e => ?_
        have t1 := (t i _ (List.getElem?_eq_getElem hi)).1
        have t2 := (t j _ (List.getElem?_eq_getElem hj)).1
        rw [e] at t1
        omega
      have n2 : (offE m es).Nodup := n1.filter _
      unfold casts
      refine List.Pairwise.map _ (fun x y hxy e => hxy ?_) n2
      have e1 := congrArg Prod.fst e
      have e2 := congrArg Prod.snd e
      simp only at e1 e2
      exact Prod.ext (by omega) (by omega)
    obtain ⟨j, hj⟩ := List.mem_iff_getElem?.mp hm
    rw [List.getElem?_take] at hj
    split at hj
    · next c => 
      obtain ⟨l1, e1⟩ := List.getElem?_eq_some_iff.mp hj
      obtain ⟨l2, e2⟩ := List.getElem?_eq_some_iff.mp hk
      exact absurd (e1.trans e2.symm) (List.pairwise_iff_getElem.mp nd j k l1 l2 c)
    · cases hj
  · have hl : m - 1 < f.length := by rw [F.len]; omega
    refine List.mem_iff_getElem?.mpr ⟨m - 1, ?_⟩
    rw [dAt_some hl, hn _ rfl]
theorem q_notInP {t l : Addr} {p : Int × Int} {vs : List V} {ls : List (Int × Int)} {H : Hp} {Q : VK} (h1 : H t = some (.tup [.int p.1, .int p.2])) (h2 : H l = some (.lst vs)) (h3 : Paired (TupII H) vs ls) (q : Q (.bl (!decide (p ∈ ls))) H) : rNotInD K (.ref t) (.ref l) H Q :=
  ⟨dP p, ls.map dP, dp_pair ⟨t, rfl, h1⟩, .lst (sql h2) (dp_pairs h3), sh_dP p, sh_dPs ls, by rw [any_dP]; exact q⟩
/-- a network: each processor but the first has a link to a lower one -/
structure Net (m : Nat) (es : Es) : Prop where
  val : Val es m
  nd : es.Nodup
  lo : ∀ v, 0 < v → v < m → ∃ u, u < v ∧ Adj es u v
theorem Net.conn {m : Nat} {es : Es} (N : Net m es) {f : List Int} (F : IsD es m 0 f) : ∀ v, v < m → 0 ≤ dAt f v := fun v => by
  induction v using Nat.strongRecOn with
  | ind v ih =>
    intro hv
    by_cases h0 : v = 0
    · rw [h0, F.go]
      exact Int.le_refl _
    · obtain ⟨u, hu, ha⟩ := N.lo v (by omega) hv
      exact (F.edge _ _ ha (ih u hu (by omega))).1
theorem casts_nd {es : Es} (h : es.Nodup) : (casts es).Nodup := by
  unfold casts
  refine List.Pairwise.map _ (fun x y hxy e => hxy ?_) h
  have e1 := congrArg Prod.fst e
  have e2 := congrArg Prod.snd e
  simp only at e1 e2
  exact Prod.ext (by omega) (by omega)
theorem Net.good {m k : Nat} {es : Es} (N : Net m es) : ¬ BadAt m (casts es) k := val_good N.val fun k a b hk hm => by
  obtain ⟨j, hj⟩ := List.mem_iff_getElem?.mp hm
  rw [List.getElem?_take] at hj
  split at hj
  · next c =>
    obtain ⟨l1, e1⟩ := List.getElem?_eq_some_iff.mp hj
    obtain ⟨l2, e2⟩ := List.getElem?_eq_some_iff.mp hk
    exact absurd (e1.trans e2.symm) (List.pairwise_iff_getElem.mp (casts_nd N.nd) j k l1 l2 c)
  · cases hj
theorem Net.dist {m : Nat} {es : Es} (N : Net m es) (h1 : 1 ≤ m) : ∃ f, IsD es m 0 f ∧ -1 ∉ f := by
  obtain ⟨f, F⟩ := isD_ex N.val (g := 0) (by omega)
  refine ⟨f, F, fun hm => ?_⟩
  obtain ⟨v, hv⟩ := List.mem_iff_getElem?.mp hm
  have hl := (List.getElem?_eq_some_iff.mp hv).1
  rw [dAt_some hl] at hv
  have := N.conn F v (by rw [← F.len]; exact hl)
  have := Option.some.inj hv
  omega
theorem Net.due {m : Nat} {es : Es} (N : Net m es) (h1 : 1 ≤ m) (h6 : m ≤ 6) : Due m (casts es) "" := by
  obtain ⟨f, F, hf⟩ := N.dist h1
  exact .ok m es f rfl h1 h6 rfl N.val (fun k => N.good) F hf
theorem Net.cn {m : Nat} {es : Es} (N : Net m es) (h1 : 1 ≤ m) : Conn es m := by
  obtain ⟨f, F, hf⟩ := N.dist h1
  exact conn_of F hf
theorem Tree.net {m : Nat} {es : Es} (t : Tree es) (h : es.length + 1 = m) : Net m es := by
  refine ⟨t.val h, List.pairwise_iff_getElem.mpr fun i j hi hj hij e => ?_, fun v h0 hv => ?_⟩
  · have t1 := (t i _ (List.getElem?_eq_getElem hi)).1
    have t2 := (t j _ (List.getElem?_eq_getElem hj)).1
    rw [e] at t1
    omega
  · obtain ⟨w, rfl⟩ : ∃ w, v = w + 1 := ⟨v - 1, by omega⟩
    have hw : w < es.length := by omega
    have t1 := t w _ (List.getElem?_eq_getElem hw)
    exact ⟨(es[w]).1, by omega, .inl (by rw [← t1.1]; exact List.getElem_mem hw)⟩
theorem Net.add {m a b : Nat} {es : Es} (N : Net m es) (h : a < b) (hb : b < m) (hn : (a, b) ∉ es) : Net m ((a, b) :: es) :=
  ⟨fun e he => by
    rcases List.mem_cons.mp he with rfl | he
    · exact ⟨h, hb⟩
    · exact N.val e he, List.nodup_cons.mpr ⟨hn, N.nd⟩, fun v h0 hv => by
    obtain ⟨u, hu, ha⟩ := N.lo v h0 hv
    exact ⟨u, hu, ha.elim (fun z => .inl (List.mem_cons_of_mem _ z)) (fun z => .inr (List.mem_cons_of_mem _ z))⟩⟩
theorem casts_len (es : Es) : (casts es).length = es.length := List.length_map ..
def sp_lnet : Sp := fun vs H Q _ => ∃ (st c : Addr), vs = [.ref st] ∧ StOk st c H ∧
  ∀ (H' : Hp) (t p : Addr) (m : Nat) (es : Es), Kp [st, c] H H' → StOk st c H' → H' t = some (.tup [.int m, .ref p]) → H p = none → LkI H' p (casts es) → 1 ≤ m → m ≤ 6 → es.length ≤ 20 → Net m es → Q (.ref t) H'
theorem ok_lnet (T : Glo K w mg) (D : Dn K mg "_law_network" s__law_network p__law_network) (G__law_draw : Cal P w K mg base "_law_draw" 1 p__law_draw sp_draw) (G__law_pick : Cal P w K mg base "_law_pick" 2 p__law_pick (sp_pick K)) : Cal P w K mg base "_law_network" 3 p__law_network sp_lnet := by
  refine D.ok sc__law_network (fun vs H Q E h => ?_) (fun f cdv A outer s H vs Q E hr h => ?_)
  · obtain ⟨_, _, rfl, _⟩ := h
    rfl
  obtain ⟨st, c, rfl, so, q⟩ := h
  refine ⟨_, (pss_cons (ps_set (i := 1) sc__law_network.nd rfl (by first | exact Or.inl rfl | exact Or.inr rfl) (pe_cal G__law_pick (hr.mono (by (first | subst "lev" | fail))) rfl (pa_cons (pv 0) (pa_cons (pe_lst (pa_cons pe_int (pa_cons pe_int (pa_cons pe_int (pa_cons pe_int (pa_cons pe_int (pa_cons pe_int pa_nil))))))) pa_nil)))) (pss_cons (ps_setLc (i := 2) (own := [("_law_k", 3)]) (tt := tYes) rfl sc__law_network.nd rfl rfl (sw_true rfl rfl rfl (by decide +kernel)) (pi_range2 rfl T.n_range (pa_cons pe_int (pa_cons (pv 1) pa_nil))) (blkOk_by (N := ["_law_state_here", "_law_many", "_law_links", "_law_k", "_law_a", "_law_b"]) (sc := defScope s__law_network) (by decide +kernel)) (fun _ _ _ _ _ => (pg_name (i := 3) sc__law_network.nd rfl (by first | exact Or.inl rfl | exact Or.inr rfl))) (fun _ _ _ _ _ => pts_nil) (fun _ _ _ _ _ => (pe_tup (pa_cons (pe_cal G__law_draw (hr.mono (by (first | subst "lev" | fail))) rfl (pa_cons (pv 0) (pa_cons (pv 3) pa_nil))) (pa_cons (pv 3) pa_nil))))) (pss_cons (ps_for PassesOwn.never rfl (pi_range1 rfl T.n_range (pa_cons (pe_cal G__law_draw (hr.mono (by (first | subst "lev" | fail))) rfl (pa_cons (pv 0) (pa_cons pe_int pa_nil))) pa_nil)) (pg_name (i := 3) sc__law_network.nd rfl (by first | exact Or.inl rfl | exact Or.inr rfl)) (pss_cons (ps_set (i := 4) sc__law_network.nd rfl (by first | exact Or.inl rfl | exact Or.inr rfl) (pe_cal G__law_draw (hr.mono (by (first | subst "lev" | fail))) rfl (pa_cons (pv 0) (pa_cons (pv 1) pa_nil)))) (pss_cons (ps_set (i := 5) sc__law_network.nd rfl (by first | exact Or.inl rfl | exact Or.inr rfl) (pe_cal G__law_draw (hr.mono (by (first | subst "lev" | fail))) rfl (pa_cons (pv 0) (pa_cons (pv 1) pa_nil)))) (pss_one (ps_if (PW.pt (pw_and (pt_cmpR op_lt (pv 4) (pv 5) (nomark _)) (pw_and1 (pt_cmpR (op_notInD (hu65 hr)) (pe_tup (pa_cons (pv 4) (pa_cons (pv 5) pa_nil))) (pv 2) (by rfl))))) (pss_one (ps_set (i := 2) sc__law_network.nd rfl (by first | exact Or.inl rfl | exact Or.inr rfl) (pe_op op_addA (pe_lst (pa_cons (pe_tup (pa_cons (pv 4) (pa_cons (pv 5) pa_nil))) pa_nil)) (pv 2)))) pss_nil))))) (pss_one (ps_ret (pe_tup (pa_cons (pv 1) (pa_cons (pv 2) pa_nil)))))))), ?_⟩
  try dsimp only [cxOf, Cx.nox]
  repeat' (first | specialize "st" | fail)
  obtain ⟨m, hm1, hm6, rfl⟩ : ∃ m : Nat, 1 ≤ m ∧ m ≤ 6 ∧ v = .int m := by
    have hm := List.mem_of_getElem? ej
    simp only [List.mem_cons, List.not_mem_nil, or_false] at hm
    rcases hm with rfl | rfl | rfl | rfl | rfl | rfl
    · exact ⟨1, by decide, by decide, rfl⟩
    · exact ⟨2, by decide, by decide, rfl⟩
    · exact ⟨2, by decide, by decide, rfl⟩
    · exact ⟨3, by decide, by decide, rfl⟩
    · exact ⟨4, by decide, by decide, rfl⟩
    · exact ⟨6, by decide, by decide, rfl⟩
  have kI : True ∧ Kp [st, c] H Hn := ⟨trivial, by (first | subst "kpx" | fail)⟩
  obtain ⟨H0, rfl⟩ : ∃ x, x = Hn := ⟨_, rfl⟩
  clear ke hn ej hp
  repeat' (first | specialize "st" | fail)
  intro D hD
  have nDs : D ∉ [st, c] := st_fresh so hD
  refine lc_range (lo := 1) (n := _) (fun i H3 => ∃ (vs : List V) (es : Es), H3 D = some (.lst vs) ∧ Paired (TupII H3) vs (casts es) ∧ es.length = i ∧ Tree es ∧ Kp [st, c] H0 H3 ∧ StOk st c H3) ?_ ?_ ?_
  · exact ⟨[], [], upd_same, .nil, rfl, fun j e h => by simp at h, (Ex.mk hD rfl).kp, st_ex (Ex.mk hD rfl) so⟩
  · rintro i H3 hi ⟨vs, es, h3, hpr, hel, htr, k3, so3⟩
    have hvl := Paired.length hpr
    rw [casts_len] at hvl
    refine ⟨rfl, ?_⟩
    repeat' (first | specialize "st" | fail)
    obtain ⟨d, rfl⟩ : ∃ d : Nat, dn = (d : Int) := ⟨dn.toNat, by omega⟩
    have kk : Kp [st, c] H3 Hn := by (first | subst "kpx" | fail)
    have hD4 := kk.out _ _ nDs h3
    have kD : Kp [D] Hn (upd Hn D (.lst (vs ++ [.ref p]))) := kp_one hD4 (by intro _ z; cases z)
    refine ⟨vs, hD4, sl1000' (by omega), vs ++ [.ref p], es ++ [(d, i + 1)], upd_same, ?_, by rw [List.length_append, hel]; rfl, ?_, ?_, ?_⟩
    · unfold casts
      rw [List.map_append]
      exact pair_app (Paired.mapP hpr fun _ _ z => tupII_kp kD (tupII_kp kk z)) (.cons ⟨p, rfl, kD.tup _ _ (by rw [hn]; congr 3; simp; omega)⟩ .nil)
    · intro j e hj
      by_cases cj : j < es.length
      · rw [List.getElem?_append_left cj] at hj
        exact htr j e hj
      · have hj2 := (List.getElem?_eq_some_iff.mp hj).1
        simp only [List.length_append, List.length_cons, List.length_nil] at hj2
        obtain rfl : j = es.length := by omega
        rw [List.getElem?_append_right (Nat.le_refl _), Nat.sub_self] at hj
        cases hj
        refine ⟨by rw [hel], ?_⟩
        show d < i + 1
        omega
    · exact kp_fresh2 (k3.trans kk) kD hD
    · exact st_kpx kD (fun z hz => by rw [List.mem_singleton.mp hz]; exact nDs) (by (first | subst "st_ok" | fail))
  · rintro H3 ⟨vs, es, h3, hpr, hel, htr, k3, so3⟩
    have hmE : es.length + 1 = m := by omega
    have hDn : H D = none := free_backK kI.2 nDs hD
    have hnet := htr.net hmE
    have kA : True ∧ Kp [st, c] H H3 := ⟨trivial, kI.2.trans k3⟩
    have hle : es.length ≤ 5 := by omega
    clear hel htr hmE k3 hD
    repeat' (first | specialize "st" | fail)
    refine w_rng (lo := 0) (n := _) (fun i σ H4 => ∃ (L : Addr) (vs : List V) (es : Es) (y3 y4 y5 : Option V), σ = [some (.ref st), some (.int m), some (.ref L), y3, y4, y5] ∧ Kp [st, c] H H4 ∧ StOk st c H4 ∧ H L = none ∧ L ∉ [st, c] ∧ H4 L = some (.lst vs) ∧ Paired (TupII H4) vs (casts es) ∧ Net m es ∧ es.length ≤ 5 + i) ?_ ?_ ?_
    · exact ⟨D, vs, es, _, _, _, rfl, kA.2.trans ke, so, hDn, nDs, ke.out _ _ nDs h3, Paired.mapP hpr fun _ _ => tupII_kp ke, hnet, by omega⟩
    · rintro i σ H4 hi ⟨L, vs, es, y3, y4, y5, rfl, k4, so4, hL0, nL, hL, hp4, hN, hl4⟩
      have hvl := Paired.length hp4
      rw [casts_len] at hvl
      have hi2 : i < 2 := by omega
      have k4' : True ∧ Kp [st, c] H H4 := ⟨trivial, k4⟩
      clear k4
      repeat' (first | specialize "st" | fail)
      · have kF : Kp [st, c] H4 Hn := by (first | subst "kpx" | fail)
        have soF : StOk st c Hn := by (first | subst "st_ok" | fail)
        rename_i da Ha n0a n1a ka soa Hb kb cab
        obtain ⟨a0, rfl⟩ : ∃ a0 : Nat, da = a0 := ⟨da.toNat, by omega⟩
        obtain ⟨b0, rfl⟩ : ∃ b0 : Nat, dn = b0 := ⟨dn.toNat, by omega⟩
        have hLn := kF.out _ _ nL hL
        have hpn := Paired.mapP hp4 fun _ _ => tupII_kp kF
        have kG : True ∧ Kp [st, c] H Hn := ⟨trivial, k4'.2.trans kF⟩
        clear kF kb ka ke so soa k4' hL hp4 hp
        refine q_notInP (p := ((a0 : Int), (b0 : Int))) hn hLn hpn ?_
        obtain ⟨HN, rfl⟩ : ∃ x, x = Hn := ⟨_, rfl⟩
        by_cases hin : ((a0 : Int), (b0 : Int)) ∈ casts es
        · rw [decide_eq_true hin]
          repeat' (first | specialize "st" | fail)
          exact ⟨L, vs, es, _, _, _, rfl, kG.2, soF, hL0, nL, hLn, hpn, hN, by omega⟩
        · rw [decide_eq_false hin]
          repeat' (first | specialize "st" | fail)
          rename_i pT HT hpT eT hT pS HS hpS eS hS
          have eN : Ex HN Hn := eT.trans (eS.trans ke)
          have npp : p ∉ [st, c] := st_fresh (st_ex (eT.trans eS) soF) hp
          have hp0 : H p = none := free_backK kG.2 npp (free_back (eT.trans eS) hp)
          have hn1 : (a0, b0) ∉ es := fun z => hin (List.mem_map.mpr ⟨_, z, rfl⟩)
          refine ⟨p, .ref pT :: vs, (a0, b0) :: es, _, _, _, rfl, kG.2.trans eN.kp, st_ex eN soF, hp0, npp, hn, ?_, hN.add (by omega) (by omega) hn1, by rw [List.length_cons]; omega⟩
          exact .cons ⟨pT, rfl, ke _ _ (eS _ _ hT)⟩ (Paired.mapP hpn fun _ _ => tup_ex eN)
      · have kF : Kp [st, c] H4 Hn := by (first | subst "kpx" | fail)
        exact ⟨L, vs, es, _, _, _, rfl, k4'.2.trans kF, so, hL0, nL, kF.out _ _ nL hL, Paired.mapP hp4 fun _ _ => tupII_kp kF, hN, by omega⟩
    · rintro σ H4 ⟨L, vs, es, y3, y4, y5, rfl, k4, so4, hL0, nL, hL, hp4, hN, hl4⟩
      repeat' (first | specialize "st" | fail)
      exact q Hn p L m es (k4.trans ke.kp) (st_ex ke so4) hn hL0 ⟨vs, ke _ _ hL, Paired.mapP hp4 fun _ _ => tup_ex ke⟩ hm1 hm6 (by omega) hN
/-! ### told, spread -/
structure Fam (K : PySem.W.Frag) (mg : Str → Option Value) (CL CB : Addr) : Prop where
  l : ErrC K mg "PlanError" CL "reason"
  p : mg "PlacedError" = some (.ref CB)
  kp : PySem.W.kitOne K (.ref CL) (.ref CB) = some true
  et : PySem.W.exmOne K (.ref CL) (.ref CL) = some true
def tIsX (K : PySem.W.Frag) (a : Addr) (cls : Value) (d : Option Addr) (i : Nat) (c : V) : TE := tCB (rIsX K a cls d) (tCons (tVar i) (tCons (tC c) tNil))
section
variable {CL CP CB : Addr}
def tb__law_told (CL CP : Addr) : WX → TS := fun W => tDrop (tCallS (sp_mkplan CL CP 71) (WE W) (tCons (tVar 0) (tCons (tVar 1) (tCons (tVar 2) (tCons (tVar 3) tNil)))))
def ts__law_told (K : PySem.W.Frag) (CB : Addr) : Addr → Value → Option Addr → TS := fun a cls d => tRet (tIf (tB (tIsX K a cls d 4 (.ref CB))) (tXfE K a cls d "reason" (tVar 4)) (tC (.str "other")))
theorem q_isXr {a D dd : Addr} {x fl : Str} {fs : List (Str × V)} {E : Addr} {b : Bool} {H : Hp} {Q : VK} (T : ErrC K mg x D fl) (h : H dd = some (.xd fs)) (e : PySem.W.kitOne K (.ref D) (.ref E) = some b) (q : Q (.bl b) H) : rIsX K a (.ref D) (some dd) [.ref a, .ref E] H Q := q_isX T h (fun _ z => z) e q
theorem q_xfX {σ : L2.St} {a D dd : Addr} {x fl : Str} {v : V} {i : Nat} {H : Hp} {Q : VK} (T : ErrC K mg x D fl) (hi : σ[i]? = some (some (.ref a))) (h : H dd = some (.xd [(fl, v)])) (q : Q v H) : tXfE K a (.ref D) (some dd) fl (tVar i) σ H Q := q_xfE hi T.xf T.no h (by simp [List.lookup]) q
theorem r_isX {a : Addr} {cls : Value} {d : Option Addr} {i : Nat} {c v : V} {σ : L2.St} {H : Hp} {Q : VK} (hi : σ[i]? = some (some v)) (q : rIsX K a cls d [v, c] H Q) : tIsX K a cls d i c σ H Q := ⟨v, hi, q⟩
local macro_rules | `(tactic| injection "own") => `(tactic| ((with_reducible refine q_xfX (mg := ?mg) (x := ?x) (v := ?v) ?t ?i ?h ?_); (case t => assumption); (case h => exists "lift"); (case i => exact rfl)))
local macro_rules | `(tactic| injection "own") => `(tactic| ((with_reducible refine q_isXr (mg := ?mg) (x := ?x) (D := ?D) (fl := ?fl) (fs := ?fs) (b := ?b) ?t ?h ?e ?_); (case t => assumption); (case h => exists "lift"); (case e => assumption)))
local macro_rules | `(tactic| injection "own") => `(tactic| ((with_reducible refine r_isX (v := ?v) ?h ?_); (case h => exact rfl)))
def sp_told : Sp := fun vs H Q E => ∃ (pc nt pl hm ch lk : Addr) (nc n : Int) (s : Sx) (sv : V) (bl : List (V × V)) (chs : List Str) (ls : List (Int × Int)) (ps hs : List Int), vs = [.ref pc, .ref nt, .ref pl, .ref hm] ∧ H pc = some (.tup [.str "core", .int nc, .ref ch, sv]) ∧ H ch = some (.lst (chs.map V.str)) ∧ chs.length ≤ 100 ∧
  Brs [] H 71 s sv (.int 0) bl ∧ s.num 1 ∧ s.cnt ≤ 40 ∧ s.sz ≤ 50000 ∧ H nt = some (.tup [.int n, .ref lk]) ∧ LkI H lk ls ∧ ls.length ≤ 1000 ∧ H pl = some (.lst (ps.map V.int)) ∧ ps.length ≤ 2000 ∧ H hm = some (.lst (hs.map V.int)) ∧ hs.length ≤ 2000 ∧
  ∀ (H' : Hp) (r : Str), Ex H H' → DueP n ls ps hs chs (s.cnt + 1) r → Q (.str r) H'
theorem ok_told (T : Glo K w mg) (D : Dn K mg "_law_told" s__law_told p__law_told) (F : Fam K mg CL CB) (G_make_plan : CalX P w K mg base "make_plan" 77 p_make_plan (sp_mkplan CL CP 71)) : Cal P w K mg base "_law_told" 78 p__law_told sp_told := by
  refine D.ok sc__law_told (fun vs H Q E h => ?_) (fun f cdv A outer s H vs Q E hr h => ?_)
  · obtain ⟨_, _, _, _, _, _, _, _, _, _, _, _, _, _, _, rfl, _⟩ := h
    rfl
  obtain ⟨pc, nt, pl, hm, ch, lk, nc, n, s0, sv, bl, chs, ls, ps, hs, rfl, h1, h2, h3, h4, h5, h6, h7, h8, h9, h10, h11, h12, h13, h14, q⟩ := h
  have T_PlanError := F.l
  have g_PlacedError := F.p
  refine ⟨_, pss_cons (ps_try_as (i := 4) (tb := tb__law_told CL CP) (ts := ts__law_told K CB) (Wout := fun _ _ _ _ => False) rfl rfl sc__law_told.nd rfl rfl ⟨rfl, by decide, .inl T_PlanError.gC⟩ takes0 ?B ?S) (by exact (pss_one (ps_ret pe_str))), ?_⟩
  case B => exact fun W pn xe tk po => (pss_one (ps_expr (pe_calX G_make_plan (hr.mono (by (first | subst "lev" | fail))) rfl tk (pa_cons (pv 0) (pa_cons (pv 1) (pa_cons (pv 2) (pa_cons (pv 3) pa_nil)))))))
  case S => exact fun a oe cls d pn hz hf => (pss_one (ps_ret (pe_ifExp (pt_val (pe_callB (call_isX hz hf) rfl T.n_isinstance (by decide +kernel) (pa_cons (pv 4) (pa_cons (pe_globR rfl g_PlacedError) pa_nil)))) (pe_xfE hz hf (pv 4)) pe_str)))
  try dsimp only [cxOf, Cx.nox]
  repeat' (first | specialize "st" | fail)
  show tb__law_told CL CP (wAs K (.ref CL) 4 _ _ _) _ _ _
  unfold tb__law_told
  repeat' (first | specialize "st" | fail)
  refine ⟨pc, nt, pl, hm, ch, lk, nc, n, s0, sv, bl, chs, ls, ps, hs, rfl, h1, h2, h3, h4, h5, h6, h7, h8, h9, h10, h11, h12, h13, h14, fun H1 p dx l t h q' m es lvs rows e1 du en el hv hc hp _ _ _ _ _ _ _ _ _ _ => ?_, fun r d H1 e1 hd hr0 du => ?_⟩
  · repeat' (first | specialize "st" | fail)
    exact q H1 "" e1 du
  · refine ⟨true, F.et, fun _ a ha => ?_, fun z => by cases z⟩
    have k4 := F.kp
    unfold ts__law_told
    repeat' (first | specialize "st" | fail)
    exact q _ r e1 du
end
def modL (t m : Nat) : List Int := (List.range t).map fun k : Nat => ((k : Int) % (m : Int))
def sp_spread : Sp := fun vs H Q _ => ∃ (t m : Nat), vs = [.int t, .int m] ∧ 1 ≤ m ∧ m ≤ 100 ∧ t ≤ 1000 ∧ ∀ (L : Addr) (H' : Hp), Ex H H' → H' L = some (.lst ((modL t m).map V.int)) → Q (.ref L) H'
theorem modL_snoc (t m : Nat) : modL (t + 1) m = modL t m ++ [((t : Int) % (m : Int))] := by
  unfold modL
  rw [List.range_succ, List.map_append]
  rfl
theorem modL_len (t m : Nat) : (modL t m).length = t := by
  unfold modL
  rw [List.length_map, List.length_range]
theorem ok_spread (T : Glo K w mg) (D : Dn K mg "spread" s_spread p_spread) : Cal P w K mg base "spread" 1 p_spread sp_spread := by
  refine D.ok sc_spread (fun vs H Q E h => ?_) (fun f cdv A outer s H vs Q E hr h => ?_)
  · obtain ⟨_, _, rfl, _⟩ := h
    rfl
  obtain ⟨t, m, rfl, hm1, hm, ht, q⟩ := h
  refine ⟨_, (pss_one (ps_ret (pe_lc (own := [("k", 2)]) (tt := tYes) rfl sc_spread.nd (pi_range1 rfl T.n_range (pa_cons (pv 0) pa_nil)) (blkOk_by (N := ["many", "processors", "k"]) (sc := defScope s_spread) (by decide +kernel)) (fun _ _ _ _ _ => (pg_name (i := 2) sc_spread.nd rfl (by first | exact Or.inl rfl | exact Or.inr rfl))) (fun _ _ _ _ _ => pts_nil) (fun _ _ _ _ _ => (pe_op op_mod (pv 2) (pv 1)))))), ?_⟩
  try dsimp only [cxOf, Cx.nox]
  repeat' (first | specialize "st" | fail)
  intro D0 hD
  refine lc_range (lo := 0) (n := _) (fun i H3 => Ex H H3 ∧ H3 D0 = some (.lst ((modL i m).map V.int))) ?_ ?_ ?_
  · exact ⟨Ex.mk hD rfl, upd_same⟩
  · rintro i H3 hi ⟨e3, h3⟩
    refine ⟨rfl, ?_⟩
    repeat' (first | specialize "st" | fail)
    refine ⟨(modL i m).map V.int, h3, sl1000' (by rw [List.length_map, modL_len]; omega), fun b u hb => by rw [upd_ne (ne_of_none hb hD)]; exact e3 _ _ hb, ?_⟩
    rw [modL_snoc, List.map_append, Int.zero_add]
    exact upd_same
  · rintro H3 ⟨e3, h3⟩
    repeat' (first | specialize "st" | fail)
    rw [show ((t : Int)).toNat = t by omega] at h3
    exact q D0 H3 e3 h3
theorem hop_eq {es : Es} {n p g a b : Nat} (hv : Val es n) (hg : g < n) (h1 : Hop es n p g a) (h2 : Hop es n p g b) : a = b := by
  by_cases e : p = g
  · rw [h1.1 e, h2.1 e]
  · obtain ⟨f, F⟩ := isD_ex hv hg
    have x := h1.2 e f F
    have y := h2.2 e f F
    have := x.2 b y.1
    have := y.2 a x.1
    omega
theorem sm_ints {K : PySem.W.Frag} {H : Hp} : ∀ l : List Int, Paired (Sm K H 0) (l.map V.int) (l.map V.int)
  | [] => .nil
  | _ :: l => .cons (.inl ⟨rfl, rfl⟩) (sm_ints l)
theorem nats_ints (l : List Nat) : nats l = (l.map fun (u : Nat) => (u : Int)).map V.int := by
  unfold nats
  rw [List.map_map]
  rfl
theorem hops_sm {K : PySem.W.Frag} {es : Es} {n : Nat} {H : Hp} {a b : Addr} {rs us : List Addr} (hv : Val es n) (h1 : Hops es n H a rs) (h2 : Hops es n H b us) : Paired (Sm K H 1) (rs.map V.ref) (us.map V.ref) := by
  have key : ∀ (k : Nat), k ≤ n → Paired (Sm K H 1) ((rs.drop (n - k)).map V.ref) ((us.drop (n - k)).map V.ref) := fun k => by
    induction k with
    | zero =>
      intro _
      rw [List.drop_eq_nil_of_le (by rw [h1.len]; omega), List.drop_eq_nil_of_le (by rw [h2.len]; omega)]
      exact .nil
    | succ k ih =>
      intro hk
      have l1 : n - (k + 1) < rs.length := by rw [h1.len]; omega
      have l2 : n - (k + 1) < us.length := by rw [h2.len]; omega
      rw [List.drop_eq_getElem_cons l1, List.drop_eq_getElem_cons l2, show n - (k + 1) + 1 = n - k by omega]
      obtain ⟨m1, a1, a2, a3⟩ := h1.row (n - (k + 1)) (by omega)
      obtain ⟨m2, b1, b2, b3⟩ := h2.row (n - (k + 1)) (by omega)
      have e1 : rg rs (n - (k + 1)) = rs[n - (k + 1)] := by
        unfold rg
        rw [List.getD_eq_getElem?_getD, List.getElem?_eq_getElem l1]
        rfl
      have e2 : rg us (n - (k + 1)) = us[n - (k + 1)] := by
        unfold rg
        rw [List.getD_eq_getElem?_getD, List.getElem?_eq_getElem l2]
        rfl
      rw [e1] at a1
      rw [e2] at b1
      have em : m1 = m2 := by
        refine List.ext_getElem? fun g => ?_
        by_cases hg : g < n
        · have x := a3 g _ (List.getElem?_eq_getElem (by omega))
          have y := b3 g _ (List.getElem?_eq_getElem (by omega))
          rw [List.getElem?_eq_getElem (by omega), List.getElem?_eq_getElem (by omega), hop_eq hv hg x y]
        · rw [List.getElem?_eq_none (by omega), List.getElem?_eq_none (by omega)]
      subst em
      refine .cons (.inr ⟨_, _, nats m1, nats m1, rfl, rfl, .inl ⟨sql a1, sql b1⟩, ?_⟩) (ih (by omega))
      rw [nats_ints]
      exact sm_ints _
  have := key n (Nat.le_refl _)
  rwa [Nat.sub_self, List.drop_zero, List.drop_zero] at this
def sp_law (K : PySem.W.Frag) : Sp := fun vs H Q _ => ∃ (a : Addr) (ns : List Int), vs = [.ref a] ∧ SqL K H a (ns.map V.int) ∧ ns.length ≤ 63 ∧ ∀ H', Q (.bl true) H'
theorem c_core {st c : Addr} {al : Bool} {H : Hp} {Q : VK} {E : XK} (h1 : StOk st c H) (q : ∀ (cd : CoreD) (v : V) (H' : Hp), cd.In [st, c] H' v → cd.ok → Kp [st, c] H H' → StOk st c H' → Q v H') : sp_core [.ref st, .bl al] H Q E := ⟨st, c, al, rfl, h1, q⟩
set_option hygiene false in
local macro_rules | `(tactic| subst "i_c_core") => `(tactic| intro cd vc Hn ci co ke so)
local macro_rules | `(tactic| injection "own") => `(tactic| (refine c_core (c := ?c) ?a ?_; (case a => subst "st_ok"); subst "i_c_core"))
theorem paired_snocW {α β : Type} {F : α → β → Prop} : ∀ {xs : List α} {ys : List β}, Paired F xs ys → ∀ {x : α} {y : β}, F x y → Paired F (xs ++ [x]) (ys ++ [y])
  | _, _, .nil, _, _, h => .cons h .nil
  | _, _, .cons a t, _, _, h => .cons a (paired_snocW t h)
theorem cut_popW {xs : List V} {x : V} : cutV (xs ++ [x]) none (some (-1)) = xs := by
  unfold cutV
  have e : HT.sIx (xs ++ [x]).length (xs ++ [x]).length (some (-1)) = xs.length := by
    show (if (-1 : Int) < 0 then ((-1 : Int) + ((xs ++ [x]).length : Int)).toNat else min (-1 : Int).toNat (xs ++ [x]).length) = _
    rw [if_pos (by decide), List.length_append, List.length_singleton]
    omega
  rw [HT.sIx_none, e, List.drop_zero, Nat.sub_zero, List.take_left' rfl]
theorem q_cutInit {p : Addr} {xs : List Int} {H : Hp} {Q : VK} (h : H p = some (.lst (xs.map V.int))) (hz : xs ≠ []) (q : ∀ p Hn, H p = none → Ex H Hn → Hn p = some (.lst (xs.dropLast.map V.int)) → Q (.ref p) Hn) : rSlA K (.ref p) none (some (-1)) H Q := q_cutA h (by
  have e : xs.map V.int = xs.dropLast.map V.int ++ [V.int (xs.getLast hz)] := by
    rw [← List.map_singleton (f := V.int), ← List.map_append, List.dropLast_concat_getLast]
  rw [e, cut_popW]) q
section
variable {CL CP : Addr}
theorem body_law {fd : FuncData} {fa : Addr} (F : Fun K "law" "law" s_law fa fd) (T : Glo K w mg) (W : PlnK K CP) (G__law_state : Cal P w K mg base "_law_state" 1 p__law_state (sp_state K)) (G__law_draw : Cal P w K mg base "_law_draw" 1 p__law_draw sp_draw) (G__law_pick : Cal P w K mg base "_law_pick" 2 p__law_pick (sp_pick K)) (G__law_core : Cal P w K mg base "_law_core" 23 p__law_core sp_core)
    (G__law_network : Cal P w K mg base "_law_network" 3 p__law_network sp_lnet) (G__law_threads : Cal P w K mg base "_law_threads" 72 p__law_threads (sp_lthreads 71)) (G_make_plan : CalX P w K mg base "make_plan" 77 p_make_plan (sp_mkplan CL CP 71)) (G_next_hops : Cal P w K mg base "next_hops" 3 p_next_hops sp_hops)
    (G__law_told : Cal P w K mg base "_law_told" 78 p__law_told sp_told) (G_spread : Cal P w K mg base "spread" 1 p_spread sp_spread) : TopOk P w K mg base fa fd ["_law_script"] (sp_law K) := by
  obtain ⟨hcS, n1, n2, n3, n4, n5⟩ := W
  refine fun_top F sc_law (k := 78) ⟨rfl, by decide, by decide⟩ (fun vs H Q E h => ?_) (fun cdv s H vs Q hr h => ?_)
  · obtain ⟨_, _, rfl, _⟩ := h
    rfl
  obtain ⟨a, ns, rfl, hs, hl, q⟩ := h
  refine ⟨_, (pss_cons (ps_set (i := 1) sc_law.nd rfl (by first | exact Or.inl rfl | exact Or.inr rfl) (pe_cal G__law_state (hr.mono (by (first | subst "lev" | fail))) rfl (pa_cons (pv 0) pa_nil))) (pss_cons (ps_set (i := 2) sc_law.nd rfl (by first | exact Or.inl rfl | exact Or.inr rfl) (pe_cal G__law_core (hr.mono (by (first | subst "lev" | fail))) rfl (pa_cons (pv 1) (pa_cons (pe_cmpR (op_eqA (hu64 hr)) (pe_cal G__law_draw (hr.mono (by (first | subst "lev" | fail))) rfl (pa_cons (pv 1) (pa_cons pe_int pa_nil))) pe_int (nomark _)) pa_nil)))) (pss_cons (ps_asg (pe_cal G__law_network (hr.mono (by (first | subst "lev" | fail))) rfl (pa_cons (pv 1) pa_nil)) (pg_tup rfl (pgs_cons (pg_name (i := 3) sc_law.nd rfl (by first | exact Or.inl rfl | exact Or.inr rfl)) (pgs_cons (pg_name (i := 4) sc_law.nd rfl (by first | exact Or.inl rfl | exact Or.inr rfl)) pgs_nil)))) (pss_cons (ps_set (i := 5) sc_law.nd rfl (by first | exact Or.inl rfl | exact Or.inr rfl) (pe_op op_addA pe_int (pe_callB call_lenA rfl T.n_len (by decide +kernel) (pa_cons (pe_cal G__law_threads (hr.mono (by (first | subst "lev" | fail))) rfl (pa_cons (pe_ix ix_seq (pv 2) pe_int (fun _ _ => rfl)) pa_nil)) pa_nil)))) (pss_cons (ps_setLc (i := 6) (own := [("_law_k", 15)]) (tt := tYes) rfl sc_law.nd rfl rfl (sw_true rfl rfl rfl (by decide +kernel)) (pi_range1 rfl T.n_range (pa_cons (pv 5) pa_nil)) (blkOk_by (N := ["_law_script", "_law_state_here", "_law_core_here", "_law_many", "_law_links", "_law_threads_here", "_law_places", "_law_homes", "_law_plan", "_law_network_here", "_law_due", "_law_turn", "_law_at", "_law_outer", "_law_row", "_law_k", "_law_kind", "_law_c"]) (sc := defScope s_law) (by decide +kernel)) (fun _ _ _ _ _ => (pg_name (i := 15) sc_law.nd rfl (by first | exact Or.inl rfl | exact Or.inr rfl))) (fun _ _ _ _ _ => pts_nil) (fun _ _ _ _ _ => (pe_cal G__law_draw (hr.mono (by (first | subst "lev" | fail))) rfl (pa_cons (pv 1) (pa_cons (pv 3) pa_nil))))) (pss_cons (ps_setLc (i := 7) (own := [("_law_kind", 16)]) (tt := tYes) rfl sc_law.nd rfl rfl (sw_true rfl rfl rfl (by decide +kernel)) (pi_list (pe_ix ix_seq (pv 2) pe_int (fun _ _ => rfl))) (blkOk_by (N := ["_law_script", "_law_state_here", "_law_core_here", "_law_many", "_law_links", "_law_threads_here", "_law_places", "_law_homes", "_law_plan", "_law_network_here", "_law_due", "_law_turn", "_law_at", "_law_outer", "_law_row", "_law_k", "_law_kind", "_law_c"]) (sc := defScope s_law) (by decide +kernel)) (fun _ _ _ _ _ => (pg_name (i := 16) sc_law.nd rfl (by first | exact Or.inl rfl | exact Or.inr rfl))) (fun _ _ _ _ _ => pts_nil) (fun _ _ _ _ _ => (pe_ifExp (pt_cmpR (op_eqK (K := K) rfl (hu64 hr)) (pv 16) pe_str (nomark _)) (pe_cal G__law_draw (hr.mono (by (first | subst "lev" | fail))) rfl (pa_cons (pv 1) (pa_cons (pv 3) pa_nil))) pe_int))) (pss_cons (ps_set (i := 8) sc_law.nd rfl (by first | exact Or.inl rfl | exact Or.inr rfl) (pe_calX G_make_plan (hr.mono (by (first | subst "lev" | fail))) rfl takes0 (pa_cons (pv 2) (pa_cons (pe_tup (pa_cons (pv 3) (pa_cons (pv 4) pa_nil))) (pa_cons (pe_callTy call_listA rfl T.n_list (by decide +kernel) (pa_cons (pv 6) pa_nil)) (pa_cons (pe_callTy call_listA rfl T.n_list (by decide +kernel) (pa_cons (pv 7) pa_nil)) pa_nil)))))) (pss_cons (ps_if (PW.pt (pw_or (pt_cmpR (op_neA (hu64 hr)) (pe_fld (pv 8) rfl) (pv 3) (nomark _)) (pw_or (pt_cmpR (op_neS (hu64 hr)) (pe_fld (pv 8) rfl) (pv 4) (nomark _)) (pw_or (pt_cmpR (op_neS (hu64 hr)) (pe_fld (pv 8) rfl) (pv 6) (nomark _)) (pw_or1 (pt_cmpR (op_neS (hu64 hr)) (pe_fld (pv 8) rfl) (pv 7) (nomark _))))))) (pss_one (ps_ret pe_bl)) pss_nil) (pss_cons (ps_if (pt_cmpR (op_neS (hu64 hr)) (pe_fld (pv 8) rfl) (pe_cal G_next_hops (hr.mono (by (first | subst "lev" | fail))) rfl (pa_cons (pv 3) (pa_cons (pv 4) pa_nil))) (nomark _)) (pss_one (ps_ret pe_bl)) pss_nil) (pss_cons (ps_set (i := 9) sc_law.nd rfl (by first | exact Or.inl rfl | exact Or.inr rfl) (pe_tup (pa_cons (pv 3) (pa_cons (pv 4) pa_nil)))) (pss_cons (ps_set (i := 10) sc_law.nd rfl (by first | exact Or.inl rfl | exact Or.inr rfl) pe_str) (pss_cons (ps_set (i := 11) sc_law.nd rfl (by first | exact Or.inl rfl | exact Or.inr rfl) (pe_cal G__law_draw (hr.mono (by (first | subst "lev" | fail))) rfl (pa_cons (pv 1) (pa_cons pe_int pa_nil)))) (pss_cons (ps_set (i := 12) sc_law.nd rfl (by first | exact Or.inl rfl | exact Or.inr rfl) (pe_cal G__law_draw (hr.mono (by (first | subst "lev" | fail))) rfl (pa_cons (pv 1) (pa_cons (pv 5) pa_nil)))) (pss_cons (ps_setLc (i := 13) (own := [("_law_c", 17)]) rfl sc_law.nd rfl rfl (sw_true rfl rfl rfl (by decide +kernel)) (pi_range1 rfl T.n_range (pa_cons (pe_callB call_lenA rfl T.n_len (by decide +kernel) (pa_cons (pv 7) pa_nil)) pa_nil)) (blkOk_by (N := ["_law_script", "_law_state_here", "_law_core_here", "_law_many", "_law_links", "_law_threads_here", "_law_places", "_law_homes", "_law_plan", "_law_network_here", "_law_due", "_law_turn", "_law_at", "_law_outer", "_law_row", "_law_k", "_law_kind", "_law_c"]) (sc := defScope s_law) (by decide +kernel)) (fun _ _ _ _ _ => (pg_name (i := 17) sc_law.nd rfl (by first | exact Or.inl rfl | exact Or.inr rfl))) (fun _ _ _ _ _ => (pts_one (pt_cmpR (op_neK (K := K) rfl (hu64 hr)) (pe_ix (ix_seqK (K := K) rfl) (pe_ix (ix_seqK (K := K) rfl) (pv 2) pe_int (fun _ _ => rfl)) (pv 17) (fun _ _ => rfl)) pe_str (nomark _)))) (fun _ _ _ _ _ => (pv 17))) (pss_cons (ps_if (pt_cmpR (op_eqA (hu64 hr)) (pv 11) pe_int (nomark _)) (pss_one (ps_set (i := 6) sc_law.nd rfl (by first | exact Or.inl rfl | exact Or.inr rfl) (pe_cal G__law_pick (hr.mono (by (first | subst "lev" | fail))) rfl (pa_cons (pv 1) (pa_cons (pe_lst (pa_cons (pe_op op_addA (pv 6) (pe_lst (pa_cons pe_int pa_nil))) (pa_cons (pe_slice sl_any (pv 6) po_none (po_some (pe_un un_neg pe_int))) pa_nil))) pa_nil))))) (pss_one (ps_if (pt_cmpR (op_eqA (hu64 hr)) (pv 11) pe_int (nomark _)) (pss_one (ps_asg (pe_cal G__law_pick (hr.mono (by (first | subst "lev" | fail))) rfl (pa_cons (pv 1) (pa_cons (pe_lst (pa_cons (pe_un un_neg pe_int) (pa_cons (pv 3) pa_nil))) pa_nil))) (pg_sub (pv 6) (pv 12) set_list))) (pss_one (ps_if (pt_cmpR (op_eqA (hu64 hr)) (pv 11) pe_int (nomark _)) (pss_one (ps_set (i := 7) sc_law.nd rfl (by first | exact Or.inl rfl | exact Or.inr rfl) (pe_op op_addA (pv 7) (pe_lst (pa_cons pe_int pa_nil))))) (pss_one (ps_if (PW.pt (pw_and (pt_cmpR (op_eqA (hu64 hr)) (pv 11) pe_int (nomark _)) (pw_and1 (pt_cmpR op_gt (pe_callB call_lenA rfl T.n_len (by decide +kernel) (pa_cons (pv 7) pa_nil)) pe_int (nomark _))))) (pss_one (ps_asg (pe_cal G__law_pick (hr.mono (by (first | subst "lev" | fail))) rfl (pa_cons (pv 1) (pa_cons (pe_lst (pa_cons (pe_un un_neg pe_int) (pa_cons (pv 3) pa_nil))) pa_nil))) (pg_sub (pv 7) (pe_cal G__law_draw (hr.mono (by (first | subst "lev" | fail))) rfl (pa_cons (pv 1) (pa_cons (pe_callB call_lenA rfl T.n_len (by decide +kernel) (pa_cons (pv 7) pa_nil)) pa_nil))) set_list))) (pss_one (ps_if (PW.pt (pw_and (pt_cmpR (op_eqA (hu64 hr)) (pv 11) pe_int (nomark _)) (pw_and (pt_cmpR op_gt (pe_callB call_lenA rfl T.n_len (by decide +kernel) (pa_cons (pv 13) pa_nil)) pe_int (nomark _)) (pw_and1 (pt_cmpR op_gt (pv 3) pe_int (nomark _)))))) (pss_cons (ps_asg pe_int (pg_sub (pv 7) (pe_cal G__law_pick (hr.mono (by (first | subst "lev" | fail))) rfl (pa_cons (pv 1) (pa_cons (pv 13) pa_nil))) set_list)) (pss_one (ps_set (i := 10) sc_law.nd rfl (by first | exact Or.inl rfl | exact Or.inr rfl) pe_str))) (pss_one (ps_if (pt_cmpR (op_eqA (hu64 hr)) (pv 11) pe_int (nomark _)) (pss_cons (ps_set (i := 9) sc_law.nd rfl (by first | exact Or.inl rfl | exact Or.inr rfl) (pe_tup (pa_cons (pv 3) (pa_cons (pe_op op_addA (pv 4) (pe_lst (pa_cons (pe_tup (pa_cons (pv 3) (pa_cons (pe_op op_addA (pv 3) pe_int) pa_nil))) pa_nil))) pa_nil)))) (pss_cons (ps_set (i := 6) sc_law.nd rfl (by first | exact Or.inl rfl | exact Or.inr rfl) (pe_lst pa_nil)) (pss_one (ps_set (i := 10) sc_law.nd rfl (by first | exact Or.inl rfl | exact Or.inr rfl) pe_str)))) (pss_cons (ps_set (i := 9) sc_law.nd rfl (by first | exact Or.inl rfl | exact Or.inr rfl) (pe_tup (pa_cons (pe_cal G__law_pick (hr.mono (by (first | subst "lev" | fail))) rfl (pa_cons (pv 1) (pa_cons (pe_lst (pa_cons pe_int (pa_cons pe_int pa_nil))) pa_nil))) (pa_cons (pe_lst pa_nil) pa_nil)))) (pss_one (ps_set (i := 10) sc_law.nd rfl (by first | exact Or.inl rfl | exact Or.inr rfl) pe_str)))))))))))))) (pss_cons (ps_if (pt_cmpR (op_neA (hu64 hr)) (pe_cal G__law_told (hr.mono (by (first | subst "lev" | fail))) rfl (pa_cons (pv 2) (pa_cons (pv 9) (pa_cons (pv 6) (pa_cons (pv 7) pa_nil))))) (pv 10) (nomark _)) (pss_one (ps_ret pe_bl)) pss_nil) (pss_cons (ps_set (i := 14) sc_law.nd rfl (by first | exact Or.inl rfl | exact Or.inr rfl) (pe_cal G_spread (hr.mono (by (first | subst "lev" | fail))) rfl (pa_cons (pv 5) (pa_cons (pv 3) pa_nil)))) (pss_one (ps_ret (pe_cmpR (op_eqS (hu64 hr)) (pv 14) (pe_lc (own := [("_law_k", 15)]) (tt := tYes) rfl sc_law.nd (pi_range1 rfl T.n_range (pa_cons (pv 5) pa_nil)) (blkOk_by (N := ["_law_script", "_law_state_here", "_law_core_here", "_law_many", "_law_links", "_law_threads_here", "_law_places", "_law_homes", "_law_plan", "_law_network_here", "_law_due", "_law_turn", "_law_at", "_law_outer", "_law_row", "_law_k", "_law_kind", "_law_c"]) (sc := defScope s_law) (by decide +kernel)) (fun _ _ _ _ _ => (pg_name (i := 15) sc_law.nd rfl (by first | exact Or.inl rfl | exact Or.inr rfl))) (fun _ _ _ _ _ => pts_nil) (fun _ _ _ _ _ => (pe_op op_sub (pv 15) (pe_op op_mul (pe_op op_fdiv (pv 15) (pv 3)) (pv 3))))) (nomark _))))))))))))))))))))), ?_⟩
  try dsimp only [cxOf, Cx.nox]
  repeat' (first | specialize "st" | fail)
  refine ⟨a, ns, rfl, hs, by omega, fun st c H1 e1 hst hc so => ?_⟩
  iterate 16 ((first | specialize "st" | fail))
  refine q_eqB ?_
  repeat' (first | specialize "st" | fail)
  have hdep := co.dep
  have hcnt := co.cnt
  have hsz := co.sz
  have h24 := co.c24
  have hnm := co.num
  obtain ⟨pc, chA, sv, rfl, hpc, hch, nch, hsx⟩ := ci
  obtain ⟨H2, rfl⟩ : ∃ x, x = Hn := ⟨_, rfl⟩
  obtain ⟨bl, hb⟩ := brs_ex (n := 71) (.int 0) hsx (by simp only [Sx.dep]; omega)
  clear hs e1 ke
  refine ⟨st, c, rfl, so, fun H3 t3 lk m es k3 so3 ht3 hlk0 hlk hm1 hm6 hel hN => ?_⟩
  have hpc3 := k3.tup _ _ hpc
  have hch3 := k3.out _ _ nch hch
  have hsx3 := hsx.kp k3
  have hb3 := hb.kp k3
  have nlk : lk ∉ [st, c] := st_fresh so hlk0
  clear hpc hch hsx hb k3 so
  repeat' (first | specialize "st" | fail)
  refine ⟨[st, c], .seq cd.ss, sv, rfl, hsx3, by simp only [Sx.dep]; omega, by simp only [Sx.cnt]; omega, fun L4 us4 H4 e4 h4 l4 => ?_⟩
  have l4' : us4.length = cd.ss.cnt := l4
  have hpc4 := e4 _ _ hpc3
  have hch4 := e4 _ _ hch3
  have hb4 := hb3.kp (M := [st, c]) e4.kp
  have hlk4 := lk_ex e4 hlk
  have so4 := st_ex e4 so3
  clear hpc3 hch3 hsx3 hb3 hlk so3 e4
  repeat' (first | specialize "st" | fail)
  intro D1 hD1
  have nD1 : D1 ∉ [st, c] := st_fresh so4 hD1
  have hkD1 : lk ≠ D1 := by
    obtain ⟨vs, hv, _⟩ := hlk4
    exact ne_of_none hv hD1
  have hcD1 : chA ≠ D1 := ne_of_none hch4 hD1
  have hb4d := hb4.to (N := [D1, st, c]) fun l xs hl nl z => by
    rcases List.mem_cons.mp z with z | z
    · rw [z, hD1] at hl
      cases hl
    · exact nl z
  have sb1 : ∀ x, x ∈ [st, c] → x ∈ [D1, st, c] := fun x h => List.mem_cons_of_mem _ h
  have sb2 : ∀ (D x : Addr), x ∈ [st, c] → x ∈ [D, D1, st, c] := fun D x h => List.mem_cons_of_mem _ (List.mem_cons_of_mem _ h)
  refine lc_range (lo := 0) (n := _) (fun i H5 => ∃ ps : List Int, H5 D1 = some (.lst (ps.map V.int)) ∧ ps.length = i ∧ InR m ps ∧ Kp [st, c] H4 H5 ∧ StOk st c H5) ?_ ?_ ?_
  · exact ⟨[], upd_same, rfl, fun x hx => absurd hx List.not_mem_nil, (Ex.mk hD1 rfl).kp, st_ex (Ex.mk hD1 rfl) so4⟩
  · rintro i H5 hi ⟨ps, h5, hpl, hpr, k5, so5⟩
    have hi2 : i < 1 + us4.length := by omega
    refine ⟨by simp [wipe, L2.start, List.replicate], ?_⟩
    repeat' (first | specialize "st" | fail)
    have hD5 := ke.out _ _ nD1 h5
    have kD : Kp [D1] Hn (upd Hn D1 (.lst (ps.map V.int ++ [.int dn]))) := kp_one hD5 (by intro _ z; cases z)
    refine ⟨ps.map V.int, hD5, sl1000' (by rw [List.length_map]; omega), ps ++ [dn], by rw [List.map_append]; exact upd_same, by rw [List.length_append, hpl]; rfl, fun x hx => ?_, kp_fresh2 (k5.trans ke) kD hD1, st_kpx kD (fun z hz => by rw [List.mem_singleton.mp hz]; exact nD1) so⟩
    rcases List.mem_append.mp hx with hx | hx
    · exact hpr x hx
    · rw [List.mem_singleton.mp hx]
      exact ⟨n0, n1⟩
  · rintro H5 ⟨ps, h5, hpl, hpr, k5, so5⟩
    have hpl2 : ps.length = cd.ss.cnt + 1 := by omega
    have hpc5 := k5.tup _ _ hpc4
    have hch5 := k5.out _ _ nch hch4
    have hb5 := hb4d.kp (k5.sub sb1)
    have hlk5 : LkI H5 lk (casts es) := by
      obtain ⟨vs, hv, hp⟩ := hlk4
      exact ⟨vs, k5.out _ _ nlk hv, Paired.mapP hp fun _ _ => tupII_kp k5⟩
    clear hpc4 hch4 hb4 hb4d hlk4 k5 so4 hD1 h4 hpl
    repeat' (first | specialize "st" | fail)
    intro D2 hD2
    have nD2 : D2 ∉ [st, c] := st_fresh so5 hD2
    have h12 : D1 ≠ D2 := ne_of_none h5 hD2
    have hkD2 : lk ≠ D2 := by
      obtain ⟨vs, hv, _⟩ := hlk5
      exact ne_of_none hv hD2
    have hb5d := hb5.to (N := [D2, D1, st, c]) fun l xs hl nl z => by
      rcases List.mem_cons.mp z with z | z
      · rw [z, hD2] at hl
        cases hl
      · exact nl z
    refine lc_list (xs := cd.chs.map V.str) (fun i H6 => ∃ hs : List Int, H6 D2 = some (.lst (hs.map V.int)) ∧ hs.length = i ∧ InR m hs ∧ (∀ (j : Nat) (x : Str) (z : Int), cd.chs[j]? = some x → hs[j]? = some z → x = "inner" ∨ z = 0) ∧ Kp [st, c] H5 H6 ∧ StOk st c H6) ?_ ?_ ?_ ?_
    · exact ⟨[], upd_same, rfl, fun x hx => absurd hx List.not_mem_nil, fun j x z _ h => by simp at h, (Ex.mk hD2 rfl).kp, st_ex (Ex.mk hD2 rfl) so5⟩
    · rintro i H6 _ ⟨_, _, _, _, _, k4, _⟩
      exact sql (k4.out _ _ nch hch5)
    · rintro i x H6 hx ⟨hs, h4, hsl, hsr, hsi, k4, so4⟩
      rw [List.getElem?_map] at hx
      obtain ⟨y, hy, rfl⟩ := Option.map_eq_some_iff.mp hx
      have hyi := (List.getElem?_eq_some_iff.mp hy).1
      have put : ∀ (z : Int) (H7 : Hp), Kp [st, c] H6 H7 → StOk st c H7 → 0 ≤ z → z < m → (y = "inner" ∨ z = 0) → ∃ acc, H7 D2 = some (.lst acc) ∧ acc.length < sizeLine ∧ ∃ hs : List Int, upd H7 D2 (.lst (acc ++ [.int z])) D2 = some (.lst (hs.map V.int)) ∧ hs.length = i + 1 ∧ InR m hs ∧ (∀ (j : Nat) (x : Str) (z : Int), cd.chs[j]? = some x → hs[j]? = some z → x = "inner" ∨ z = 0) ∧ Kp [st, c] H5 (upd H7 D2 (.lst (acc ++ [.int z]))) ∧ StOk st c (upd H7 D2 (.lst (acc ++ [.int z]))) := fun z H7 k5 so5 z0 z1 hz => by
        have hD7 := k5.out _ _ nD2 h4
        have kD : Kp [D2] H7 (upd H7 D2 (.lst (hs.map V.int ++ [.int z]))) := kp_one hD7 (by intro _ z; cases z)
        refine ⟨hs.map V.int, hD7, sl1000' (by rw [List.length_map]; omega), hs ++ [z], by rw [List.map_append]; exact upd_same, by rw [List.length_append, hsl]; rfl, fun x hx => ?_, fun j x' z' hx' hz' => ?_, kp_fresh2 (k4.trans k5) kD hD2, st_kpx kD (fun z hz => by rw [List.mem_singleton.mp hz]; exact nD2) so5⟩
        · rcases List.mem_append.mp hx with hx | hx
          · exact hsr x hx
          · rw [List.mem_singleton.mp hx]
            exact ⟨z0, z1⟩
        · by_cases cj : j < hs.length
          · rw [List.getElem?_append_left cj] at hz'
            exact hsi j x' z' hx' hz'
          · have hj2 := (List.getElem?_eq_some_iff.mp hz').1
            simp only [List.length_append, List.length_cons, List.length_nil] at hj2
            obtain rfl : j = hs.length := by omega
            rw [List.getElem?_append_right (Nat.le_refl _), Nat.sub_self] at hz'
            cases hz'
            rw [hsl, hy] at hx'
            cases hx'
            exact hz
      refine ⟨by simp [wipe, L2.start, List.replicate], ?_⟩
      repeat' (first | specialize "st" | fail)
      · rename_i c1
        exact put dn Hn ke so n0 n1 (.inl c1)
      · exact put 0 H6 (Kp.refl _) so4 (by omega) (by omega) (.inr rfl)
    · rintro H6 ⟨hs, h6, hsl, hsr, hsi, k6, so6⟩
      rw [List.length_map] at hsl
      have hpc6 := k6.tup _ _ hpc5
      have hch6 := k6.out _ _ nch hch5
      have hb6 := hb5d.kp (k6.sub (sb2 D2))
      have h56 := k6.out _ _ nD1 h5
      have hlk6 : LkI H6 lk (casts es) := by
        obtain ⟨vs, hv, hp⟩ := hlk5
        exact ⟨vs, k6.out _ _ nlk hv, Paired.mapP hp fun _ _ => tupII_kp k6⟩
      have hcD2 : chA ≠ D2 := ne_of_none hch5 hD2
      clear hpc5 hch5 hb5 hb5d hlk5 k6 so5 h5
      have hml1 : (ps.map V.int).length = ps.length := List.length_map ..
      have hml2 : (hs.map V.int).length = hs.length := List.length_map ..
      repeat' (first | specialize "st" | fail)
      rename_i p1 G1 hp1 g1 t1 p2 G2 hp2 g2 t2
      have eN : Ex H6 Hn := g1.trans (g2.trans ke)
      have hdueN := hN.due hm1 hm6
      have hallp : ps.length = (Sx.seq cd.ss).cnt + 1 ∧ InR m ps ∧ hs.length = cd.chs.length ∧ InR m hs := ⟨hpl2, hpr, hsl, hsr⟩
      have hdue : DueP m (casts es) ps hs cd.chs ((Sx.seq cd.ss).cnt + 1) "" := .ok hdueN hallp hsi
      have hpc7 := eN _ _ hpc6
      have hch7 := eN _ _ hch6
      have hb7 := (hb6.kp eN.kp).to (N := []) fun _ _ _ _ => List.not_mem_nil
      have hb7' := hb6.kp eN.kp
      have hlk7 := lk_ex eN hlk6
      have h57 := eN _ _ h56
      have h67 := eN _ _ h6
      have so7 := st_ex eN so6
      have t1' : Hn p1 = some (.tup [.int m, .ref lk]) := ke _ _ (g2 _ _ t1)
      have t2' : Hn p2 = some (.lst (ps.map V.int)) := ke _ _ t2
      obtain ⟨H7, rfl⟩ : ∃ x, x = Hn := ⟨_, rfl⟩
      clear g1 g2 ke t1 t2 eN hpc6 hch6 hb6 hlk6 h56 h6 so6 hp1 hp2 hp
      refine ⟨pc, p1, p2, p, chA, lk, cd.cells, m, .seq cd.ss, sv, bl, cd.chs, casts es, ps, hs, rfl, hpc7, hch7, by omega, hb7, hnm, by simp only [Sx.cnt]; omega, by simp only [Sx.sz]; omega, t1', hlk7, by rw [casts_len]; omega, t2', by omega, hn, by omega, fun H8 pl dx l t h q' m' es' lvs rows e8 du en el hv hcn hpl8 _ _ _ _ hl8 hlk1 hlp ht8 hh8 hops => ?_, fun r d H8 e8 hd hr0 du => absurd (dueP_eq du hdue) hr0⟩
      obtain rfl : m = m' := by omega
      obtain rfl : es = es' := casts_inj el
      have hplx : H8 pl = some (.ins CP dx [("processors", .int m), ("links", .ref l), ("threads", .ref t), ("homes", .ref h), ("hops", .ref q')]) := hpl8
      have hpc8 := e8 _ _ hpc7
      have hch8 := e8 _ _ hch7
      have hb8 := hb7'.kp e8.kp
      have hlk8 := lk_ex e8 hlk7
      have hlkv := e8 _ _ hlk1
      have h58 := e8 _ _ h57
      have h68 := e8 _ _ h67
      have so8 := st_ex e8 so7
      have smL : Paired (Sm K H8 0) lvs lvs := by
        clear hl8 hlk1 hlkv
        revert hlp
        generalize casts es = ls0
        intro hlp
        induction hlp with
        | nil => exact .nil
        | cons a _ ih =>
          obtain ⟨q0, rfl, _⟩ := a
          exact .cons (.inr ⟨q0, rfl, rfl⟩) ih
      clear e8 hpc7 hch7 hb7 hb7' hlk7 h57 h67 so7 t1' t2' hn hlk1 hpl8
      repeat' (first | specialize "st" | fail)
      refine ⟨0, l, lk, lvs, lvs, by decide, rfl, rfl, .inl ⟨sql hl8, sql hlkv⟩, smL, ?_⟩
      repeat' (first | specialize "st" | fail)
      refine ⟨0, t, D1, _, _, by decide, rfl, rfl, .inl ⟨sql ht8, sql h58⟩, sm_ints _, ?_⟩
      repeat' (first | specialize "st" | fail)
      refine ⟨0, h, D2, _, _, by decide, rfl, rfl, .inl ⟨sql hh8, sql h68⟩, sm_ints _, ?_⟩
      repeat' (first | specialize "st" | fail)
      refine c_hops hlk8 hN.val (hN.cn hm1) ⟨by omega, by omega⟩ (fun H9 q2 rows2 e9 hops2 => ?_)
      refine ⟨1, q', q2, _, _, by decide, rfl, rfl, .inl ⟨sql (e9 _ _ hops.ob), sql hops2.ob⟩, hops_sm hN.val (hops_ex e9 hops) hops2, ?_⟩
      have hpc9 := e9 _ _ hpc8
      have hch9 := e9 _ _ hch8
      have hb9 := hb8.kp e9.kp
      have hlk9 := lk_ex e9 hlk8
      have h59 := e9 _ _ h58
      have h69 := e9 _ _ h68
      have so9 := st_ex e9 so8
      clear hops hops2 hpc8 hch8 hb8 hlk8 h58 h68 so8 e9 hplx hl8 ht8 hh8 smL hlkv hlp
      repeat' (first | specialize "st" | fail)
      rename_i HT dT HU nT0 nT1 kT soT
      obtain ⟨HA, rfl⟩ : ∃ x, x = Hn := ⟨_, rfl⟩
      have kA : True ∧ Kp [st, c] H9 HA := ⟨trivial, (HT.kp.trans kT).trans ke⟩
      have hpcA := kA.2.tup _ _ hpc9
      have hchA := kA.2.out _ _ nch hch9
      have hbA := hb9.kp (kA.2.sub (sb2 D2))
      have h5A := kA.2.out _ _ nD1 h59
      have h6A := kA.2.out _ _ nD2 h69
      have hnA := ke.tup _ _ (kT.tup _ _ hn)
      have hlkA : LkI HA lk (casts es) := by
        obtain ⟨vs, hv, hp⟩ := hlk9
        exact ⟨vs, kA.2.out _ _ nlk hv, Paired.mapP hp fun _ _ => tupII_kp kA.2⟩
      clear kA ke kT HT soT hpc9 hch9 hb9 h59 h69 hn hlk9 so9 hp
      obtain ⟨np, rfl⟩ : ∃ x, x = p := ⟨_, rfl⟩
      intro D3 hD3
      refine lc_range (lo := 0) (n := _) (fun i HB => ∃ os : List Int, Ex HA HB ∧ HB D3 = some (.lst (os.map V.int)) ∧ os.length ≤ i ∧ (∀ o ∈ os, ∃ j : Nat, o = j ∧ ∃ x, cd.chs[j]? = some x ∧ x ≠ "inner") ∧ (os = [] → ∀ (j : Nat) (x : Str), j < i → cd.chs[j]? = some x → x = "inner")) ?_ ?_ ?_
      · exact ⟨[], Ex.mk hD3 rfl, upd_same, Nat.le_refl _, fun x hx => absurd hx List.not_mem_nil, fun _ j x hj => absurd hj (Nat.not_lt_zero j)⟩
      · rintro i HB hi ⟨os, eB, hB, hol, hoi, hoe⟩
        have hi2 : i < cd.chs.length := by
          rw [hml2] at hi
          omega
        have hx := List.getElem?_eq_getElem hi2
        have hat : atI (cd.chs.map V.str) ((0 : Int) + (i : Int)) = some (.str cd.chs[i]) := atI_0 (by rw [List.getElem?_map, hx]; rfl)
        have hpc5 := eB _ _ hpcA
        have hchB := eB _ _ hchA
        refine ⟨by simp [wipe, L2.start, List.replicate], ?_⟩
        repeat' (first | specialize "st" | fail)
        · rename_i c1
          refine ⟨os.map V.int, hB, sl1000' (by rw [List.length_map]; omega), os ++ [(0 : Int) + (i : Int)], ?_, by rw [List.map_append]; exact upd_same, by rw [List.length_append]; exact Nat.succ_le_succ hol, fun o ho => ?_, fun h => absurd h (by simp)⟩
          · exact fun b u hb => by rw [upd_ne (ne_of_none hb hD3)]; exact eB _ _ hb
          · rcases List.mem_append.mp ho with ho | ho
            · exact hoi o ho
            · rw [List.mem_singleton.mp ho]
              exact ⟨i, by omega, _, hx, c1⟩
        · rename_i c1
          refine ⟨os, eB, hB, Nat.le_succ_of_le hol, hoi, fun h j x hj hxj => ?_⟩
          by_cases cj : j < i
          · exact hoe h j x cj hxj
          · obtain rfl : j = i := by omega
            rw [hx] at hxj
            cases hxj
            exact c1
      · rintro HB ⟨os, eB, hB, hol, hoi, hoe⟩
        rw [hml2] at hol hoe
        have hpcB := eB _ _ hpcA
        have hchB := eB _ _ hchA
        have hbB := hbA.kp eB.kp
        have h5B := eB _ _ h5A
        have h6B := eB _ _ h6A
        have hnB := eB _ _ hnA
        have hlkB := lk_ex eB hlkA
        have soB := st_ex eB so
        have nD3 : D3 ∉ [st, c] := st_fresh so hD3
        have h13 : D1 ≠ D3 := ne_of_none h5A hD3
        have h23 : D2 ≠ D3 := ne_of_none h6A hD3
        have hos2 : (os.map V.int).length = os.length := List.length_map ..
        clear eB hpcA hchA hbA h5A h6A hnA hlkA so hD3
        iterate 2 ((first | specialize "st" | fail))
        have pack : ∀ G : Hp, Kp [D2, D1, st, c] HB G → G pc = some (.tup [.str "core", .int cd.cells, .ref chA, sv]) ∧ G chA = some (.lst (cd.chs.map V.str)) ∧ Brs [] G 71 (.seq cd.ss) sv (.int 0) bl ∧ G np = some (.tup [.int m, .ref lk]) ∧ LkI G lk (casts es) := fun G k => ⟨k.tup _ _ hpcB, k.out _ _ (fun z => by
            rcases List.mem_cons.mp z with z | z
            · exact hcD2 z
            rcases List.mem_cons.mp z with z | z
            · exact hcD1 z
            · exact nch z) hchB, (hbB.kp k).to fun _ _ _ _ => List.not_mem_nil, k.tup _ _ hnB, by
          obtain ⟨vs, hv, hp⟩ := hlkB
          refine ⟨vs, k.out _ _ (fun z => ?_) hv, Paired.mapP hp fun _ _ => tupII_kp k⟩
          rcases List.mem_cons.mp z with z | z
          · exact hkD2 z
          rcases List.mem_cons.mp z with z | z
          · exact hkD1 z
          · exact nlk z⟩
        refine ifsj (fun σ' H' => ∃ (np pl' hm' lk' : Addr) (due : Str) (n : Int) (ls : List (Int × Int)) (ps' hs' : List Int), σ' = [some (.ref a), some (.ref st), some (.ref pc), some (.int m), some (.ref lk), some (.int (1 + us4.length)), some (.ref pl'), some (.ref hm'), some (.ref pl), some (.ref np), some (.str due), some (.int dT), some (.int dn), some (.ref D3), none, none, none, none] ∧ H' pc = some (.tup [.str "core", .int cd.cells, .ref chA, sv]) ∧ H' chA = some (.lst (cd.chs.map V.str)) ∧ Brs [] H' 71 (.seq cd.ss) sv (.int 0) bl ∧ H' np = some (.tup [.int n, .ref lk']) ∧ LkI H' lk' ls ∧ ls.length ≤ 1000 ∧ H' pl' = some (.lst (ps'.map V.int)) ∧ ps'.length ≤ 2000 ∧ H' hm' = some (.lst (hs'.map V.int)) ∧ hs'.length ≤ 2000 ∧ DueP n ls ps' hs' cd.chs ((Sx.seq cd.ss).cnt + 1) due) (fun nx' hN' => ?_) (fun σ' H' hR => ?_)
        · repeat' (first | specialize "st" | fail)
          all_goals first | (exfalso; omega) | skip
          · rename_i c0 p0 G0 hp0 e0 h0
            obtain ⟨pS, rfl⟩ : ∃ x, x = p := ⟨_, rfl⟩
            obtain ⟨G1, rfl⟩ : ∃ x, x = Hn := ⟨_, rfl⟩
            have h5n : G1 D1 = some (.lst (ps.map V.int)) := ke _ _ (e0 _ _ h5B)
            refine q_cutInit h5n (fun z => by rw [z] at hpl2; cases hpl2) fun pT G2 hpT eT hT => ?_
            have e2 : Ex HB G2 := (e0.trans ke).trans eT
            have so2 := st_ex e2 soB
            have nS : pS ∉ [st, c] := st_fresh (st_ex e0 soB) hp
            have nT : pT ∉ [st, c] := st_fresh (st_ex (e0.trans ke) soB) hpT
            have hS2 : G2 pS = some (.lst (ps.map V.int ++ [V.int 0])) := eT _ _ hn
            have h52 := e2 _ _ h5B
            have h62 := e2 _ _ h6B
            clear hpcB hchB hbB h5B h6B hnB hlkB soB hB h5n e0 ke eT hp0 hp h0 hn
            repeat' (first | specialize "st" | fail)
            rename_i G9 e9
            have hSn : Hn pS = some (.lst (ps.map V.int ++ [V.int 0])) := ke.out _ _ nS (e9 _ _ hS2)
            have hTn : Hn pT = some (.lst (ps.dropLast.map V.int)) := ke.out _ _ nT (e9 _ _ hT)
            have h6n : Hn D2 = some (.lst (hs.map V.int)) := ke.out _ _ nD2 (e9 _ _ h62)
            have k : Kp [st, c] HB Hn := (e2.trans e9).kp.trans ke
            obtain ⟨a1, a2, a3, a4, a5⟩ := pack Hn (k.sub (sb2 D2))
            have hm := List.mem_of_getElem? ej
            simp only [List.mem_cons, List.not_mem_nil, or_false] at hm
            rcases hm with rfl | rfl
            · exact hN' _ _ ⟨np, pS, D2, lk, "places", m, casts es, ps ++ [0], hs, rfl, a1, a2, a3, a4, a5, by rw [casts_len]; omega, by rw [List.map_append]; exact hSn, by rw [List.length_append]; simp only [List.length_cons, List.length_nil]; omega, h6n, by omega, .pl hdueN fun w => by
                have := w.1
                rw [List.length_append] at this
                simp only [List.length_cons, List.length_nil] at this
                omega⟩
            · exact hN' _ _ ⟨np, pT, D2, lk, "places", m, casts es, ps.dropLast, hs, rfl, a1, a2, a3, a4, a5, by rw [casts_len]; omega, hTn, by rw [List.length_dropLast]; omega, h6n, by omega, .pl hdueN fun w => by
                have := w.1
                rw [List.length_dropLast] at this
                omega⟩
          · obtain ⟨z, hz, rfl⟩ : ∃ z : Int, (z < 0 ∨ m ≤ z) ∧ v = .int z := by
              have hm := List.mem_of_getElem? ej
              simp only [List.mem_cons, List.not_mem_nil, or_false] at hm
              rcases hm with rfl | rfl
              · exact ⟨-1, .inl (by decide), rfl⟩
              · exact ⟨m, .inr (Int.le_refl _), rfl⟩
            have h5n : Hn D1 = some (.lst (ps.map V.int)) := by (first | exists "lift" | fail)
            have h6n : Hn D2 = some (.lst (hs.map V.int)) := by (first | exists "lift" | fail)
            have k : Kp [st, c] HB Hn := by (first | subst "kpx" | fail)
            obtain ⟨d, rfl⟩ : ∃ d : Nat, dn = d := ⟨dn.toNat, by omega⟩
            have hdl : d < ps.length := by omega
            refine q_setLN (j := d) h5n (ixN_nat (by omega)) fun G2 ku hu => ?_
            rw [← List.map_set] at hu
            have h6u := ku.out _ _ (fun z => h12 (List.mem_singleton.mp z).symm) h6n
            obtain ⟨a1, a2, a3, a4, a5⟩ := pack G2 ((k.sub (sb2 D2)).trans (ku.sub fun x hx => by rw [List.mem_singleton.mp hx]; simp))
            exact hN' _ _ ⟨np, D1, D2, lk, "places", m, casts es, ps.set d z, hs, rfl, a1, a2, a3, a4, a5, by rw [casts_len]; omega, hu, by rw [List.length_set]; omega, h6u, by omega, .pl hdueN fun w => by
              have := w.2.1 z (List.mem_iff_getElem?.mpr ⟨d, by rw [List.getElem?_set_self hdl]⟩)
              omega⟩
          · have hSn : Hn p = some (.lst ((hs ++ [0]).map V.int)) := by
              rw [List.map_append]
              exact hn
            have h5n : Hn D1 = some (.lst (ps.map V.int)) := by (first | exists "lift" | fail)
            have k : Kp [st, c] HB Hn := by (first | subst "kpx" | fail)
            obtain ⟨a1, a2, a3, a4, a5⟩ := pack Hn (k.sub (sb2 D2))
            exact hN' _ _ ⟨np, D1, p, lk, "places", m, casts es, ps, hs ++ [0], rfl, a1, a2, a3, a4, a5, by rw [casts_len]; omega, h5n, by omega, hSn, by rw [List.length_append]; simp only [List.length_cons, List.length_nil]; omega, .pl hdueN fun w => by
              have := w.2.2.1
              rw [List.length_append] at this
              simp only [List.length_cons, List.length_nil] at this
              omega⟩
          · obtain ⟨z, hz, rfl⟩ : ∃ z : Int, (z < 0 ∨ m ≤ z) ∧ v = .int z := by
              have hm := List.mem_of_getElem? ej
              simp only [List.mem_cons, List.not_mem_nil, or_false] at hm
              rcases hm with rfl | rfl
              · exact ⟨-1, .inl (by decide), rfl⟩
              · exact ⟨m, .inr (Int.le_refl _), rfl⟩
            have h5n : Hn D1 = some (.lst (ps.map V.int)) := by (first | exists "lift" | fail)
            have h6n : Hn D2 = some (.lst (hs.map V.int)) := by (first | exists "lift" | fail)
            have k : Kp [st, c] HB Hn := by (first | subst "kpx" | fail)
            obtain ⟨d, rfl⟩ : ∃ d : Nat, dn = d := ⟨dn.toNat, by omega⟩
            have hdl : d < hs.length := by omega
            refine q_setLN (j := d) h6n (ixN_nat (by omega)) fun G2 ku hu => ?_
            rw [← List.map_set] at hu
            have h5u := ku.out _ _ (fun z => h12 (List.mem_singleton.mp z)) h5n
            obtain ⟨a1, a2, a3, a4, a5⟩ := pack G2 ((k.sub (sb2 D2)).trans (ku.sub fun x hx => by rw [List.mem_singleton.mp hx]; simp))
            exact hN' _ _ ⟨np, D1, D2, lk, "places", m, casts es, ps, hs.set d z, rfl, a1, a2, a3, a4, a5, by rw [casts_len]; omega, h5u, by omega, hu, by rw [List.length_set]; omega, .pl hdueN fun w => by
              have := w.2.2.2 z (List.mem_iff_getElem?.mpr ⟨d, by rw [List.getElem?_set_self hdl]⟩)
              omega⟩
          · obtain ⟨z, hz, rfl⟩ : ∃ z : Int, (z < 1 ∨ 6 < z) ∧ v = .int z := by
              have hm := List.mem_of_getElem? ej
              simp only [List.mem_cons, List.not_mem_nil, or_false] at hm
              rcases hm with rfl | rfl
              · exact ⟨0, .inl (by decide), rfl⟩
              · exact ⟨7, .inr (by decide), rfl⟩
            rename_i p1 G1 hp1 e1 h1 G2 k2 pE GE hpE eE hE
            have hEn : Hn pE = some (.lst []) := ke _ _ hE
            have h5n : Hn D1 = some (.lst (ps.map V.int)) := ke _ _ (eE _ _ (k2.out _ _ nD1 (e1 _ _ h5B)))
            have h6n : Hn D2 = some (.lst (hs.map V.int)) := ke _ _ (eE _ _ (k2.out _ _ nD2 (e1 _ _ h6B)))
            have k : Kp [st, c] HB Hn := (e1.kp.trans k2).trans (eE.trans ke).kp
            obtain ⟨a1, a2, a3, a4, a5⟩ := pack Hn (k.sub (sb2 D2))
            exact hN' _ _ ⟨p, D1, D2, pE, "processors", z, [], ps, hs, rfl, a1, a2, a3, hn, ⟨[], hEn, .nil⟩, Nat.zero_le _, h5n, by omega, h6n, by omega, .net "processors" (.num hz) (by decide)⟩
          · obtain ⟨o, ho, rfl⟩ : ∃ o : Int, o ∈ os ∧ v = .int o := by
              obtain ⟨o, ho, hv⟩ := List.mem_map.mp (List.mem_of_getElem? ej)
              exact ⟨o, ho, hv.symm⟩
            obtain ⟨d, rfl, x, hx, hxi⟩ := hoi o ho
            have hdc := (List.getElem?_eq_some_iff.mp hx).1
            have h5n : Hn D1 = some (.lst (ps.map V.int)) := by (first | exists "lift" | fail)
            have h6n : Hn D2 = some (.lst (hs.map V.int)) := by (first | exists "lift" | fail)
            have k : Kp [st, c] HB Hn := by (first | subst "kpx" | fail)
            have hdl : d < hs.length := by omega
            refine q_setLN (j := d) h6n (ixN_nat (by omega)) fun G2 ku hu => ?_
            rw [show V.int 1 = V.int (1 : Int) from rfl, ← List.map_set] at hu
            have h5u := ku.out _ _ (fun z => h12 (List.mem_singleton.mp z)) h5n
            obtain ⟨a1, a2, a3, a4, a5⟩ := pack G2 ((k.sub (sb2 D2)).trans (ku.sub fun x hx => by rw [List.mem_singleton.mp hx]; simp))
            repeat' (first | specialize "st" | fail)
            exact hN' _ _ ⟨np, D1, D2, lk, "homes", m, casts es, ps, hs.set d 1, rfl, a1, a2, a3, a4, a5, by rw [casts_len]; omega, h5u, by omega, hu, by rw [List.length_set]; omega, .hm d x 1 hdueN ⟨hpl2, hpr, by rw [List.length_set]; omega, fun y hy => by
              rcases List.mem_or_eq_of_mem_set hy with hy | hy
              · exact hsr y hy
              · omega⟩ hx (List.getElem?_set_self hdl) hxi (by decide)⟩
          · obtain ⟨z, hz, rfl⟩ : ∃ z : Int, (z < 1 ∨ 6 < z) ∧ v = .int z := by
              have hm := List.mem_of_getElem? ej
              simp only [List.mem_cons, List.not_mem_nil, or_false] at hm
              rcases hm with rfl | rfl
              · exact ⟨0, .inl (by decide), rfl⟩
              · exact ⟨7, .inr (by decide), rfl⟩
            rename_i p1 G1 hp1 e1 h1 G2 k2 pE GE hpE eE hE
            have hEn : Hn pE = some (.lst []) := ke _ _ hE
            have h5n : Hn D1 = some (.lst (ps.map V.int)) := ke _ _ (eE _ _ (k2.out _ _ nD1 (e1 _ _ h5B)))
            have h6n : Hn D2 = some (.lst (hs.map V.int)) := ke _ _ (eE _ _ (k2.out _ _ nD2 (e1 _ _ h6B)))
            have k : Kp [st, c] HB Hn := (e1.kp.trans k2).trans (eE.trans ke).kp
            obtain ⟨a1, a2, a3, a4, a5⟩ := pack Hn (k.sub (sb2 D2))
            exact hN' _ _ ⟨p, D1, D2, pE, "processors", z, [], ps, hs, rfl, a1, a2, a3, hn, ⟨[], hEn, .nil⟩, Nat.zero_le _, h5n, by omega, h6n, by omega, .net "processors" (.num hz) (by decide)⟩
          · obtain ⟨z, hz, rfl⟩ : ∃ z : Int, (z < 1 ∨ 6 < z) ∧ v = .int z := by
              have hm := List.mem_of_getElem? ej
              simp only [List.mem_cons, List.not_mem_nil, or_false] at hm
              rcases hm with rfl | rfl
              · exact ⟨0, .inl (by decide), rfl⟩
              · exact ⟨7, .inr (by decide), rfl⟩
            rename_i p1 G1 hp1 e1 h1 G2 k2 pE GE hpE eE hE
            have hEn : Hn pE = some (.lst []) := ke _ _ hE
            have h5n : Hn D1 = some (.lst (ps.map V.int)) := ke _ _ (eE _ _ (k2.out _ _ nD1 (e1 _ _ h5B)))
            have h6n : Hn D2 = some (.lst (hs.map V.int)) := ke _ _ (eE _ _ (k2.out _ _ nD2 (e1 _ _ h6B)))
            have k : Kp [st, c] HB Hn := (e1.kp.trans k2).trans (eE.trans ke).kp
            obtain ⟨a1, a2, a3, a4, a5⟩ := pack Hn (k.sub (sb2 D2))
            exact hN' _ _ ⟨p, D1, D2, pE, "processors", z, [], ps, hs, rfl, a1, a2, a3, hn, ⟨[], hEn, .nil⟩, Nat.zero_le _, h5n, by omega, h6n, by omega, .net "processors" (.num hz) (by decide)⟩
          · rename_i pT GT hpT eT hT
            obtain ⟨vs, hv, hp2⟩ : ∃ vs, Hn lk = some (.lst vs) ∧ Paired (TupII Hn) vs (casts es) := by
              obtain ⟨vs, hv, hp2⟩ := hlkB
              have kk : Ex HB Hn := eT.trans ke
              exact ⟨vs, kk _ _ hv, Paired.mapP hp2 fun _ _ => tupII_kp (M := []) kk.kp⟩
            have hvl : vs.length ≤ 1000 := by
              have := hp2.length
              rw [this, casts_len]
              omega
            have hTn : Hn pT = some (.tup [.int m, .int (m + 1)]) := ke _ _ hT
            have e0 : Ex HB Hn := eT.trans ke
            obtain ⟨G1, rfl⟩ : ∃ x, x = Hn := ⟨_, rfl⟩
            refine q_catN hv hn (by simp only [List.length_cons, List.length_nil]; omega) fun pU G2 hpU eU hU => ?_
            have e2 : Ex HB G2 := e0.trans eU
            have hp3 := paired_snocW (Paired.mapP hp2 fun _ _ => tupII_kp (M := []) eU.kp) (⟨pT, rfl, eU _ _ hTn⟩ : TupII G2 (V.ref pT) ((m : Int), (m : Int) + 1))
            clear e0 eU ke eT hv hp2 hT hTn hn hB
            repeat' (first | specialize "st" | fail)
            rename_i pN GN hpN eN2 hN2
            have e3 : Ex G2 Hn := eN2.trans ke
            obtain ⟨a1, a2, a3, a4, a5⟩ := pack Hn (e2.trans e3).kp
            exact hN' _ _ ⟨pN, p, D2, pU, "links", m, casts es ++ [((m : Int), (m : Int) + 1)], [], hs, rfl, a1, a2, a3, ke _ _ hN2, ⟨_, e3 _ _ hU, Paired.mapP hp3 fun _ _ => tupII_kp (M := []) e3.kp⟩, by rw [List.length_append, casts_len]; simp only [List.length_cons, List.length_nil]; omega, hn, Nat.zero_le _, (e2.trans e3) _ _ h6B, by omega, .net "links" (.lnk (casts es).length (by omega) (by omega) ⟨m, m + 1, by simp, .inr (.inr (.inl (by omega)))⟩) (by decide)⟩
          · obtain ⟨z, hz, rfl⟩ : ∃ z : Int, (z < 1 ∨ 6 < z) ∧ v = .int z := by
              have hm := List.mem_of_getElem? ej
              simp only [List.mem_cons, List.not_mem_nil, or_false] at hm
              rcases hm with rfl | rfl
              · exact ⟨0, .inl (by decide), rfl⟩
              · exact ⟨7, .inr (by decide), rfl⟩
            rename_i p1 G1 hp1 e1 h1 G2 k2 pE GE hpE eE hE
            have hEn : Hn pE = some (.lst []) := ke _ _ hE
            have h5n : Hn D1 = some (.lst (ps.map V.int)) := ke _ _ (eE _ _ (k2.out _ _ nD1 (e1 _ _ h5B)))
            have h6n : Hn D2 = some (.lst (hs.map V.int)) := ke _ _ (eE _ _ (k2.out _ _ nD2 (e1 _ _ h6B)))
            have k : Kp [st, c] HB Hn := (e1.kp.trans k2).trans (eE.trans ke).kp
            obtain ⟨a1, a2, a3, a4, a5⟩ := pack Hn (k.sub (sb2 D2))
            exact hN' _ _ ⟨p, D1, D2, pE, "processors", z, [], ps, hs, rfl, a1, a2, a3, hn, ⟨[], hEn, .nil⟩, Nat.zero_le _, h5n, by omega, h6n, by omega, .net "processors" (.num hz) (by decide)⟩
        · obtain ⟨np', pl', hm', lk', due, n, ls, ps', hs', rfl, r1, r2, r3, r4, r5, r6, r7, r8, r9, r10, r11⟩ := hR
          repeat' (first | specialize "st" | fail)
          refine ⟨pc, np', pl', hm', chA, lk', cd.cells, n, .seq cd.ss, sv, bl, cd.chs, ls, ps', hs', rfl, r1, r2, by omega, r3, hnm, by simp only [Sx.cnt]; omega, by simp only [Sx.sz]; omega, r4, r5, r6, r7, r8, r9, r10, fun H3 r e3 du => ?_⟩
          obtain rfl := dueP_eq du r11
          repeat' (first | specialize "st" | fail)
          have hT2 : (1 : Int) + (us4.length : Int) = ((1 + us4.length : Nat) : Int) := by omega
          refine ⟨1 + us4.length, m, by rw [hT2], by omega, by omega, by omega, fun L G eL hL => ?_⟩
          clear pack hpcB hchB hbB h5B h6B hnB hlkB soB hB r1 r2 r3 r4 r5 r7 r9 eL e3 hoi hoe
          repeat' (first | specialize "st" | fail)
          intro D4 hD4
          refine lc_range (lo := 0) (n := _) (fun i H5 => Ex G H5 ∧ H5 D4 = some (.lst ((modL i m).map V.int))) ?_ ?_ ?_
          · exact ⟨Ex.mk hD4 rfl, upd_same⟩
          · rintro i H5 hi ⟨e5, h5⟩
            have hi2 : i < 1 + us4.length := by omega
            refine ⟨by first | rfl | simp [wipe, L2.start, List.replicate], ?_⟩
            repeat' (first | specialize "st" | fail)
            refine ⟨(modL i m).map V.int, h5, sl1000' (by rw [List.length_map, modL_len]; omega), fun b u hb => by rw [upd_ne (ne_of_none hb hD4)]; exact e5 _ _ hb, ?_⟩
            rw [modL_snoc, List.map_append, Int.zero_add, show (i : Int) % (m : Int) = (i : Int) - (i : Int) / (m : Int) * (m : Int) by rw [Int.emod_def, Int.mul_comm]]
            exact upd_same
          · rintro H5 ⟨e5, h5⟩
            repeat' (first | specialize "st" | fail)
            have hS := sm_ints (K := K) (H := H5) (modL (1 + us4.length) m)
            rw [show ((1 : Int) + (us4.length : Int)).toNat = 1 + us4.length by omega] at h5
            refine ⟨0, L, D4, _, _, by decide, rfl, rfl, .inl ⟨sql (e5 _ _ hL), sql h5⟩, hS, ?_⟩
            repeat' (first | specialize "st" | fail)
            exact q _
end
theorem core_all (T : Glo K w mg) (D__law_draw : Dn K mg "_law_draw" s__law_draw p__law_draw) (D__law_pick : Dn K mg "_law_pick" s__law_pick p__law_pick) (D__law_number : Dn K mg "_law_number" s__law_number p__law_number) (D__law_operator : Dn K mg "_law_operator" s__law_operator p__law_operator)
    (D__law_index : Dn K mg "_law_index" s__law_index p__law_index) (D__law_read : Dn K mg "_law_read" s__law_read p__law_read) (D__law_expression : Dn K mg "_law_expression" s__law_expression p__law_expression) (D__law_target : Dn K mg "_law_target" s__law_target p__law_target) (D__law_set : Dn K mg "_law_set" s__law_set p__law_set)
    (D__law_simple : Dn K mg "_law_simple" s__law_simple p__law_simple) (D__law_more_cells : Dn K mg "_law_more_cells" s__law_more_cells p__law_more_cells) (D__law_env : Dn K mg "_law_env" s__law_env p__law_env) (D__law_alt : Dn K mg "_law_alt" s__law_alt p__law_alt) (D__law_wrapped : Dn K mg "_law_wrapped" s__law_wrapped p__law_wrapped)
    (D__law_items : Dn K mg "_law_items" s__law_items p__law_items) (D__law_meetings : Dn K mg "_law_meetings" s__law_meetings p__law_meetings) (D__law_shared : Dn K mg "_law_shared" s__law_shared p__law_shared) (D__law_faulty : Dn K mg "_law_faulty" s__law_faulty p__law_faulty) (D__law_par : Dn K mg "_law_par" s__law_par p__law_par)
    (D__law_core : Dn K mg "_law_core" s__law_core p__law_core) : Cal P w K mg base "_law_core" 23 p__law_core sp_core := by
  have dr := ok_draw (P := P) (w := w) (base := base) T D__law_draw
  have pi := ok_pick T D__law_pick dr
  have nu := ok_number T D__law_number dr pi
  have op := ok_operator T D__law_operator dr pi
  have ix := ok_index T D__law_index dr pi
  have re := ok_read T D__law_read dr pi ix
  have ta := ok_target T D__law_target dr pi ix
  have x0 : Cal P w K mg base "_law_expression" 4 p__law_expression (sp_expr 0) := cal_imp (cal_false D__law_expression sc__law_expression 3) fun _ _ _ _ ⟨_, _, _, _, _, _, _, h, _⟩ => absurd h (Nat.not_lt_zero _)
  have x1 := ok_expression T D__law_expression dr pi nu op re (d := 0) x0
  have x2 := ok_expression T D__law_expression dr pi nu op re (d := 1) x1
  have ex := ok_expression T D__law_expression dr pi nu op re (d := 2) x2
  have se := ok_set T D__law_set ta ex
  have si := ok_simple T D__law_simple dr pi ex se
  have mo := ok_more (P := P) (w := w) (base := base) T D__law_more_cells
  have en := ok_env T D__law_env dr mo
  have al := ok_alt T D__law_alt dr ta ex si
  have wr := ok_wrapped T D__law_wrapped dr mo ex se
  have me := ok_meetings T D__law_meetings dr pi mo
  have sh := ok_shared T D__law_shared dr
  have fy := ok_faulty T D__law_faulty dr
  have pa := par_all T D__law_items D__law_par dr ex ta si al wr en me sh fy 5
  exact ok_core T D__law_core dr en ex se si pa
theorem ok_einit {x fl : Str} {C : Addr} (T : ErrC K mg x C fl) {q : Str} {st : Stmt} {N : List Str} (D : DnE K q C st N) (S : FnScope N N (defScope st)) (l2 : N.length = 2) (h0 : ∀ a b : V, start N [a, b] = [some a, some b])
    (hb : ∀ (f : Addr) (cdv : Value) (A : Around) (outer : List Env) (s : Shared) (H : Hp) (E : XK), PSs (cxOf CX0 P w K mg base N q (defScope st) f cdv A outer s H E).nox (defBody st) (tOst K fl (tVar 0) (tVar 1))) : MakE P w K mg base C 1 N (sp_einit C fl) := by
  refine D.ok S (fun vs H Q E h => ?_) (fun f cdv A outer s H vs Q E hr h => ?_)
  · obtain ⟨_, _, rfl, _⟩ := h
    rw [l2]
    rfl
  obtain ⟨a, v, rfl, ha, q⟩ := h
  refine ⟨_, hb f cdv A outer s H E, ?_⟩
  rw [h0]
  exact ⟨v, rfl, .ref a, rfl, a, C, rfl, T.ox, T.no, .inl ⟨ha, fun dx n ne => q dx n ne⟩⟩
theorem build_law {C_Plan CL CB : Addr} {fd : FuncData} {fa : Addr} (F : Fun K "law" "law" s_law fa fd) (T : Glo K w mg) (D_check_network : Dn K mg "check_network" s_check_network p_check_network) (D_neighbours : Dn K mg "neighbours" s_neighbours p_neighbours) (D_distances : Dn K mg "distances" s_distances p_distances) (D_next_hops : Dn K mg "next_hops" s_next_hops p_next_hops) (D_next_hop : Dn K mg "next_hop" s_next_hop p_next_hop) (D_parts_of : Dn K mg "parts_of" s_parts_of p_parts_of) (D_threads_of : Dn K mg "threads_of" s_threads_of p_threads_of) (D_note_branches : Dn K mg "note_branches" s_note_branches p_note_branches) (D_make_plan : Dn K mg "make_plan" s_make_plan p_make_plan) (D_check_places : Dn K mg "check_places" s_check_places p_check_places) (D_spread : Dn K mg "spread" s_spread p_spread) (D__law_state : Dn K mg "_law_state" s__law_state p__law_state) (D__law_draw : Dn K mg "_law_draw" s__law_draw p__law_draw) (D__law_pick : Dn K mg "_law_pick" s__law_pick p__law_pick) (D__law_number : Dn K mg "_law_number" s__law_number p__law_number) (D__law_operator : Dn K mg "_law_operator" s__law_operator p__law_operator) (D__law_index : Dn K mg "_law_index" s__law_index p__law_index) (D__law_read : Dn K mg "_law_read" s__law_read p__law_read) (D__law_expression : Dn K mg "_law_expression" s__law_expression p__law_expression) (D__law_target : Dn K mg "_law_target" s__law_target p__law_target) (D__law_set : Dn K mg "_law_set" s__law_set p__law_set) (D__law_simple : Dn K mg "_law_simple" s__law_simple p__law_simple) (D__law_more_cells : Dn K mg "_law_more_cells" s__law_more_cells p__law_more_cells) (D__law_env : Dn K mg "_law_env" s__law_env p__law_env) (D__law_alt : Dn K mg "_law_alt" s__law_alt p__law_alt) (D__law_wrapped : Dn K mg "_law_wrapped" s__law_wrapped p__law_wrapped) (D__law_items : Dn K mg "_law_items" s__law_items p__law_items) (D__law_meetings : Dn K mg "_law_meetings" s__law_meetings p__law_meetings) (D__law_shared : Dn K mg "_law_shared" s__law_shared p__law_shared) (D__law_faulty : Dn K mg "_law_faulty" s__law_faulty p__law_faulty) (D__law_par : Dn K mg "_law_par" s__law_par p__law_par) (D__law_core : Dn K mg "_law_core" s__law_core p__law_core) (D__law_threads : Dn K mg "_law_threads" s__law_threads p__law_threads) (D__law_network : Dn K mg "_law_network" s__law_network p__law_network) (D__law_told : Dn K mg "_law_told" s__law_told p__law_told) (D_Plan___init__ : DnI K mg "Plan" "Plan.__init__" C_Plan s_Plan___init__ p_Plan___init__) (W : PlnK K C_Plan) (FA : Fam K mg CL CB) (E_L : DnE K "PlanError.__init__" CL s_PlanError___init__ p_PlanError___init__) : TopOk P w K mg base fa fd ["_law_script"] (sp_law K) := by
  have mL : MakE P w K mg base CL 1 p_PlanError___init__ (sp_einit CL "reason") := ok_einit FA.l E_L sc_PlanError___init__ rfl (fun _ _ => rfl) (fun f cdv A outer s H E => (pss_one (ps_ost (pv 0) (pv 1))))
  have dr := ok_draw (P := P) (w := w) (base := base) T D__law_draw
  have pi := ok_pick T D__law_pick dr
  have co := core_all (P := P) (w := w) (base := base) T D__law_draw D__law_pick D__law_number D__law_operator D__law_index D__law_read D__law_expression D__law_target D__law_set D__law_simple D__law_more_cells D__law_env D__law_alt D__law_wrapped D__law_items D__law_meetings D__law_shared D__law_faulty D__law_par D__law_core
  have po := ok_parts_ofV (P := P) (w := w) (base := base) T D_parts_of
  have no := note_all (P := P) (w := w) (base := base) T D_note_branches po 71
  have th := ok_threads T D_threads_of 71 no
  have nb := ok_nbs (P := P) (w := w) (base := base) T D_neighbours
  have di := ok_dist T D_distances nb
  have nh := ok_hop (P := P) (w := w) (base := base) T D_next_hop
  have ho := ok_hops T D_next_hops nb di nh
  have ch := ok_check T D_check_network FA.l mL di
  have cp := ok_places T D_check_places FA.l mL
  have pn := ok_pinit T W D_Plan___init__ ho
  have mk := ok_mkplan T D_make_plan 71 FA.l mL pn ch cp th
  have to := ok_told T D__law_told FA mk
  have ne := ok_lnet T D__law_network dr pi
  have lt := lthreads_all (P := P) (w := w) (base := base) T D__law_threads 71
  have sr := ok_spread (P := P) (w := w) (base := base) T D_spread
  exact body_law F T W (ok_state T D__law_state) dr pi co ne lt mk ho to sr
theorem dn_mk {h : Heap} {x : Str} {st : Stmt} {ps : List Str} {f : Addr} {oc : Value} {od an : Option Addr} {osl : Array (Option Value)} {kV doc pm cdv ct : Value} (X : K.In h) (G : h.Ns mainGlobals mg) (a : PySem.W.nsIn K mainGlobals x = some (some (.ref f)))
    (l : K.lookup f = some ⟨oc, od, .func (PySem.W.fnOf x x (defArgs st) (defBody st) (defScope st) .none kV doc pm an cdv ct), osl⟩) (c : PySem.W.codeIn K cdv x = true) (k : PySem.W.keepIn K (.ref f) = true)
    (hb : ∀ (kV doc pm : Value) (an : Option Addr) (cdv ct : Value) (us : List Value), us.length = ps.length → bindArgs (PySem.W.fnOf x x (defArgs st) (defBody st) (defScope st) .none kV doc pm an cdv ct) ⟨us, []⟩ = pure (ps.zip us)) : Dn K mg x st ps :=
  ⟨f, _, fun_mk l c k, PySem.W.mg_of X G a, (fun_mk l c k).binds hb⟩
theorem all_mk {l : PySem.W.OpenLaw} {w : World} {K : PySem.W.Frag} {h : Heap} {mg : Str → Option Value} {fa : Addr} (X : K.In h) (G : h.Ns mainGlobals mg) (hfa : mg "law" = some (.ref fa))
    {f0 : Addr} {od0 an0 : Option Addr} {sl0 : Array (Option Value)} {oc0 kV0 dc0 pm0 cd0 ct0 : Value}
    {f1 : Addr} {od1 an1 : Option Addr} {sl1 : Array (Option Value)} {oc1 kV1 dc1 pm1 cd1 ct1 : Value}
    {f2 : Addr} {od2 an2 : Option Addr} {sl2 : Array (Option Value)} {oc2 kV2 dc2 pm2 cd2 ct2 : Value}
    {f3 : Addr} {od3 an3 : Option Addr} {sl3 : Array (Option Value)} {oc3 kV3 dc3 pm3 cd3 ct3 : Value}
    {f4 : Addr} {od4 an4 : Option Addr} {sl4 : Array (Option Value)} {oc4 kV4 dc4 pm4 cd4 ct4 : Value}
    {f5 : Addr} {od5 an5 : Option Addr} {sl5 : Array (Option Value)} {oc5 kV5 dc5 pm5 cd5 ct5 : Value}
    {f6 : Addr} {od6 an6 : Option Addr} {sl6 : Array (Option Value)} {oc6 kV6 dc6 pm6 cd6 ct6 : Value}
    {f7 : Addr} {od7 an7 : Option Addr} {sl7 : Array (Option Value)} {oc7 kV7 dc7 pm7 cd7 ct7 : Value}
    {f8 : Addr} {od8 an8 : Option Addr} {sl8 : Array (Option Value)} {oc8 kV8 dc8 pm8 cd8 ct8 : Value}
    {f9 : Addr} {od9 an9 : Option Addr} {sl9 : Array (Option Value)} {oc9 kV9 dc9 pm9 cd9 ct9 : Value}
    {f10 : Addr} {od10 an10 : Option Addr} {sl10 : Array (Option Value)} {oc10 kV10 dc10 pm10 cd10 ct10 : Value}
    {f11 : Addr} {od11 an11 : Option Addr} {sl11 : Array (Option Value)} {oc11 kV11 dc11 pm11 cd11 ct11 : Value}
    {f12 : Addr} {od12 an12 : Option Addr} {sl12 : Array (Option Value)} {oc12 kV12 dc12 pm12 cd12 ct12 : Value}
    {f13 : Addr} {od13 an13 : Option Addr} {sl13 : Array (Option Value)} {oc13 kV13 dc13 pm13 cd13 ct13 : Value}
    {f14 : Addr} {od14 an14 : Option Addr} {sl14 : Array (Option Value)} {oc14 kV14 dc14 pm14 cd14 ct14 : Value}
    {f15 : Addr} {od15 an15 : Option Addr} {sl15 : Array (Option Value)} {oc15 kV15 dc15 pm15 cd15 ct15 : Value}
    {f16 : Addr} {od16 an16 : Option Addr} {sl16 : Array (Option Value)} {oc16 kV16 dc16 pm16 cd16 ct16 : Value}
    {f17 : Addr} {od17 an17 : Option Addr} {sl17 : Array (Option Value)} {oc17 kV17 dc17 pm17 cd17 ct17 : Value}
    {f18 : Addr} {od18 an18 : Option Addr} {sl18 : Array (Option Value)} {oc18 kV18 dc18 pm18 cd18 ct18 : Value}
    {f19 : Addr} {od19 an19 : Option Addr} {sl19 : Array (Option Value)} {oc19 kV19 dc19 pm19 cd19 ct19 : Value}
    {f20 : Addr} {od20 an20 : Option Addr} {sl20 : Array (Option Value)} {oc20 kV20 dc20 pm20 cd20 ct20 : Value}
    {f21 : Addr} {od21 an21 : Option Addr} {sl21 : Array (Option Value)} {oc21 kV21 dc21 pm21 cd21 ct21 : Value}
    {f22 : Addr} {od22 an22 : Option Addr} {sl22 : Array (Option Value)} {oc22 kV22 dc22 pm22 cd22 ct22 : Value}
    {f23 : Addr} {od23 an23 : Option Addr} {sl23 : Array (Option Value)} {oc23 kV23 dc23 pm23 cd23 ct23 : Value}
    {f24 : Addr} {od24 an24 : Option Addr} {sl24 : Array (Option Value)} {oc24 kV24 dc24 pm24 cd24 ct24 : Value}
    {f25 : Addr} {od25 an25 : Option Addr} {sl25 : Array (Option Value)} {oc25 kV25 dc25 pm25 cd25 ct25 : Value}
    {f26 : Addr} {od26 an26 : Option Addr} {sl26 : Array (Option Value)} {oc26 kV26 dc26 pm26 cd26 ct26 : Value}
    {f27 : Addr} {od27 an27 : Option Addr} {sl27 : Array (Option Value)} {oc27 kV27 dc27 pm27 cd27 ct27 : Value}
    {f28 : Addr} {od28 an28 : Option Addr} {sl28 : Array (Option Value)} {oc28 kV28 dc28 pm28 cd28 ct28 : Value}
    {f29 : Addr} {od29 an29 : Option Addr} {sl29 : Array (Option Value)} {oc29 kV29 dc29 pm29 cd29 ct29 : Value}
    {f30 : Addr} {od30 an30 : Option Addr} {sl30 : Array (Option Value)} {oc30 kV30 dc30 pm30 cd30 ct30 : Value}
    {f31 : Addr} {od31 an31 : Option Addr} {sl31 : Array (Option Value)} {oc31 kV31 dc31 pm31 cd31 ct31 : Value}
    {f32 : Addr} {od32 an32 : Option Addr} {sl32 : Array (Option Value)} {oc32 kV32 dc32 pm32 cd32 ct32 : Value}
    {f33 : Addr} {od33 an33 : Option Addr} {sl33 : Array (Option Value)} {oc33 kV33 dc33 pm33 cd33 ct33 : Value}
    {f34 : Addr} {od34 an34 : Option Addr} {sl34 : Array (Option Value)} {oc34 kV34 dc34 pm34 cd34 ct34 : Value}
    {f35 : Addr} {od35 an35 : Option Addr} {sl35 : Array (Option Value)} {oc35 kV35 dc35 pm35 cd35 ct35 : Value}
    {C_Plan : Addr}
    {f_Plan___init__ : Addr} {od_Plan___init__ an_Plan___init__ : Option Addr} {sl_Plan___init__ : Array (Option Value)} {oc_Plan___init__ kV_Plan___init__ dc_Plan___init__ pm_Plan___init__ cd_Plan___init__ ct_Plan___init__ : Value}
    {C_PlacedError : Addr}
    {C_PlanError f_PlanError___init__ N_PlanError : Addr} {nm_PlanError q_PlanError : Str} {bs_PlanError bm_PlanError sub_PlanError : List Value} {sn_PlanError : List Str} {ab_PlanError : Bool} {col_PlanError : Option Bool} {dd_PlanError : Option Addr} {m0_PlanError m1_PlanError m2_PlanError m3_PlanError m5_PlanError : Option Value} {od_PlanError___init__ an_PlanError___init__ : Option Addr} {sl_PlanError___init__ : Array (Option Value)} {oc_PlanError___init__ kV_PlanError___init__ dc_PlanError___init__ pm_PlanError___init__ cd_PlanError___init__ ct_PlanError___init__ : Value}
    (a0 : PySem.W.nsIn K mainGlobals "check_network" = some (some (.ref f0))) (l0 : K.lookup f0 = some ⟨oc0, od0, .func (PySem.W.fnOf "check_network" "check_network" (defArgs s_check_network) (defBody s_check_network) (defScope s_check_network) .none kV0 dc0 pm0 an0 cd0 ct0), sl0⟩) (c0 : PySem.W.codeIn K cd0 "check_network" = true) (k0 : PySem.W.keepIn K (.ref f0) = true)
    (a1 : PySem.W.nsIn K mainGlobals "neighbours" = some (some (.ref f1))) (l1 : K.lookup f1 = some ⟨oc1, od1, .func (PySem.W.fnOf "neighbours" "neighbours" (defArgs s_neighbours) (defBody s_neighbours) (defScope s_neighbours) .none kV1 dc1 pm1 an1 cd1 ct1), sl1⟩) (c1 : PySem.W.codeIn K cd1 "neighbours" = true) (k1 : PySem.W.keepIn K (.ref f1) = true)
    (a2 : PySem.W.nsIn K mainGlobals "distances" = some (some (.ref f2))) (l2 : K.lookup f2 = some ⟨oc2, od2, .func (PySem.W.fnOf "distances" "distances" (defArgs s_distances) (defBody s_distances) (defScope s_distances) .none kV2 dc2 pm2 an2 cd2 ct2), sl2⟩) (c2 : PySem.W.codeIn K cd2 "distances" = true) (k2 : PySem.W.keepIn K (.ref f2) = true)
    (a3 : PySem.W.nsIn K mainGlobals "next_hops" = some (some (.ref f3))) (l3 : K.lookup f3 = some ⟨oc3, od3, .func (PySem.W.fnOf "next_hops" "next_hops" (defArgs s_next_hops) (defBody s_next_hops) (defScope s_next_hops) .none kV3 dc3 pm3 an3 cd3 ct3), sl3⟩) (c3 : PySem.W.codeIn K cd3 "next_hops" = true) (k3 : PySem.W.keepIn K (.ref f3) = true)
    (a4 : PySem.W.nsIn K mainGlobals "next_hop" = some (some (.ref f4))) (l4 : K.lookup f4 = some ⟨oc4, od4, .func (PySem.W.fnOf "next_hop" "next_hop" (defArgs s_next_hop) (defBody s_next_hop) (defScope s_next_hop) .none kV4 dc4 pm4 an4 cd4 ct4), sl4⟩) (c4 : PySem.W.codeIn K cd4 "next_hop" = true) (k4 : PySem.W.keepIn K (.ref f4) = true)
    (a5 : PySem.W.nsIn K mainGlobals "parts_of" = some (some (.ref f5))) (l5 : K.lookup f5 = some ⟨oc5, od5, .func (PySem.W.fnOf "parts_of" "parts_of" (defArgs s_parts_of) (defBody s_parts_of) (defScope s_parts_of) .none kV5 dc5 pm5 an5 cd5 ct5), sl5⟩) (c5 : PySem.W.codeIn K cd5 "parts_of" = true) (k5 : PySem.W.keepIn K (.ref f5) = true)
    (a6 : PySem.W.nsIn K mainGlobals "threads_of" = some (some (.ref f6))) (l6 : K.lookup f6 = some ⟨oc6, od6, .func (PySem.W.fnOf "threads_of" "threads_of" (defArgs s_threads_of) (defBody s_threads_of) (defScope s_threads_of) .none kV6 dc6 pm6 an6 cd6 ct6), sl6⟩) (c6 : PySem.W.codeIn K cd6 "threads_of" = true) (k6 : PySem.W.keepIn K (.ref f6) = true)
    (a7 : PySem.W.nsIn K mainGlobals "note_branches" = some (some (.ref f7))) (l7 : K.lookup f7 = some ⟨oc7, od7, .func (PySem.W.fnOf "note_branches" "note_branches" (defArgs s_note_branches) (defBody s_note_branches) (defScope s_note_branches) .none kV7 dc7 pm7 an7 cd7 ct7), sl7⟩) (c7 : PySem.W.codeIn K cd7 "note_branches" = true) (k7 : PySem.W.keepIn K (.ref f7) = true)
    (a8 : PySem.W.nsIn K mainGlobals "make_plan" = some (some (.ref f8))) (l8 : K.lookup f8 = some ⟨oc8, od8, .func (PySem.W.fnOf "make_plan" "make_plan" (defArgs s_make_plan) (defBody s_make_plan) (defScope s_make_plan) .none kV8 dc8 pm8 an8 cd8 ct8), sl8⟩) (c8 : PySem.W.codeIn K cd8 "make_plan" = true) (k8 : PySem.W.keepIn K (.ref f8) = true)
    (a9 : PySem.W.nsIn K mainGlobals "check_places" = some (some (.ref f9))) (l9 : K.lookup f9 = some ⟨oc9, od9, .func (PySem.W.fnOf "check_places" "check_places" (defArgs s_check_places) (defBody s_check_places) (defScope s_check_places) .none kV9 dc9 pm9 an9 cd9 ct9), sl9⟩) (c9 : PySem.W.codeIn K cd9 "check_places" = true) (k9 : PySem.W.keepIn K (.ref f9) = true)
    (a10 : PySem.W.nsIn K mainGlobals "spread" = some (some (.ref f10))) (l10 : K.lookup f10 = some ⟨oc10, od10, .func (PySem.W.fnOf "spread" "spread" (defArgs s_spread) (defBody s_spread) (defScope s_spread) .none kV10 dc10 pm10 an10 cd10 ct10), sl10⟩) (c10 : PySem.W.codeIn K cd10 "spread" = true) (k10 : PySem.W.keepIn K (.ref f10) = true)
    (a11 : PySem.W.nsIn K mainGlobals "_law_state" = some (some (.ref f11))) (l11 : K.lookup f11 = some ⟨oc11, od11, .func (PySem.W.fnOf "_law_state" "_law_state" (defArgs s__law_state) (defBody s__law_state) (defScope s__law_state) .none kV11 dc11 pm11 an11 cd11 ct11), sl11⟩) (c11 : PySem.W.codeIn K cd11 "_law_state" = true) (k11 : PySem.W.keepIn K (.ref f11) = true)
    (a12 : PySem.W.nsIn K mainGlobals "_law_draw" = some (some (.ref f12))) (l12 : K.lookup f12 = some ⟨oc12, od12, .func (PySem.W.fnOf "_law_draw" "_law_draw" (defArgs s__law_draw) (defBody s__law_draw) (defScope s__law_draw) .none kV12 dc12 pm12 an12 cd12 ct12), sl12⟩) (c12 : PySem.W.codeIn K cd12 "_law_draw" = true) (k12 : PySem.W.keepIn K (.ref f12) = true)
    (a13 : PySem.W.nsIn K mainGlobals "_law_pick" = some (some (.ref f13))) (l13 : K.lookup f13 = some ⟨oc13, od13, .func (PySem.W.fnOf "_law_pick" "_law_pick" (defArgs s__law_pick) (defBody s__law_pick) (defScope s__law_pick) .none kV13 dc13 pm13 an13 cd13 ct13), sl13⟩) (c13 : PySem.W.codeIn K cd13 "_law_pick" = true) (k13 : PySem.W.keepIn K (.ref f13) = true)
    (a14 : PySem.W.nsIn K mainGlobals "_law_number" = some (some (.ref f14))) (l14 : K.lookup f14 = some ⟨oc14, od14, .func (PySem.W.fnOf "_law_number" "_law_number" (defArgs s__law_number) (defBody s__law_number) (defScope s__law_number) .none kV14 dc14 pm14 an14 cd14 ct14), sl14⟩) (c14 : PySem.W.codeIn K cd14 "_law_number" = true) (k14 : PySem.W.keepIn K (.ref f14) = true)
    (a15 : PySem.W.nsIn K mainGlobals "_law_operator" = some (some (.ref f15))) (l15 : K.lookup f15 = some ⟨oc15, od15, .func (PySem.W.fnOf "_law_operator" "_law_operator" (defArgs s__law_operator) (defBody s__law_operator) (defScope s__law_operator) .none kV15 dc15 pm15 an15 cd15 ct15), sl15⟩) (c15 : PySem.W.codeIn K cd15 "_law_operator" = true) (k15 : PySem.W.keepIn K (.ref f15) = true)
    (a16 : PySem.W.nsIn K mainGlobals "_law_index" = some (some (.ref f16))) (l16 : K.lookup f16 = some ⟨oc16, od16, .func (PySem.W.fnOf "_law_index" "_law_index" (defArgs s__law_index) (defBody s__law_index) (defScope s__law_index) .none kV16 dc16 pm16 an16 cd16 ct16), sl16⟩) (c16 : PySem.W.codeIn K cd16 "_law_index" = true) (k16 : PySem.W.keepIn K (.ref f16) = true)
    (a17 : PySem.W.nsIn K mainGlobals "_law_read" = some (some (.ref f17))) (l17 : K.lookup f17 = some ⟨oc17, od17, .func (PySem.W.fnOf "_law_read" "_law_read" (defArgs s__law_read) (defBody s__law_read) (defScope s__law_read) .none kV17 dc17 pm17 an17 cd17 ct17), sl17⟩) (c17 : PySem.W.codeIn K cd17 "_law_read" = true) (k17 : PySem.W.keepIn K (.ref f17) = true)
    (a18 : PySem.W.nsIn K mainGlobals "_law_expression" = some (some (.ref f18))) (l18 : K.lookup f18 = some ⟨oc18, od18, .func (PySem.W.fnOf "_law_expression" "_law_expression" (defArgs s__law_expression) (defBody s__law_expression) (defScope s__law_expression) .none kV18 dc18 pm18 an18 cd18 ct18), sl18⟩) (c18 : PySem.W.codeIn K cd18 "_law_expression" = true) (k18 : PySem.W.keepIn K (.ref f18) = true)
    (a19 : PySem.W.nsIn K mainGlobals "_law_target" = some (some (.ref f19))) (l19 : K.lookup f19 = some ⟨oc19, od19, .func (PySem.W.fnOf "_law_target" "_law_target" (defArgs s__law_target) (defBody s__law_target) (defScope s__law_target) .none kV19 dc19 pm19 an19 cd19 ct19), sl19⟩) (c19 : PySem.W.codeIn K cd19 "_law_target" = true) (k19 : PySem.W.keepIn K (.ref f19) = true)
    (a20 : PySem.W.nsIn K mainGlobals "_law_set" = some (some (.ref f20))) (l20 : K.lookup f20 = some ⟨oc20, od20, .func (PySem.W.fnOf "_law_set" "_law_set" (defArgs s__law_set) (defBody s__law_set) (defScope s__law_set) .none kV20 dc20 pm20 an20 cd20 ct20), sl20⟩) (c20 : PySem.W.codeIn K cd20 "_law_set" = true) (k20 : PySem.W.keepIn K (.ref f20) = true)
    (a21 : PySem.W.nsIn K mainGlobals "_law_simple" = some (some (.ref f21))) (l21 : K.lookup f21 = some ⟨oc21, od21, .func (PySem.W.fnOf "_law_simple" "_law_simple" (defArgs s__law_simple) (defBody s__law_simple) (defScope s__law_simple) .none kV21 dc21 pm21 an21 cd21 ct21), sl21⟩) (c21 : PySem.W.codeIn K cd21 "_law_simple" = true) (k21 : PySem.W.keepIn K (.ref f21) = true)
    (a22 : PySem.W.nsIn K mainGlobals "_law_more_cells" = some (some (.ref f22))) (l22 : K.lookup f22 = some ⟨oc22, od22, .func (PySem.W.fnOf "_law_more_cells" "_law_more_cells" (defArgs s__law_more_cells) (defBody s__law_more_cells) (defScope s__law_more_cells) .none kV22 dc22 pm22 an22 cd22 ct22), sl22⟩) (c22 : PySem.W.codeIn K cd22 "_law_more_cells" = true) (k22 : PySem.W.keepIn K (.ref f22) = true)
    (a23 : PySem.W.nsIn K mainGlobals "_law_env" = some (some (.ref f23))) (l23 : K.lookup f23 = some ⟨oc23, od23, .func (PySem.W.fnOf "_law_env" "_law_env" (defArgs s__law_env) (defBody s__law_env) (defScope s__law_env) .none kV23 dc23 pm23 an23 cd23 ct23), sl23⟩) (c23 : PySem.W.codeIn K cd23 "_law_env" = true) (k23 : PySem.W.keepIn K (.ref f23) = true)
    (a24 : PySem.W.nsIn K mainGlobals "_law_alt" = some (some (.ref f24))) (l24 : K.lookup f24 = some ⟨oc24, od24, .func (PySem.W.fnOf "_law_alt" "_law_alt" (defArgs s__law_alt) (defBody s__law_alt) (defScope s__law_alt) .none kV24 dc24 pm24 an24 cd24 ct24), sl24⟩) (c24 : PySem.W.codeIn K cd24 "_law_alt" = true) (k24 : PySem.W.keepIn K (.ref f24) = true)
    (a25 : PySem.W.nsIn K mainGlobals "_law_wrapped" = some (some (.ref f25))) (l25 : K.lookup f25 = some ⟨oc25, od25, .func (PySem.W.fnOf "_law_wrapped" "_law_wrapped" (defArgs s__law_wrapped) (defBody s__law_wrapped) (defScope s__law_wrapped) .none kV25 dc25 pm25 an25 cd25 ct25), sl25⟩) (c25 : PySem.W.codeIn K cd25 "_law_wrapped" = true) (k25 : PySem.W.keepIn K (.ref f25) = true)
    (a26 : PySem.W.nsIn K mainGlobals "_law_items" = some (some (.ref f26))) (l26 : K.lookup f26 = some ⟨oc26, od26, .func (PySem.W.fnOf "_law_items" "_law_items" (defArgs s__law_items) (defBody s__law_items) (defScope s__law_items) .none kV26 dc26 pm26 an26 cd26 ct26), sl26⟩) (c26 : PySem.W.codeIn K cd26 "_law_items" = true) (k26 : PySem.W.keepIn K (.ref f26) = true)
    (a27 : PySem.W.nsIn K mainGlobals "_law_meetings" = some (some (.ref f27))) (l27 : K.lookup f27 = some ⟨oc27, od27, .func (PySem.W.fnOf "_law_meetings" "_law_meetings" (defArgs s__law_meetings) (defBody s__law_meetings) (defScope s__law_meetings) .none kV27 dc27 pm27 an27 cd27 ct27), sl27⟩) (c27 : PySem.W.codeIn K cd27 "_law_meetings" = true) (k27 : PySem.W.keepIn K (.ref f27) = true)
    (a28 : PySem.W.nsIn K mainGlobals "_law_shared" = some (some (.ref f28))) (l28 : K.lookup f28 = some ⟨oc28, od28, .func (PySem.W.fnOf "_law_shared" "_law_shared" (defArgs s__law_shared) (defBody s__law_shared) (defScope s__law_shared) .none kV28 dc28 pm28 an28 cd28 ct28), sl28⟩) (c28 : PySem.W.codeIn K cd28 "_law_shared" = true) (k28 : PySem.W.keepIn K (.ref f28) = true)
    (a29 : PySem.W.nsIn K mainGlobals "_law_faulty" = some (some (.ref f29))) (l29 : K.lookup f29 = some ⟨oc29, od29, .func (PySem.W.fnOf "_law_faulty" "_law_faulty" (defArgs s__law_faulty) (defBody s__law_faulty) (defScope s__law_faulty) .none kV29 dc29 pm29 an29 cd29 ct29), sl29⟩) (c29 : PySem.W.codeIn K cd29 "_law_faulty" = true) (k29 : PySem.W.keepIn K (.ref f29) = true)
    (a30 : PySem.W.nsIn K mainGlobals "_law_par" = some (some (.ref f30))) (l30 : K.lookup f30 = some ⟨oc30, od30, .func (PySem.W.fnOf "_law_par" "_law_par" (defArgs s__law_par) (defBody s__law_par) (defScope s__law_par) .none kV30 dc30 pm30 an30 cd30 ct30), sl30⟩) (c30 : PySem.W.codeIn K cd30 "_law_par" = true) (k30 : PySem.W.keepIn K (.ref f30) = true)
    (a31 : PySem.W.nsIn K mainGlobals "_law_core" = some (some (.ref f31))) (l31 : K.lookup f31 = some ⟨oc31, od31, .func (PySem.W.fnOf "_law_core" "_law_core" (defArgs s__law_core) (defBody s__law_core) (defScope s__law_core) .none kV31 dc31 pm31 an31 cd31 ct31), sl31⟩) (c31 : PySem.W.codeIn K cd31 "_law_core" = true) (k31 : PySem.W.keepIn K (.ref f31) = true)
    (a32 : PySem.W.nsIn K mainGlobals "_law_threads" = some (some (.ref f32))) (l32 : K.lookup f32 = some ⟨oc32, od32, .func (PySem.W.fnOf "_law_threads" "_law_threads" (defArgs s__law_threads) (defBody s__law_threads) (defScope s__law_threads) .none kV32 dc32 pm32 an32 cd32 ct32), sl32⟩) (c32 : PySem.W.codeIn K cd32 "_law_threads" = true) (k32 : PySem.W.keepIn K (.ref f32) = true)
    (a33 : PySem.W.nsIn K mainGlobals "_law_network" = some (some (.ref f33))) (l33 : K.lookup f33 = some ⟨oc33, od33, .func (PySem.W.fnOf "_law_network" "_law_network" (defArgs s__law_network) (defBody s__law_network) (defScope s__law_network) .none kV33 dc33 pm33 an33 cd33 ct33), sl33⟩) (c33 : PySem.W.codeIn K cd33 "_law_network" = true) (k33 : PySem.W.keepIn K (.ref f33) = true)
    (a34 : PySem.W.nsIn K mainGlobals "_law_told" = some (some (.ref f34))) (l34 : K.lookup f34 = some ⟨oc34, od34, .func (PySem.W.fnOf "_law_told" "_law_told" (defArgs s__law_told) (defBody s__law_told) (defScope s__law_told) .none kV34 dc34 pm34 an34 cd34 ct34), sl34⟩) (c34 : PySem.W.codeIn K cd34 "_law_told" = true) (k34 : PySem.W.keepIn K (.ref f34) = true)
    (a35 : PySem.W.nsIn K mainGlobals "law" = some (some (.ref f35))) (l35 : K.lookup f35 = some ⟨oc35, od35, .func (PySem.W.fnOf "law" "law" (defArgs s_law) (defBody s_law) (defScope s_law) .none kV35 dc35 pm35 an35 cd35 ct35), sl35⟩) (c35 : PySem.W.codeIn K cd35 "law" = true) (k35 : PySem.W.keepIn K (.ref f35) = true)
    (aC_Plan : PySem.W.nsIn K mainGlobals "Plan" = some (some (.ref C_Plan))) (pg_Plan : PySem.W.plainGet K C_Plan Str.empty = true) (hd_Plan : PySem.W.hasDictIn K C_Plan = true) (po_Plan : PySem.W.plainOver K C_Plan = true) (sa_Plan : PySem.W.findIn K (.ref C_Plan) "__setattr__" = some (some (.builtin "object.__setattr__"))) (mk_Plan : PySem.W.makesIn K C_Plan = true) (kc_Plan : PySem.W.keepIn K (.ref C_Plan) = true)
    (na_Plan_processors : PySem.W.findIn K (.ref C_Plan) "processors" = some none)
    (na_Plan_links : PySem.W.findIn K (.ref C_Plan) "links" = some none)
    (na_Plan_threads : PySem.W.findIn K (.ref C_Plan) "threads" = some none)
    (na_Plan_homes : PySem.W.findIn K (.ref C_Plan) "homes" = some none)
    (na_Plan_hops : PySem.W.findIn K (.ref C_Plan) "hops" = some none)
    (a_Plan___init__ : PySem.W.findIn K (.ref C_Plan) "__init__" = some (some (.ref f_Plan___init__))) (i_Plan___init__ : PySem.W.isFn K (.ref f_Plan___init__) = true) (l_Plan___init__ : K.lookup f_Plan___init__ = some ⟨oc_Plan___init__, od_Plan___init__, .func (PySem.W.fnOf "__init__" "Plan.__init__" (defArgs s_Plan___init__) (defBody s_Plan___init__) (defScope s_Plan___init__) .none kV_Plan___init__ dc_Plan___init__ pm_Plan___init__ an_Plan___init__ cd_Plan___init__ ct_Plan___init__), sl_Plan___init__⟩) (c_Plan___init__ : PySem.W.codeIn K cd_Plan___init__ "Plan.__init__" = true) (k_Plan___init__ : PySem.W.keepIn K (.ref f_Plan___init__) = true)
    (aC_PlacedError : PySem.W.nsIn K mainGlobals "PlacedError" = some (some (.ref C_PlacedError))) (eC_PlacedError : PySem.W.subIn K (.ref C_PlacedError) (.type "BaseException") = some true) (iC_PlacedError : PySem.W.isClsIn K C_PlacedError = true) (tC_PlacedError : PySem.W.typeIn K (.ref C_PlacedError) = some (.type "type")) (gnX : PySem.W.specialIn K (.builtin "object.__class__") "__get__" = some (some (.builtin "getset_descriptor.__get__"))) (tkX : PySem.W.takesIn K (.builtin "object.__class__") = some true)
    (aC_PlanError : PySem.W.nsIn K mainGlobals "PlanError" = some (some (.ref C_PlanError))) (xL_PlanError : K.lookup C_PlanError = some (excClassObj nm_PlanError q_PlanError C_PlanError N_PlanError bs_PlanError bm_PlanError true sn_PlanError sub_PlanError ab_PlanError col_PlanError dd_PlanError m0_PlanError m1_PlanError m2_PlanError m3_PlanError m5_PlanError "ValueError.__new__")) (rv_PlanError : PySem.HandSPX.refsVE bm_PlanError = true) (sa_PlanError : PySem.W.findIn K (.ref C_PlanError) "__setattr__" = some (some (.builtin "object.__setattr__"))) (ga_PlanError : PySem.W.findIn K (.ref C_PlanError) "__getattribute__" = some (some (.builtin "BaseException.__getattribute__"))) (gg_PlanError : PySem.W.findIn K (.ref C_PlanError) "__getattr__" = some none) (no_PlanError : PySem.W.findIn K (.ref C_PlanError) "reason" = some none) (kC_PlanError : PySem.W.keepIn K (.ref C_PlanError) = true) (eC_PlanError : PySem.W.subIn K (.ref C_PlanError) (.type "BaseException") = some true) (tC_PlanError : PySem.W.typeIn K (.ref C_PlanError) = some (.type "type")) (hC_PlanError : PySem.W.hasDictIn K C_PlanError = true) (cl_PlanError : (PySem.W.clsIn K C_PlanError).isSome = true) (ca_PlanError : PySem.W.findIn K (.ref C_PlanError) "__class__" = some (some (.builtin "object.__class__"))) (mo_PlanError : PySem.W.mroIn K C_PlanError (.type "object") = some true) (ii_PlanError : PySem.W.findIn K (.ref C_PlanError) "__init__" = some (some (.ref f_PlanError___init__))) (ti_PlanError : PySem.W.typeIn K (.ref f_PlanError___init__) = some (.type "function")) (li_PlanError : K.lookup f_PlanError___init__ = some ⟨oc_PlanError___init__, od_PlanError___init__, .func (PySem.W.fnOf "__init__" "PlanError.__init__" (defArgs s_PlanError___init__) (defBody s_PlanError___init__) (defScope s_PlanError___init__) .none kV_PlanError___init__ dc_PlanError___init__ pm_PlanError___init__ an_PlanError___init__ cd_PlanError___init__ ct_PlanError___init__), sl_PlanError___init__⟩) (ci_PlanError : PySem.W.codeIn K cd_PlanError___init__ "PlanError.__init__" = true) (ki_PlanError : PySem.W.keepIn K (.ref f_PlanError___init__) = true) (kv_PlanError : PySem.W.kitOne K (.ref C_PlanError) (.type "ValueError") = some true) (kp_PlanError : PySem.W.kitOne K (.ref C_PlanError) (.ref C_PlacedError) = some true) (sP_PlanError : PySem.W.subIn K (.ref C_PlanError) (.ref C_PlacedError) = some true)
    (k00X : PySem.W.kitOne K (.ref C_PlanError) (.ref C_PlanError) = some true)
    (sS_PlanError : PySem.W.subIn K (.ref C_PlanError) (.ref C_PlanError) = some true)
    (z_n_len : PySem.W.nsIn K mainGlobals "len" = some none) (z_n_int : PySem.W.nsIn K mainGlobals "int" = some none) (z_n_abs : PySem.W.nsIn K mainGlobals "abs" = some none) (z_n_range : PySem.W.nsIn K mainGlobals "range" = some none) (z_n_list : PySem.W.nsIn K mainGlobals "list" = some none) (z_n_tuple : PySem.W.nsIn K mainGlobals "tuple" = some none) (z_n_dict : PySem.W.nsIn K mainGlobals "dict" = some none) (z_n_sorted : PySem.W.nsIn K mainGlobals "sorted" = some none) (z_n_min : PySem.W.nsIn K mainGlobals "min" = some none) (z_n_all : PySem.W.nsIn K mainGlobals "all" = some none) (z_n_repr : PySem.W.nsIn K mainGlobals "repr" = some none) (z_n_isinstance : PySem.W.nsIn K mainGlobals "isinstance" = some none) (z_n_enumerate : PySem.W.nsIn K mainGlobals "enumerate" = some none) (z_n_zip : PySem.W.nsIn K mainGlobals "zip" = some none) (z_n_max : PySem.W.nsIn K mainGlobals "max" = some none) {t_c_MOST_PROCESSORS : PySem.Tok} (z_c_MOST_PROCESSORS : PySem.W.nsIn K mainGlobals "MOST_PROCESSORS" = some (some (.int 6 t_c_MOST_PROCESSORS))) :
    ∃ fd : FuncData, (∀ (s : Shared) (v : Value), BindsTo s fd ⟨[v], []⟩ [("_law_script", v)]) ∧ ∀ base : Heap, K.In base → base.Ns mainGlobals mg → TopOk l.prog w K mg base fa fd ["_law_script"] (sp_law K) := by
  have e := hfa.symm.trans (PySem.W.mg_of X G a35)
  cases e
  have FL := fun_mk (st := s_law) l35 c35 k35
  have D_check_network : Dn K mg "check_network" s_check_network p_check_network := dn_mk X G a0 l0 c0 k0 (fun _ _ _ _ _ _ us hl => match us, hl with | [_, _], _ => rfl)
  have D_neighbours : Dn K mg "neighbours" s_neighbours p_neighbours := dn_mk X G a1 l1 c1 k1 (fun _ _ _ _ _ _ us hl => match us, hl with | [_, _], _ => rfl)
  have D_distances : Dn K mg "distances" s_distances p_distances := dn_mk X G a2 l2 c2 k2 (fun _ _ _ _ _ _ us hl => match us, hl with | [_, _, _], _ => rfl)
  have D_next_hops : Dn K mg "next_hops" s_next_hops p_next_hops := dn_mk X G a3 l3 c3 k3 (fun _ _ _ _ _ _ us hl => match us, hl with | [_, _], _ => rfl)
  have D_next_hop : Dn K mg "next_hop" s_next_hop p_next_hop := dn_mk X G a4 l4 c4 k4 (fun _ _ _ _ _ _ us hl => match us, hl with | [_, _, _, _], _ => rfl)
  have D_parts_of : Dn K mg "parts_of" s_parts_of p_parts_of := dn_mk X G a5 l5 c5 k5 (fun _ _ _ _ _ _ us hl => match us, hl with | [_], _ => rfl)
  have D_threads_of : Dn K mg "threads_of" s_threads_of p_threads_of := dn_mk X G a6 l6 c6 k6 (fun _ _ _ _ _ _ us hl => match us, hl with | [_], _ => rfl)
  have D_note_branches : Dn K mg "note_branches" s_note_branches p_note_branches := dn_mk X G a7 l7 c7 k7 (fun _ _ _ _ _ _ us hl => match us, hl with | [_, _, _], _ => rfl)
  have D_make_plan : Dn K mg "make_plan" s_make_plan p_make_plan := dn_mk X G a8 l8 c8 k8 (fun _ _ _ _ _ _ us hl => match us, hl with | [_, _, _, _], _ => rfl)
  have D_check_places : Dn K mg "check_places" s_check_places p_check_places := dn_mk X G a9 l9 c9 k9 (fun _ _ _ _ _ _ us hl => match us, hl with | [_, _, _], _ => rfl)
  have D_spread : Dn K mg "spread" s_spread p_spread := dn_mk X G a10 l10 c10 k10 (fun _ _ _ _ _ _ us hl => match us, hl with | [_, _], _ => rfl)
  have D__law_state : Dn K mg "_law_state" s__law_state p__law_state := dn_mk X G a11 l11 c11 k11 (fun _ _ _ _ _ _ us hl => match us, hl with | [_], _ => rfl)
  have D__law_draw : Dn K mg "_law_draw" s__law_draw p__law_draw := dn_mk X G a12 l12 c12 k12 (fun _ _ _ _ _ _ us hl => match us, hl with | [_, _], _ => rfl)
  have D__law_pick : Dn K mg "_law_pick" s__law_pick p__law_pick := dn_mk X G a13 l13 c13 k13 (fun _ _ _ _ _ _ us hl => match us, hl with | [_, _], _ => rfl)
  have D__law_number : Dn K mg "_law_number" s__law_number p__law_number := dn_mk X G a14 l14 c14 k14 (fun _ _ _ _ _ _ us hl => match us, hl with | [_], _ => rfl)
  have D__law_operator : Dn K mg "_law_operator" s__law_operator p__law_operator := dn_mk X G a15 l15 c15 k15 (fun _ _ _ _ _ _ us hl => match us, hl with | [_], _ => rfl)
  have D__law_index : Dn K mg "_law_index" s__law_index p__law_index := dn_mk X G a16 l16 c16 k16 (fun _ _ _ _ _ _ us hl => match us, hl with | [_, _, _], _ => rfl)
  have D__law_read : Dn K mg "_law_read" s__law_read p__law_read := dn_mk X G a17 l17 c17 k17 (fun _ _ _ _ _ _ us hl => match us, hl with | [_, _], _ => rfl)
  have D__law_expression : Dn K mg "_law_expression" s__law_expression p__law_expression := dn_mk X G a18 l18 c18 k18 (fun _ _ _ _ _ _ us hl => match us, hl with | [_, _, _], _ => rfl)
  have D__law_target : Dn K mg "_law_target" s__law_target p__law_target := dn_mk X G a19 l19 c19 k19 (fun _ _ _ _ _ _ us hl => match us, hl with | [_, _], _ => rfl)
  have D__law_set : Dn K mg "_law_set" s__law_set p__law_set := dn_mk X G a20 l20 c20 k20 (fun _ _ _ _ _ _ us hl => match us, hl with | [_, _], _ => rfl)
  have D__law_simple : Dn K mg "_law_simple" s__law_simple p__law_simple := dn_mk X G a21 l21 c21 k21 (fun _ _ _ _ _ _ us hl => match us, hl with | [_, _], _ => rfl)
  have D__law_more_cells : Dn K mg "_law_more_cells" s__law_more_cells p__law_more_cells := dn_mk X G a22 l22 c22 k22 (fun _ _ _ _ _ _ us hl => match us, hl with | [_, _], _ => rfl)
  have D__law_env : Dn K mg "_law_env" s__law_env p__law_env := dn_mk X G a23 l23 c23 k23 (fun _ _ _ _ _ _ us hl => match us, hl with | [_, _], _ => rfl)
  have D__law_alt : Dn K mg "_law_alt" s__law_alt p__law_alt := dn_mk X G a24 l24 c24 k24 (fun _ _ _ _ _ _ us hl => match us, hl with | [_, _, _], _ => rfl)
  have D__law_wrapped : Dn K mg "_law_wrapped" s__law_wrapped p__law_wrapped := dn_mk X G a25 l25 c25 k25 (fun _ _ _ _ _ _ us hl => match us, hl with | [_, _, _, _], _ => rfl)
  have D__law_items : Dn K mg "_law_items" s__law_items p__law_items := dn_mk X G a26 l26 c26 k26 (fun _ _ _ _ _ _ us hl => match us, hl with | [_, _, _, _], _ => rfl)
  have D__law_meetings : Dn K mg "_law_meetings" s__law_meetings p__law_meetings := dn_mk X G a27 l27 c27 k27 (fun _ _ _ _ _ _ us hl => match us, hl with | [_, _, _, _], _ => rfl)
  have D__law_shared : Dn K mg "_law_shared" s__law_shared p__law_shared := dn_mk X G a28 l28 c28 k28 (fun _ _ _ _ _ _ us hl => match us, hl with | [_, _, _, _], _ => rfl)
  have D__law_faulty : Dn K mg "_law_faulty" s__law_faulty p__law_faulty := dn_mk X G a29 l29 c29 k29 (fun _ _ _ _ _ _ us hl => match us, hl with | [_, _], _ => rfl)
  have D__law_par : Dn K mg "_law_par" s__law_par p__law_par := dn_mk X G a30 l30 c30 k30 (fun _ _ _ _ _ _ us hl => match us, hl with | [_, _, _, _], _ => rfl)
  have D__law_core : Dn K mg "_law_core" s__law_core p__law_core := dn_mk X G a31 l31 c31 k31 (fun _ _ _ _ _ _ us hl => match us, hl with | [_, _], _ => rfl)
  have D__law_threads : Dn K mg "_law_threads" s__law_threads p__law_threads := dn_mk X G a32 l32 c32 k32 (fun _ _ _ _ _ _ us hl => match us, hl with | [_], _ => rfl)
  have D__law_network : Dn K mg "_law_network" s__law_network p__law_network := dn_mk X G a33 l33 c33 k33 (fun _ _ _ _ _ _ us hl => match us, hl with | [_], _ => rfl)
  have D__law_told : Dn K mg "_law_told" s__law_told p__law_told := dn_mk X G a34 l34 c34 k34 (fun _ _ _ _ _ _ us hl => match us, hl with | [_, _, _, _], _ => rfl)
  have CL_Plan : Cls K C_Plan := ⟨pg_Plan, hd_Plan, po_Plan, sa_Plan⟩
  have F_Plan___init__ := fun_mk (st := s_Plan___init__) l_Plan___init__ c_Plan___init__ k_Plan___init__
  have b_Plan___init__ := F_Plan___init__.binds (ps := p_Plan___init__) fun _ _ _ _ _ _ us hl => match us, hl with | [_, _, _, _], _ => rfl
  have D_Plan___init__ : DnI K mg "Plan" "Plan.__init__" C_Plan s_Plan___init__ p_Plan___init__ := ⟨_, _, ⟨mk_Plan, a_Plan___init__, i_Plan___init__, kc_Plan⟩, F_Plan___init__, PySem.W.mg_of X G aC_Plan, b_Plan___init__⟩
  have X_Plan := (⟨CL_Plan, na_Plan_processors, na_Plan_links, na_Plan_threads, na_Plan_homes, na_Plan_hops⟩ : PlnK K C_Plan)
  have T_PlanError : ErrC K mg "PlanError" C_PlanError "reason" := ⟨PySem.W.mg_of X G aC_PlanError, ⟨⟨nm_PlanError, q_PlanError, N_PlanError, bs_PlanError, bm_PlanError, sn_PlanError, sub_PlanError, ab_PlanError, col_PlanError, dd_PlanError, m0_PlanError, m1_PlanError, m2_PlanError, m3_PlanError, m5_PlanError, xL_PlanError, rv_PlanError⟩, sa_PlanError, eC_PlanError, tC_PlanError, kC_PlanError⟩, ⟨ga_PlanError, gg_PlanError, eC_PlanError, hC_PlanError⟩, no_PlanError, cl_PlanError, ca_PlanError, gnX, tkX, mo_PlanError⟩
  have F_PlanError___init__ := fun_mk (st := s_PlanError___init__) li_PlanError ci_PlanError ki_PlanError
  have b_PlanError___init__ := F_PlanError___init__.binds (ps := p_PlanError___init__) fun _ _ _ _ _ _ us hl => match us, hl with | [_, _], _ => rfl
  have D_PlanError___init__ : DnE K "PlanError.__init__" C_PlanError s_PlanError___init__ p_PlanError___init__ := ⟨_, _, ii_PlanError, ti_PlanError, F_PlanError___init__, b_PlanError___init__⟩
  have FA : Fam K mg C_PlanError C_PlacedError := ⟨T_PlanError, PySem.W.mg_of X G aC_PlacedError, kp_PlanError, exm_own eC_PlanError cl_PlanError tC_PlanError sS_PlanError⟩
  have T : Glo K w mg := ⟨PySem.W.mg_none_of X G z_n_len, PySem.W.mg_none_of X G z_n_int, PySem.W.mg_none_of X G z_n_abs, PySem.W.mg_none_of X G z_n_range, PySem.W.mg_none_of X G z_n_list, PySem.W.mg_none_of X G z_n_tuple, PySem.W.mg_none_of X G z_n_dict, PySem.W.mg_none_of X G z_n_sorted, PySem.W.mg_none_of X G z_n_min, PySem.W.mg_none_of X G z_n_all, PySem.W.mg_none_of X G z_n_repr, PySem.W.mg_none_of X G z_n_isinstance, PySem.W.mg_none_of X G z_n_enumerate, PySem.W.mg_none_of X G z_n_zip, PySem.W.mg_none_of X G z_n_max, ⟨_, PySem.W.mg_of X G z_c_MOST_PROCESSORS⟩⟩
  refine ⟨PySem.W.fnOf "law" "law" (defArgs s_law) (defBody s_law) (defScope s_law) .none kV35 dc35 pm35 an35 cd35 ct35, fun s v => .of_eq rfl, fun base _ _ => ?_⟩
  exact build_law FL T D_check_network D_neighbours D_distances D_next_hops D_next_hop D_parts_of D_threads_of D_note_branches D_make_plan D_check_places D_spread D__law_state D__law_draw D__law_pick D__law_number D__law_operator D__law_index D__law_read D__law_expression D__law_target D__law_set D__law_simple D__law_more_cells D__law_env D__law_alt D__law_wrapped D__law_items D__law_meetings D__law_shared D__law_faulty D__law_par D__law_core D__law_threads D__law_network D__law_told D_Plan___init__ X_Plan FA D_PlanError___init__
theorem walk {l : PySem.W.OpenLaw} {q : Program} {loose : List Str} {XP : (Str → Option Value) → Heap → Prop} {YP : World → Heap → Prop} {d : DefRec} {K : Params → PySem.W.Frag} (hn : l.most = some 63) (hdf : d.params.defaults = [])
    (hY : ∀ (w : World) (h : Heap), YP w h → (K w.params).In h)
    (F : ∀ (w : World) (mg : Str → Option Value) (fa : Addr) (h : Heap), (K w.params).In h → h.Ns mainGlobals mg → mg d.name = some (.ref fa) →
      ∃ fd : FuncData, (∀ (s : Shared) (u : Value), BindsTo s fd ⟨[u], []⟩ [("_law_script", u)]) ∧ ∀ base : Heap, (K w.params).In base → base.Ns mainGlobals mg → TopOk l.prog w (K w.params) mg base fa fd ["_law_script"] (sp_law (K w.params))) :
    PySem.W.WalkO q loose XP YP l.row.toRowW d [] (fun f vs => PySem.call f vs) := by
  refine Att.attach_call hn hdf fun w s0 s1 mg mb fa o pm cd doc a vs ns G YY ho hd hcd hmg hobj hi hlen hg => ?_
  obtain ⟨fd, hb, hF⟩ := F w mg fa _ (hY w _ YY) G.T.g hmg
  exact top_call (hY w _ YY) G.T.g G.T.b G.T.builtins G.T.nolimit hg hobj hi (Nat.le_trans hlen (by decide)) hF hb fun H _ hS => ⟨a, ns, rfl, hS, hlen, fun _ => rfl⟩
end Y
open PySem PySem.W PyProof.Rows
set_option maxRecDepth 100000 in
set_option maxHeartbeats 0 in
theorem PySem.Challenge.cw_placedanyhow_k41_plans_that_fit_holds : PySem.Challenge.rw_placedanyhow_k41_plans_that_fit.Holds := by
  w_on; o_law; k_head; (case hw => w_witness2)
  k_fill
  refine Y.walk (l := PySem.Challenge.rw_placedanyhow_k41_plans_that_fit) rfl rfl (fun w h Y => PySem.W.kIn_of Y) ?F
  case F =>
    intro w mg fa h KX G hmg
    refine' Y.all_mk KX G hmg ?a0 ?l0 ?c0 ?k0 ?a1 ?l1 ?c1 ?k1 ?a2 ?l2 ?c2 ?k2 ?a3 ?l3 ?c3 ?k3 ?a4 ?l4 ?c4 ?k4 ?a5 ?l5 ?c5 ?k5 ?a6 ?l6 ?c6 ?k6 ?a7 ?l7 ?c7 ?k7 ?a8 ?l8 ?c8 ?k8 ?a9 ?l9 ?c9 ?k9 ?a10 ?l10 ?c10 ?k10 ?a11 ?l11 ?c11 ?k11 ?a12 ?l12 ?c12 ?k12 ?a13 ?l13 ?c13 ?k13 ?a14 ?l14 ?c14 ?k14 ?a15 ?l15 ?c15 ?k15 ?a16 ?l16 ?c16 ?k16 ?a17 ?l17 ?c17 ?k17 ?a18 ?l18 ?c18 ?k18 ?a19 ?l19 ?c19 ?k19 ?a20 ?l20 ?c20 ?k20 ?a21 ?l21 ?c21 ?k21 ?a22 ?l22 ?c22 ?k22 ?a23 ?l23 ?c23 ?k23 ?a24 ?l24 ?c24 ?k24 ?a25 ?l25 ?c25 ?k25 ?a26 ?l26 ?c26 ?k26 ?a27 ?l27 ?c27 ?k27 ?a28 ?l28 ?c28 ?k28 ?a29 ?l29 ?c29 ?k29 ?a30 ?l30 ?c30 ?k30 ?a31 ?l31 ?c31 ?k31 ?a32 ?l32 ?c32 ?k32 ?a33 ?l33 ?c33 ?k33 ?a34 ?l34 ?c34 ?k34 ?a35 ?l35 ?c35 ?k35 ?aC_Plan ?pg_Plan ?hd_Plan ?po_Plan ?sa_Plan ?mk_Plan ?kc_Plan ?na_Plan_processors ?na_Plan_links ?na_Plan_threads ?na_Plan_homes ?na_Plan_hops ?a_Plan___init__ ?i_Plan___init__ ?l_Plan___init__ ?c_Plan___init__ ?k_Plan___init__ ?aC_PlacedError ?eC_PlacedError ?iC_PlacedError ?tC_PlacedError ?gnX ?tkX ?aC_PlanError ?xL_PlanError ?rv_PlanError ?sa_PlanError ?ga_PlanError ?gg_PlanError ?no_PlanError ?kC_PlanError ?eC_PlanError ?tC_PlanError ?hC_PlanError ?cl_PlanError ?ca_PlanError ?mo_PlanError ?ii_PlanError ?ti_PlanError ?li_PlanError ?ci_PlanError ?ki_PlanError ?kv_PlanError ?kp_PlanError ?sP_PlanError ?k00X ?sS_PlanError ?z_n_len ?z_n_int ?z_n_abs ?z_n_range ?z_n_list ?z_n_tuple ?z_n_dict ?z_n_sorted ?z_n_min ?z_n_all ?z_n_repr ?z_n_isinstance ?z_n_enumerate ?z_n_zip ?z_n_max ?z_c_MOST_PROCESSORS
    (case a0 => k_is); (case l0 => k_is); (case c0 => k_is); (case k0 => k_is)
    (case a1 => k_is); (case l1 => k_is); (case c1 => k_is); (case k1 => k_is)
    (case a2 => k_is); (case l2 => k_is); (case c2 => k_is); (case k2 => k_is)
    (case a3 => k_is); (case l3 => k_is); (case c3 => k_is); (case k3 => k_is)
    (case a4 => k_is); (case l4 => k_is); (case c4 => k_is); (case k4 => k_is)
    (case a5 => k_is); (case l5 => k_is); (case c5 => k_is); (case k5 => k_is)
    (case a6 => k_is); (case l6 => k_is); (case c6 => k_is); (case k6 => k_is)
    (case a7 => k_is); (case l7 => k_is); (case c7 => k_is); (case k7 => k_is)
    (case a8 => k_is); (case l8 => k_is); (case c8 => k_is); (case k8 => k_is)
    (case a9 => k_is); (case l9 => k_is); (case c9 => k_is); (case k9 => k_is)
    (case a10 => k_is); (case l10 => k_is); (case c10 => k_is); (case k10 => k_is)
    (case a11 => k_is); (case l11 => k_is); (case c11 => k_is); (case k11 => k_is)
    (case a12 => k_is); (case l12 => k_is); (case c12 => k_is); (case k12 => k_is)
    (case a13 => k_is); (case l13 => k_is); (case c13 => k_is); (case k13 => k_is)
    (case a14 => k_is); (case l14 => k_is); (case c14 => k_is); (case k14 => k_is)
    (case a15 => k_is); (case l15 => k_is); (case c15 => k_is); (case k15 => k_is)
    (case a16 => k_is); (case l16 => k_is); (case c16 => k_is); (case k16 => k_is)
    (case a17 => k_is); (case l17 => k_is); (case c17 => k_is); (case k17 => k_is)
    (case a18 => k_is); (case l18 => k_is); (case c18 => k_is); (case k18 => k_is)
    (case a19 => k_is); (case l19 => k_is); (case c19 => k_is); (case k19 => k_is)
    (case a20 => k_is); (case l20 => k_is); (case c20 => k_is); (case k20 => k_is)
    (case a21 => k_is); (case l21 => k_is); (case c21 => k_is); (case k21 => k_is)
    (case a22 => k_is); (case l22 => k_is); (case c22 => k_is); (case k22 => k_is)
    (case a23 => k_is); (case l23 => k_is); (case c23 => k_is); (case k23 => k_is)
    (case a24 => k_is); (case l24 => k_is); (case c24 => k_is); (case k24 => k_is)
    (case a25 => k_is); (case l25 => k_is); (case c25 => k_is); (case k25 => k_is)
    (case a26 => k_is); (case l26 => k_is); (case c26 => k_is); (case k26 => k_is)
    (case a27 => k_is); (case l27 => k_is); (case c27 => k_is); (case k27 => k_is)
    (case a28 => k_is); (case l28 => k_is); (case c28 => k_is); (case k28 => k_is)
    (case a29 => k_is); (case l29 => k_is); (case c29 => k_is); (case k29 => k_is)
    (case a30 => k_is); (case l30 => k_is); (case c30 => k_is); (case k30 => k_is)
    (case a31 => k_is); (case l31 => k_is); (case c31 => k_is); (case k31 => k_is)
    (case a32 => k_is); (case l32 => k_is); (case c32 => k_is); (case k32 => k_is)
    (case a33 => k_is); (case l33 => k_is); (case c33 => k_is); (case k33 => k_is)
    (case a34 => k_is); (case l34 => k_is); (case c34 => k_is); (case k34 => k_is)
    (case a35 => k_is); (case l35 => k_is); (case c35 => k_is); (case k35 => k_is)
    (case aC_Plan => first | k_is | rfl)
    (case pg_Plan => first | k_is | rfl)
    (case hd_Plan => first | k_is | rfl)
    (case po_Plan => first | k_is | rfl)
    (case sa_Plan => first | k_is | rfl)
    (case mk_Plan => first | k_is | rfl)
    (case kc_Plan => first | k_is | rfl)
    (case na_Plan_processors => first | k_is | rfl)
    (case na_Plan_links => first | k_is | rfl)
    (case na_Plan_threads => first | k_is | rfl)
    (case na_Plan_homes => first | k_is | rfl)
    (case na_Plan_hops => first | k_is | rfl)
    (case a_Plan___init__ => first | k_is | rfl)
    (case i_Plan___init__ => first | k_is | rfl)
    (case l_Plan___init__ => first | k_is | rfl)
    (case c_Plan___init__ => first | k_is | rfl)
    (case k_Plan___init__ => first | k_is | rfl)
    (case aC_PlacedError => first | k_is | rfl)
    (case eC_PlacedError => first | k_is | rfl)
    (case iC_PlacedError => first | k_is | rfl)
    (case tC_PlacedError => first | k_is | rfl)
    (case gnX => first | k_is | rfl)
    (case tkX => first | k_is | rfl)
    (case aC_PlanError => first | k_is | rfl)
    (case xL_PlanError => first | k_is | rfl)
    (case rv_PlanError => rfl)
    (case sa_PlanError => first | k_is | rfl)
    (case ga_PlanError => first | k_is | rfl)
    (case gg_PlanError => first | k_is | rfl)
    (case no_PlanError => first | k_is | rfl)
    (case kC_PlanError => first | k_is | rfl)
    (case eC_PlanError => first | k_is | rfl)
    (case tC_PlanError => first | k_is | rfl)
    (case hC_PlanError => first | k_is | rfl)
    (case cl_PlanError => first | k_is | rfl)
    (case ca_PlanError => first | k_is | rfl)
    (case mo_PlanError => first | k_is | rfl)
    (case ii_PlanError => first | k_is | rfl)
    (case ti_PlanError => first | k_is | rfl)
    (case li_PlanError => first | k_is | rfl)
    (case ci_PlanError => first | k_is | rfl)
    (case ki_PlanError => first | k_is | rfl)
    (case kv_PlanError => first | k_is | rfl)
    (case kp_PlanError => first | k_is | rfl)
    (case sP_PlanError => first | k_is | rfl)
    (case k00X => first | k_is | rfl)
    (case sS_PlanError => first | k_is | rfl)
    (case z_n_len => k_is)
    (case z_n_int => k_is)
    (case z_n_abs => k_is)
    (case z_n_range => k_is)
    (case z_n_list => k_is)
    (case z_n_tuple => k_is)
    (case z_n_dict => k_is)
    (case z_n_sorted => k_is)
    (case z_n_min => k_is)
    (case z_n_all => k_is)
    (case z_n_repr => k_is)
    (case z_n_isinstance => k_is)
    (case z_n_enumerate => k_is)
    (case z_n_zip => k_is)
    (case z_n_max => k_is)
    (case z_c_MOST_PROCESSORS => k_is)
#print axioms PySem.Challenge.cw_placedanyhow_k41_plans_that_fit_holds
