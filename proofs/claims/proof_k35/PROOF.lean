import PyProof.Rows.All
import Wide.All
import OpenK.AllK
import Wide.FinOn
import HandS.ForMost
import HandS.IsInst
import HandS.Steps
import HandS.StrMore
import HandS.Codes
import HandS.More
import HandS.Strs
import HandS.Text
import HandS.TryOnly
import PyProof.AutoSeq1
import HandS.Deep
import HandS.CallLocal
import HandS.Conv
import HandS.DictComp
import HandS.SortRule
import HandS.SetKeys
import HandS.Walk
import HandS.Iter
import PyProof.DictMoreH
import KE.KExcIs
import KE.KDictSum
import HandS.Ends
import PyProof.ReprRoads
import PyProof.FitsInt
import PyProof.NeData
import KE.DataFind
import HandS.SortInts
import HandS.SetFor
import HandS.Strs
import HandS.Wide
import HandS.TupLe
import PySem.Challenge.RW_placedanyhow_k35_threads_of_a_core
set_option Elab.async false
set_option linter.all false
set_option maxRecDepth 100000
set_option maxHeartbeats 16000000
namespace Y
open PySem L2

/-! ### rules joined -/
section
variable {X : Cx}
def rAddA (K : PySem.W.Frag) : R2 := fun x y H Q => rI0 (fun i j => .int (i + j)) x y H Q ∨ (∃ i j, x = V.str i ∧ y = V.str j ∧ i.length + j.length ≤ sizeLine ∧ Q (.str (i ++ j)) H) ∨ rCat x y H Q ∨ rCatT K x y H Q
theorem op_addA : OpR X (binaryOp .Add) (rAddA X.K) := op_add.or (op_add_str.or (op_cat.or op_catT))
def rEqA (K : PySem.W.Frag) : R2 := fun x y H Q => rEq x y H Q ∨ rEqD K x y H Q
def rNeA (K : PySem.W.Frag) : R2 := fun x y H Q => rNe x y H Q ∨ rNeD K x y H Q
theorem op_eqA (hu : X.A.units + 64 < cLine) : OpR X (compareOp .Eq) (rEqA X.K) := op_eq.or (op_eqD hu)
theorem op_neA (hu : X.A.units + 64 < cLine) : OpR X (compareOp .NotEq) (rNeA X.K) := op_ne.or (op_neD hu)
def rLenA (K : PySem.W.Frag) : List V → Hp → VK → Prop := fun xs H Q => (∃ p ys, xs = [V.ref p] ∧ (SqL K H p ys ∨ SqT K H p ys) ∧ Q (.int ys.length) H) ∨ ∃ z, xs = [V.str z] ∧ z.length ≤ sizeLine ∧ Q (.int z.length) H
theorem call_lenA : CallR X (.builtin "len") (rLenA X.K) := call_len_seq.or call_len_str
def rSlA (K : PySem.W.Frag) : V → Option Int → Option Int → Hp → VK → Prop := fun x lo hi H Q => rSlL K x lo hi H Q ∨ rSlT K x lo hi H Q
theorem sl_any : SlR X (rSlA X.K) := sl_list.or sl_tup
theorem hu64 {A : Around} {k : Nat} (hr : Room k A) : A.units + 64 < cLine := by have := hr.un; omega
theorem pe_globC {x : Str} {n : Int} {pos : Pos} (hg : Gl X x) (hm : ∃ t, X.mg x = some (.int n t)) (hd : (x == ("__debug__" : Str)) = false := by decide) : PE X (.Name x pos) (tC (.int n)) := by
  obtain ⟨t, h⟩ := hm
  exact pe_glob hg h ⟨t, rfl⟩ hd
theorem pe_ty {x : Str} {n : String} {pos : Pos} (hg : Gl X x) (hm : X.mg x = none) (hv : bootBuiltins x = some (.type n)) (hn : x ≠ "__name__" := by decide) (hd : (x == ("__debug__" : Str)) = false := by decide) : PE X (.Name x pos) (tC (.ty n)) := pe_bltn hg hm hv rfl hn hd
end

section
variable {X : Cx} {K : PySem.W.Frag}
theorem op_eqK (hK : X.K = K) (hu : X.A.units + 64 < cLine) : OpR X (compareOp .Eq) (rEqA K) := hK ▸ op_eqA hu
theorem op_neK (hK : X.K = K) (hu : X.A.units + 64 < cLine) : OpR X (compareOp .NotEq) (rNeA K) := hK ▸ op_neA hu
theorem op_addK (hK : X.K = K) : OpR X (binaryOp .Add) (rAddA K) := hK ▸ op_addA
theorem ix_seqK (hK : X.K = K) : IxR X (rIx K) := hK ▸ ix_seq
theorem call_lenK (hK : X.K = K) : CallR X (.builtin "len") (rLenA K) := hK ▸ call_lenA
theorem op_inK (hK : X.K = K) : OpR X (compareOp .In) (rIn K false) := hK ▸ op_in_seq
theorem op_notInK (hK : X.K = K) : OpR X (compareOp .NotIn) (rIn K true) := hK ▸ op_notIn_seq
theorem sl_anyK (hK : X.K = K) : SlR X (rSlA K) := hK ▸ sl_any
theorem pi_listK {tg l : Expr} {tl : TE} (hK : X.K = K) (hl : PE X l tl) : PI X tg l (iList K tl) := hK ▸ pi_list hl
end
section
variable {X : Cx}
def rIsN : R2 := fun x y H Q => y = .non ∧ Q (.bl (decide (x = .non))) H
def rNotN : R2 := fun x y H Q => y = .non ∧ Q (.bl (!decide (x = .non))) H
theorem op_isN1 : OpR X (compareOp .Is) rIsN := op_isN
theorem op_notN1 : OpR X (compareOp .IsNot) rNotN := op_notN
end
section
variable {X : Cx}
def rInt : List V → Hp → VK → Prop := fun xs H Q => (∃ i, xs = [V.int i] ∧ Q (.int i) H) ∨ ∃ k, xs = [.bl k] ∧ Q (.int (if k then 1 else 0)) H
def rAbs : List V → Hp → VK → Prop := fun xs H Q => ∃ i, xs = [V.int i] ∧ Q (.int (if i < 0 then -i else i)) H
def rListOf (K : PySem.W.Frag) : List V → Hp → VK → Prop := fun xs H Q => ∃ p ys, xs = [V.ref p] ∧ (SqL K H p ys ∨ SqT K H p ys) ∧ ∀ l, H l = none → Q (.ref l) (upd H l (.lst ys))
theorem call_intA : CallR X (.type "int") rInt := call_int1
theorem call_absA : CallR X (.builtin "abs") rAbs := call_abs
theorem call_listA : CallR X (.type "list") (rListOf X.K) := call_list_of
end
/-! ### defs -/
section
variable (P : Program) (w : World) (K : PySem.W.Frag) (mg : Str → Option Value) (base : Heap)
/-- a def of the text as it stands behind the top -/
def Dn (x : Str) (st : Stmt) (ps : List Str) : Prop := ∃ f fd, Fun K x x st f fd ∧ mg x = some (.ref f) ∧ Binds K fd ps []
/-- a def that keeps its promise -/
def Cal (x : Str) (k : Nat) (ps : List Str) (sp : Sp) : Prop := ∃ f fd, FnOk P w K mg base CX0 k f fd ps sp ∧ mg x = some (.ref f) ∧ PySem.W.keepIn K (.ref f) = true ∧ Binds K fd ps []
end
section
variable {P : Program} {w : World} {K : PySem.W.Frag} {mg : Str → Option Value} {base : Heap}
theorem Dn.ok {x : Str} {st : Stmt} {N ps : List Str} {k : Nat} {sp : Sp} (D : Dn K mg x st ps) (S : FnScope N ps (defScope st)) (len : ∀ vs H Q E, sp vs H Q E → vs.length = ps.length)
    (hbody : ∀ (f : Addr) (cdv : Value) (A : Around) (outer : List Env) (s : Shared) (H : Hp) (vs : List V) (Q : VK) (E : XK), Room k (A.deeper (PyProof.Rows.envOfC x (defScope st) s.heap.objs.size f cdv)) → sp vs H Q E →
      ∃ t, PSs (cxOf CX0 P w K mg base N x (defScope st) f cdv A outer s H E).nox (defBody st) t ∧ t { nx := fun _ H' => Q .non H', rt := Q } (start N vs) H) : Cal P w K mg base x (k + 1) ps sp := by
  obtain ⟨f, fd, F, m, b⟩ := D
  exact ⟨f, fd, F.ok S len (hbody f), m, F.kp, b⟩
theorem pe_cal {X : Cx} {x : Str} {k : Nat} {ps : List Str} {sp : Sp} {e : Expr} {es : List Expr} {t : TA} {p pos : Pos} (G : Cal X.prog X.w X.K X.mg X.base x k ps sp) (hr : Room k X.A) (hg : Gl X x) (ha : PA X (e :: es) t)
    (hdb : (x == ("__debug__" : Str)) = false := by decide) (he : starEach (e :: es) X.env = (false, eval e X.env) :: starEach es X.env := by rfl) (hpl : (backTo pos (starEach es X.env)).any (·.1) = false := by rfl) : PE X (.Call (.Name x p) (e :: es) [] pos) (tCall sp [] E0 t) := by
  obtain ⟨f, fd, F, m, kp, b⟩ := G
  exact pe_call F hr hg m kp b .nil pass0 ha hdb he hpl
theorem pe_cal0 {X : Cx} {x : Str} {k : Nat} {ps : List Str} {sp : Sp} {p pos : Pos} (G : Cal X.prog X.w X.K X.mg X.base x k ps sp) (hr : Room k X.A) (hg : Gl X x)
    (hdb : (x == ("__debug__" : Str)) = false := by decide) : PE X (.Call (.Name x p) [] [] pos) (tCall sp [] E0 tNil) := by
  obtain ⟨f, fd, F, m, kp, b⟩ := G
  exact pe_call0 F hr hg m kp b .nil pass0 hdb
end

/-! ### heaps -/
/-- all that was tracked stays -/
def Ex (H H' : Hp) : Prop := ∀ a o, H a = some o → H' a = some o
/-- all tuples stay, and all that is not at M -/
structure Kp (M : List Addr) (H H' : Hp) : Prop where
  tup : ∀ a xs, H a = some (.tup xs) → H' a = some (.tup xs)
  out : ∀ a o, a ∉ M → H a = some o → H' a = some o
theorem Ex.refl (H : Hp) : Ex H H := fun _ _ h => h
theorem Ex.trans {H H1 H2 : Hp} (a : Ex H H1) (b : Ex H1 H2) : Ex H H2 := fun x o h => b x o (a x o h)
theorem Ex.same {H H' : Hp} (e : Ex H H') : L2.Same H H' := e
theorem Ex.kp {M : List Addr} {H H' : Hp} (e : Ex H H') : Kp M H H' := ⟨fun a xs h => e a _ h, fun a o _ h => e a o h⟩
theorem Kp.refl {M : List Addr} (H : Hp) : Kp M H H := (Ex.refl H).kp
theorem Kp.trans {M : List Addr} {H H1 H2 : Hp} (a : Kp M H H1) (b : Kp M H1 H2) : Kp M H H2 := ⟨fun x o h => b.tup x o (a.tup x o h), fun x o n h => b.out x o n (a.out x o n h)⟩
theorem Kp.sub {M N : List Addr} {H H' : Hp} (a : Kp M H H') (s : ∀ x, x ∈ M → x ∈ N) : Kp N H H' := ⟨a.tup, fun x o n h => a.out x o (fun z => n (s x z)) h⟩
theorem Ex.mk {H H2 : Hp} {p : Addr} {o : HO} (h : H p = none) (e : upd H p o = H2) : Ex H H2 := fun a u ha => by
  rw [← e, upd_ne (ne_of_none ha h)]
  exact ha
theorem at_new {H H2 : Hp} {p : Addr} {o : HO} (e : upd H p o = H2) : H2 p = some o := by rw [← e]; exact upd_same
theorem Kp.set {M : List Addr} {H H2 : Hp} {p : Addr} {o : HO} (hm : p ∈ M) (ht : ∀ xs, H p ≠ some (.tup xs)) (e : upd H p o = H2) : Kp M H H2 := ⟨fun a xs h => by
  rw [← e, upd_ne (fun z => ht xs (by rw [← z]; exact h))]
  exact h, fun a u n h => by
  rw [← e, upd_ne (fun z => n (by rw [z]; exact hm))]
  exact h⟩
theorem free_back {H H' : Hp} {p : Addr} (e : Ex H H') (h : H' p = none) : H p = none := by
  cases h1 : H p with
  | none => rfl
  | some o => rw [e p o h1] at h; cases h
theorem free_backK {M : List Addr} {H H' : Hp} {p : Addr} (e : Kp M H H') (hm : p ∉ M) (h : H' p = none) : H p = none := by
  cases h1 : H p with
  | none => rfl
  | some o => rw [e.out p o hm h1] at h; cases h
theorem at_ex {H H' : Hp} {p : Addr} {o : HO} (e : Ex H H') (h : H p = some o) : H' p = some o := e p o h
theorem at_kp {M : List Addr} {H H' : Hp} {p : Addr} {o : HO} (e : Kp M H H') (hm : p ∉ M) (h : H p = some o) : H' p = some o := e.out p o hm h
theorem tup_kp {M : List Addr} {H H' : Hp} {p : Addr} {xs : List V} (e : Kp M H H') (h : H p = some (.tup xs)) : H' p = some (.tup xs) := e.tup p xs h
theorem sqt {K : PySem.W.Frag} {H : Hp} {p : Addr} {xs : List V} (h : H p = some (.tup xs)) : SqT K H p xs := Or.inl (Or.inl h)
theorem sql {K : PySem.W.Frag} {H : Hp} {p : Addr} {xs : List V} (h : H p = some (.lst xs)) : SqL K H p xs := Or.inl (Or.inl h)
theorem sl1000 {n : Nat} (h : n ≤ 100000) : n ≤ sizeLine := Nat.le_trans h (by decide)
theorem sl1000' {n : Nat} (h : n < 100000) : n < sizeLine := Nat.lt_of_lt_of_le h (by decide)

theorem at0 {α : Type} {x : α} {xs : List α} : atI (x :: xs) 0 = some x := atI_nat (j := 0) rfl
theorem at_i {α : Type} {xs : List α} {n : Int} (h0 : 0 ≤ n) (h1 : n < xs.length) : ∃ v, xs[n.toNat]? = some v ∧ atI xs n = some v := by
  have hk : n.toNat < xs.length := by omega
  have e : n = ((n.toNat : Nat) : Int) := by omega
  refine ⟨xs[n.toNat], List.getElem?_eq_getElem hk, ?_⟩
  have q : atI xs ((n.toNat : Nat) : Int) = some xs[n.toNat] := atI_nat (List.getElem?_eq_getElem hk)
  rw [← e] at q
  exact q
/-! ### readings, step by step -/
def newT (Q : VK) (xs : List V) (H : Hp) : Prop := xs.length ≤ sizeLine ∧ ∀ p, H p = none → Q (.ref p) (upd H p (.tup xs))
def newL (Q : VK) (xs : List V) (H : Hp) : Prop := xs.length ≤ sizeLine ∧ ∀ p, H p = none → Q (.ref p) (upd H p (.lst xs))
theorem cut1 (xs : List V) : cutV xs (some 1) none = xs.drop 1 := by
  unfold cutV
  rw [show HT.sIx xs.length 0 (some 1) = min 1 xs.length from HT.sIx_nat xs.length 0 1, HT.sIx_none]
  cases xs with
  | nil => rfl
  | cons x r =>
    rw [show min 1 (x :: r).length = 1 by
      rw [List.length_cons]
      omega]
    show (List.take ((x :: r).length - 1) r) = r
    rw [List.length_cons, Nat.add_sub_cancel]
    exact List.take_length
section
variable {K : PySem.W.Frag} {σ : L2.St} {H : Hp} {Q : VK} {QT : Bool → Hp → Prop} {QA : List V → Hp → Prop} {QS : L2.St → Hp → Prop} {v x y : V} {i : Nat} {ta tb te : TE} {t u c : TT} {tr : TA} {r : R2} {ts us : TS} {nx bk ct : L2.St → Hp → Prop} {rt : VK} {g : TG} {gs : TGs}
theorem r_var (h : σ[i]? = some (some v)) (q : Q v H) : tVar i σ H Q := ⟨v, h, q⟩
theorem r_c (q : Q v H) : tC v σ H Q := q
theorem r_op (q : ta σ H fun x H1 => tb σ H1 fun y H2 => r x y H2 Q) : tOp r ta tb σ H Q := q
theorem r_un {r : V → Hp → VK → Prop} (q : ta σ H fun x H1 => r x H1 Q) : tUn r ta σ H Q := q
theorem r_tup (q : tr σ H fun xs H1 => newT Q xs H1) : tTup tr σ H Q := q
theorem r_lst (q : tr σ H fun xs H1 => newL Q xs H1) : tLst tr σ H Q := q
theorem q_newT {xs : List V} (hl : xs.length ≤ 100000) (q : ∀ p Hn, H p = none → Ex H Hn → Hn p = some (.tup xs) → Q (.ref p) Hn) : newT Q xs H := ⟨sl1000 hl, fun p hp => q p _ hp (Ex.mk hp rfl) upd_same⟩
theorem q_newL {xs : List V} (hl : xs.length ≤ 100000) (q : ∀ p Hn, H p = none → Ex H Hn → Hn p = some (.lst xs) → Q (.ref p) Hn) : newL Q xs H := ⟨sl1000 hl, fun p hp => q p _ hp (Ex.mk hp rfl) upd_same⟩
theorem r_cons (q : ta σ H fun x H1 => tr σ H1 fun xs H2 => QA (x :: xs) H2) : tCons ta tr σ H QA := q
theorem r_nil (q : QA [] H) : tNil σ H QA := q
theorem r_cb {r : List V → Hp → VK → Prop} (q : tr σ H fun vs H1 => r vs H1 Q) : tCB r tr σ H Q := q
theorem r_call {sp : Sp} {E : XK} (q : tr σ H fun vs H1 => sp vs H1 Q E) : tCall sp [] E tr σ H Q := by
  have e : (fun (vs : List V) (H1 : Hp) => sp (vs ++ []) H1 Q E) = fun vs H1 => sp vs H1 Q E := by
    funext vs H1
    rw [List.append_nil]
  show tr σ H (fun vs H1 => sp (vs ++ []) H1 Q E)
  rw [e]
  exact q
theorem r_ifE (q : t σ H fun c H1 => if c = true then ta σ H1 Q else tb σ H1 Q) : tIf t ta tb σ H Q := q
theorem r_sl {r : V → Option Int → Option Int → Hp → VK → Prop} {tl th : TO} (q : te σ H fun x H1 => tl σ H1 fun l H2 => th σ H2 fun u H3 => r x l u H3 Q) : tSl r te tl th σ H Q := q
theorem r_nopart {Q : Option Int → Hp → Prop} (q : Q none H) : tNoPart σ H Q := q
theorem r_part {Q : Option Int → Hp → Prop} (q : te σ H fun x H1 => ∃ i, x = .int i ∧ Q (some i) H1) : tPart te σ H Q := q
theorem q_part {i : Int} {B : Int → Prop} (q : B i) : ∃ j, V.int i = .int j ∧ B j := ⟨i, rfl, q⟩
theorem r_dget {td ty : TE} (q : td σ H fun x H1 => ty σ H1 fun y H2 => ∃ a v, x = .ref a ∧ DGet H2 a y (some v) ∧ Q v H2) : tDGet td ty σ H Q := q
theorem q_dget {p : Addr} {kvs : List (Key × V)} {z : Str} {B : V → Prop} (h : H p = some (.dK kvs)) (hl : valV kvs (Sum.inr z) = some v) (q : B v) : ∃ a v', V.ref p = .ref a ∧ DGet H a (.str z) (some v') ∧ B v' :=
  ⟨p, v, rfl, by rw [← hl]; exact DGet.k (k := Sum.inr z) h, q⟩
theorem r_andV (q : ta σ H fun x H1 => ∃ c, x = .bl c ∧ if c = true then tb σ H1 Q else Q (.bl false) H1) : tAndV ta tb σ H Q := q
theorem r_orV (q : ta σ H fun x H1 => ∃ c, x = .bl c ∧ if c = true then Q (.bl true) H1 else tb σ H1 Q) : tOrV ta tb σ H Q := q
theorem r_notV (q : ta σ H fun x H1 => ∃ c, x = .bl c ∧ Q (.bl (!c)) H1) : tNotV ta σ H Q := q
theorem r_test (q : te σ H fun x H' => ∃ k, x = .bl k ∧ QT k H') : tTest te σ H QT := q
theorem r_tB (q : te σ H fun x H1 => ∃ c, x = .bl c ∧ QT c H1) : tB te σ H QT := q
theorem q_exb {b : Bool} {B : Bool → Prop} (q : B b) : ∃ k, V.bl b = .bl k ∧ B k := ⟨b, rfl, q⟩
theorem r_and (q : t σ H fun c H1 => if c = true then u σ H1 QT else QT false H1) : tAnd t u σ H QT := q
theorem r_or (q : t σ H fun c H1 => if c = true then QT true H1 else u σ H1 QT) : tOr t u σ H QT := q
theorem r_not (q : t σ H fun c H1 => QT (!c) H1) : tNot t σ H QT := q
theorem r_seq (q : ts ⟨us ⟨nx, rt, bk, ct⟩, rt, bk, ct⟩ σ H) : tSeq ts us ⟨nx, rt, bk, ct⟩ σ H := q
theorem r_next (q : nx σ H) : tNext ⟨nx, rt, bk, ct⟩ σ H := q
theorem r_ifS (q : c σ H fun b H1 => if b = true then ts ⟨nx, rt, bk, ct⟩ σ H1 else us ⟨nx, rt, bk, ct⟩ σ H1) : tIfS c ts us ⟨nx, rt, bk, ct⟩ σ H := q
theorem r_asg (q : te σ H fun x H1 => g x σ H1 nx) : tAsg te g ⟨nx, rt, bk, ct⟩ σ H := q
theorem r_aug {ti : TIp} (h : σ[i]? = some (some v)) (q : te σ H fun y H1 => ti v y H1 fun z H2 => nx (σ.set i (some z)) H2) : tAug i te ti ⟨nx, rt, bk, ct⟩ σ H := ⟨v, h, q⟩
theorem q_ip {f : Int → Int → Int} {i j : Int} (q : Q (.int (f i j)) H) : ipI f (.int i) (.int j) H Q := ⟨i, j, rfl, rfl, q⟩
theorem r_drop (q : te σ H fun _ H1 => nx σ H1) : tDrop te ⟨nx, rt, bk, ct⟩ σ H := q
theorem r_ret (q : te σ H rt) : tRet te ⟨nx, rt, bk, ct⟩ σ H := q
theorem r_retN (q : rt .non H) : tRetN ⟨nx, rt, bk, ct⟩ σ H := q
theorem r_gname (q : QS (σ.set i (some v)) H) : gName i v σ H QS := q
theorem r_gnil (q : QS σ H) : gNil [] σ H QS := ⟨rfl, q⟩
theorem r_gcons {vs : List V} (q : g v σ H fun σ' H' => gs vs σ' H' QS) : gCons g gs (v :: vs) σ H QS := ⟨v, vs, rfl, q⟩
theorem r_gtup {p : Addr} {xs : List V} {n : Nat} (h : SqT K H p xs) (hl : xs.length = n) (q : gs xs σ H QS) : gTup K n gs (.ref p) σ H QS := ⟨p, xs, rfl, h, hl, q⟩
theorem r_gsub {to ti : TE} {s : TSet} (q : to σ H fun o H1 => ti σ H1 fun i H2 => s o i v H2 fun H3 => QS σ H3) : gSub to ti s v σ H QS := q
theorem r_bm {T : String} {r : V → List V → Hp → VK → Prop} (q : te σ H fun x H1 => tyV K T x H1 ∧ tr σ H1 fun xs H2 => r x xs H2 Q) : tBM K T r te tr σ H Q := q
theorem r_bm0 {T : String} {r : V → List V → Hp → VK → Prop} (q : te σ H fun x H1 => tyV K T x H1 ∧ r x [] H1 Q) : tBM0 K T r te σ H Q := q
theorem q_tyL {p : Addr} {xs : List V} {A : Prop} (h : H p = some (.lst xs)) (q : A) : tyV K "list" (.ref p) H ∧ A := ⟨Or.inl ⟨rfl, xs, sql h⟩, q⟩

theorem cast_q {x y : V} (e : x = y) (h : Q x H) : Q y H := e ▸ h
/-! ### operations on values -/
theorem q_addI {i j : Int} (q : Q (.int (i + j)) H) : rAddA K (.int i) (.int j) H Q := .inl ⟨i, j, rfl, rfl, q⟩
theorem q_I0 {f : Int → Int → V} {i j : Int} (q : Q (f i j) H) : rI0 f (.int i) (.int j) H Q := ⟨i, j, rfl, rfl, q⟩
theorem q_I {C : Int → Int → Prop} {f : Int → Int → V} {i j : Int} (h : C i j) (q : Q (f i j) H) : rI C f (.int i) (.int j) H Q := ⟨i, j, rfl, rfl, h, q⟩
theorem q_U {f : Int → V} {i : Int} (q : Q (f i) H) : rU f (.int i) H Q := ⟨i, rfl, q⟩
theorem q_ixT {p : Addr} {xs : List V} {i : Int} (h : SqT K H p xs) (ha : atI xs i = some v) (q : Q v H) : rIx K (.ref p) (.int i) H Q := .inr (.inl ⟨p, xs, i, v, rfl, rfl, h, ha, q⟩)
theorem q_ixL {p : Addr} {xs : List V} {i : Int} (h : SqL K H p xs) (ha : atI xs i = some v) (q : Q v H) : rIx K (.ref p) (.int i) H Q := .inl ⟨p, xs, i, v, rfl, rfl, h, ha, q⟩
theorem q_eqY (hs : scal x y = true) (he : x = y) (q : Q (.bl true) H) : rEqA K x y H Q := .inl ⟨hs, by rw [decide_eq_true he]; exact q⟩
theorem q_eqN (hs : scal x y = true) (he : ¬ x = y) (q : Q (.bl false) H) : rEqA K x y H Q := .inl ⟨hs, by rw [decide_eq_false he]; exact q⟩
theorem q_eqI {i j : Int} (h1 : i = j → Q (.bl true) H) (h2 : ¬ i = j → Q (.bl false) H) : rEqA K (.int i) (.int j) H Q := by
  by_cases e : i = j
  · exact q_eqY rfl (by rw [e]) (h1 e)
  · exact q_eqN rfl (fun z => e (V.int.inj z)) (h2 e)
theorem q_eqS {i j : Str} (h1 : i = j → Q (.bl true) H) (h2 : ¬ i = j → Q (.bl false) H) : rEqA K (.str i) (.str j) H Q := by
  by_cases e : i = j
  · exact q_eqY rfl (by rw [e]) (h1 e)
  · exact q_eqN rfl (fun z => e (V.str.inj z)) (h2 e)
theorem q_neY (hs : scal x y = true) (he : ¬ x = y) (q : Q (.bl true) H) : rNeA K x y H Q := .inl ⟨hs, by rw [decide_eq_false he]; exact q⟩
theorem q_neN (hs : scal x y = true) (he : x = y) (q : Q (.bl false) H) : rNeA K x y H Q := .inl ⟨hs, by rw [decide_eq_true he]; exact q⟩
theorem q_neI {i j : Int} (h1 : ¬ i = j → Q (.bl true) H) (h2 : i = j → Q (.bl false) H) : rNeA K (.int i) (.int j) H Q := by
  by_cases e : i = j
  · exact q_neN rfl (by rw [e]) (h2 e)
  · exact q_neY rfl (fun z => e (V.int.inj z)) (h1 e)
theorem q_neS {i j : Str} (h1 : ¬ i = j → Q (.bl true) H) (h2 : i = j → Q (.bl false) H) : rNeA K (.str i) (.str j) H Q := by
  by_cases e : i = j
  · exact q_neN rfl (by rw [e]) (h2 e)
  · exact q_neY rfl (fun z => e (V.str.inj z)) (h1 e)
theorem q_cmp {f : Int → Int → Prop} [∀ i j, Decidable (f i j)] {i j : Int} (h1 : f i j → Q (.bl true) H) (h2 : ¬ f i j → Q (.bl false) H) : rI0 (fun i j => .bl (decide (f i j))) (.int i) (.int j) H Q := by
  refine ⟨i, j, rfl, rfl, ?_⟩
  show Q (V.bl (decide (f i j))) H
  by_cases e : f i j
  · rw [decide_eq_true e]; exact h1 e
  · rw [decide_eq_false e]; exact h2 e
theorem cmulL {i j : Int} (h : -(2 ^ 64) < i ∧ i < 2 ^ 64) : CMul i j := .inl h
theorem cmulR {i j : Int} (h : -(2 ^ 64) < j ∧ j < 2 ^ 64) : CMul i j := .inr h
theorem cdiv {i j : Int} (h : 0 < j ∧ j < 1073741824) : CDiv i j := h
theorem q_neD (hn : ¬ x = y) (hs : scal x y = true) (q : Q (.bl true) H) : rNeA K x y H Q := q_neY hs hn q
theorem q_cmpY {f : Int → Int → Prop} [∀ i j, Decidable (f i j)] {i j : Int} (h : f i j) (q : Q (.bl true) H) : rI0 (fun i j => .bl (decide (f i j))) (.int i) (.int j) H Q :=
  ⟨i, j, rfl, rfl, by show Q (V.bl (decide (f i j))) H; rw [decide_eq_true h]; exact q⟩
theorem q_cmpN {f : Int → Int → Prop} [∀ i j, Decidable (f i j)] {i j : Int} (h : ¬ f i j) (q : Q (.bl false) H) : rI0 (fun i j => .bl (decide (f i j))) (.int i) (.int j) H Q :=
  ⟨i, j, rfl, rfl, by show Q (V.bl (decide (f i j))) H; rw [decide_eq_false h]; exact q⟩
theorem q_isNY (he : x = .non) (q : Q (.bl true) H) : rIsN x .non H Q := ⟨rfl, by rw [decide_eq_true he]; exact q⟩
theorem q_isNN (he : ¬ x = .non) (q : Q (.bl false) H) : rIsN x .non H Q := ⟨rfl, by rw [decide_eq_false he]; exact q⟩
theorem q_notNY (he : x = .non) (q : Q (.bl false) H) : rNotN x .non H Q := ⟨rfl, by rw [decide_eq_true he]; exact q⟩
theorem q_notNN (he : ¬ x = .non) (q : Q (.bl true) H) : rNotN x .non H Q := ⟨rfl, by rw [decide_eq_false he]; exact q⟩
theorem q_lenL {p : Addr} {xs : List V} (h : SqL K H p xs) (q : Q (.int xs.length) H) : rLenA K [.ref p] H Q := .inl ⟨p, xs, rfl, .inl h, q⟩
theorem q_lenT {p : Addr} {xs : List V} (h : SqT K H p xs) (q : Q (.int xs.length) H) : rLenA K [.ref p] H Q := .inl ⟨p, xs, rfl, .inr h, q⟩
theorem q_sl1T {p : Addr} {xs : List V} (h : SqT K H p (x :: xs)) (q : ∀ p Hn, H p = none → Ex H Hn → Hn p = some (.tup xs) → Q (.ref p) Hn) : rSlA K (.ref p) (some 1) none H Q :=
  .inr ⟨p, x :: xs, rfl, h, fun z => by
    have e : HT.sIx (x :: xs).length 0 (some 1) = min 1 (x :: xs).length := HT.sIx_nat _ 0 1
    have z1 := z.1
    rw [e, List.length_cons] at z1
    omega, fun p hp => q p _ hp (Ex.mk hp rfl) (by rw [upd_same, cut1]; rfl)⟩
theorem q_sl1L {p : Addr} {xs : List V} (h : SqL K H p (x :: xs)) (q : ∀ p Hn, H p = none → Ex H Hn → Hn p = some (.lst xs) → Q (.ref p) Hn) : rSlA K (.ref p) (some 1) none H Q :=
  .inl ⟨p, x :: xs, rfl, h, fun p hp => q p _ hp (Ex.mk hp rfl) (by rw [upd_same, cut1]; rfl)⟩
theorem q_inT {p : Addr} {xs : List V} (h : SqT K H p xs) (hx : flatV x = true) (ha : xs.all flatV = true) (q : Q (.bl (inV x xs)) H) : rIn K false x (.ref p) H Q := ⟨p, xs, rfl, .inr h, hx, ha, q⟩
theorem q_inTY {p : Addr} {xs : List V} (h : SqT K H p xs) (hx : (flatV x && xs.all flatV && inV x xs) = true) (q : Q (.bl true) H) : rIn K false x (.ref p) H Q := by
  simp only [Bool.and_eq_true] at hx
  exact ⟨p, xs, rfl, .inr h, hx.1.1, hx.1.2, by rw [if_neg Bool.false_ne_true, hx.2]; exact q⟩
theorem q_inTN {p : Addr} {xs : List V} (h : SqT K H p xs) (hx : (flatV x && xs.all flatV && !inV x xs) = true) (q : Q (.bl false) H) : rIn K false x (.ref p) H Q := by
  simp only [Bool.and_eq_true, Bool.not_eq_true'] at hx
  exact ⟨p, xs, rfl, .inr h, hx.1.1, hx.1.2, by rw [if_neg Bool.false_ne_true, hx.2]; exact q⟩
theorem q_inLY {p : Addr} {xs : List V} (h : SqL K H p xs) (hx : (flatV x && xs.all flatV && inV x xs) = true) (q : Q (.bl true) H) : rIn K false x (.ref p) H Q := by
  simp only [Bool.and_eq_true] at hx
  exact ⟨p, xs, rfl, .inl h, hx.1.1, hx.1.2, by rw [if_neg Bool.false_ne_true, hx.2]; exact q⟩
theorem q_inLN {p : Addr} {xs : List V} (h : SqL K H p xs) (hx : (flatV x && xs.all flatV && !inV x xs) = true) (q : Q (.bl false) H) : rIn K false x (.ref p) H Q := by
  simp only [Bool.and_eq_true, Bool.not_eq_true'] at hx
  exact ⟨p, xs, rfl, .inl h, hx.1.1, hx.1.2, by rw [if_neg Bool.false_ne_true, hx.2]; exact q⟩
theorem q_isi {t : Value} {T : String} {b : Bool} (ty : TyOf K H x t) (e : PySem.W.kitOne K t (.type T) = some b) (q : Q (.bl b) H) : rIsi K [x, .ty T] H Q := ⟨x, .ty T, t, .type T, b, rfl, .ty T, .base ty, e, q⟩
theorem q_isiBI {i : Int} (q : Q (.bl false) H) : rIsi K [.int i, .ty "bool"] H Q := q_isi (.int i) (kit_ty (by decide +kernel)) q
theorem q_isiBN (q : Q (.bl false) H) : rIsi K [.non, .ty "bool"] H Q := q_isi .non (kit_ty (by decide +kernel)) q
def dispK (Q : VK) (p : Addr) (ps : List (V × V)) (H : Hp) : Prop := H p = some (.dK []) ∧ ∃ kvs : List (Key × V), ps = kvs.map (fun kv => (kV kv.1, kv.2)) ∧ kvs.length ≤ 15 ∧ Q (.ref p) (upd H p (.dK (mergeK [] kvs)))
theorem r_disp {trs : List (TE × TE)} (q : ∀ p Hn, H p = none → Ex H Hn → Hn p = some (.dK []) → tPairs trs σ Hn fun ps H2 => dispK Q p ps H2) : tDisp trs σ H Q := fun p hp => q p _ hp (Ex.mk hp rfl) upd_same
theorem r_pnil {QP : List (V × V) → Hp → Prop} (q : QP [] H) : tPairs [] σ H QP := q
theorem r_pcons {QP : List (V × V) → Hp → Prop} {tk tv : TE} {r : List (TE × TE)} (q : tk σ H fun x H1 => tv σ H1 fun y H2 => tPairs r σ H2 fun ps H3 => QP ((x, y) :: ps) H3) : tPairs ((tk, tv) :: r) σ H QP := q
theorem merge_nd {kvs : List (Key × V)} (h : (kvs.map (·.1)).Nodup) : mergeK [] kvs = kvs := by
  have key : ∀ (more acc : List (Key × V)), ((acc ++ more).map (·.1)).Nodup → mergeK acc more = acc ++ more := by
    intro more
    induction more with
    | nil => intro acc _; rw [List.append_nil]; rfl
    | cons p r ih =>
      intro acc h
      have hp : valV acc p.1 = none := by
        cases hv : valV acc p.1 with
        | none => rfl
        | some x =>
          exfalso
          have hm := valV_in hv
          rw [List.map_append, List.nodup_append] at h
          exact h.2.2 _ hm _ (by simp) rfl
      show mergeK (putK acc p.1 p.2) r = acc ++ p :: r
      rw [putK_new _ hp, ih _ (by rw [List.append_assoc]; exact h), List.append_assoc]
      rfl
  exact key kvs [] h
theorem q_disp {p : Addr} {ps : List (V × V)} (kvs : List (Key × V)) (h : H p = some (.dK [])) (e : ps = kvs.map (fun kv => (kV kv.1, kv.2))) (nd : (kvs.map (·.1)).Nodup) (hl : kvs.length ≤ 15)
    (q : ∀ Hn, Kp [p] H Hn → Hn p = some (.dK kvs) → Q (.ref p) Hn) : dispK Q p ps H := ⟨h, kvs, e, hl, by
  rw [merge_nd nd]
  exact q _ (Kp.set (List.mem_singleton.mpr rfl) (fun xs z => by rw [h] at z; cases z) rfl) upd_same⟩
theorem q_inL {p : Addr} {xs : List V} (h : SqL K H p xs) (hx : flatV x = true) (ha : xs.all flatV = true) (q : Q (.bl (inV x xs)) H) : rIn K false x (.ref p) H Q := ⟨p, xs, rfl, .inl h, hx, ha, q⟩
theorem r_iL {tl : TE} {R : It → Hp → Prop} (q : tl σ H fun x H1 => ∃ a, x = .ref a ∧ (∃ xs, SqL K H1 a xs) ∧ R (Itl K a) H1) : iList K tl σ H R := q
theorem q_iL {a : Addr} {xs : List V} {B : Addr → Prop} (h : SqL K H a xs) (q : B a) : ∃ b, V.ref a = .ref b ∧ (∃ xs, SqL K H b xs) ∧ B b := ⟨a, rfl, ⟨xs, h⟩, q⟩
theorem r_iT {tl : TE} {R : It → Hp → Prop} (q : tl σ H fun x H1 => ∃ a, x = .ref a ∧ (∃ xs, SqT K H1 a xs) ∧ R (Itt K a) H1) : iTup K tl σ H R := q
theorem q_iT {a : Addr} {xs : List V} {B : Addr → Prop} (h : SqT K H a xs) (q : B a) : ∃ b, V.ref a = .ref b ∧ (∃ xs, SqT K H b xs) ∧ B b := ⟨a, rfl, ⟨xs, h⟩, q⟩
theorem r_rng1 {R : It → Hp → Prop} (q : tr σ H fun vs H1 => ∃ j : Int, vs = [.int j] ∧ -(2 ^ 62) ≤ j ∧ j < 2 ^ 62 ∧ R (Itr 0 j.toNat) H1) : iRng1 tr σ H R := q
theorem q_rng1 {j : Int} {B : Int → Prop} (h : 0 ≤ j ∧ j ≤ 1000000) (q : B j) : ∃ i : Int, [V.int j] = [.int i] ∧ -(2 ^ 62) ≤ i ∧ i < 2 ^ 62 ∧ B i := ⟨j, rfl, by omega, by omega, q⟩
theorem r_rng2 {R : It → Hp → Prop} (q : tr σ H fun vs H1 => ∃ i j : Int, vs = [.int i, .int j] ∧ (-(2 ^ 62) ≤ i ∧ i < 2 ^ 62 ∧ -(2 ^ 62) ≤ j ∧ j < 2 ^ 62) ∧ R (Itr i (j - i).toNat) H1) : iRng2 tr σ H R := q
theorem q_rng2 {i j : Int} {B : Int → Int → Prop} (h : 0 ≤ i ∧ i ≤ 1000000 ∧ 0 ≤ j ∧ j ≤ 1000000) (q : B i j) : ∃ a b : Int, [V.int i, V.int j] = [.int a, .int b] ∧ (-(2 ^ 62) ≤ a ∧ a < 2 ^ 62 ∧ -(2 ^ 62) ≤ b ∧ b < 2 ^ 62) ∧ B a b :=
  ⟨i, j, rfl, ⟨by omega, by omega, by omega, by omega⟩, q⟩
theorem r_lc {wi : TI} {vs : List Nat} (q : wi σ H fun J H1 => ∀ D, H1 D = none → ∃ W : Nat → Nat → Hp → Prop, (∃ m, W 0 m (upd H1 D (.lst []))) ∧ ∀ i m H, W i m H →
  (J.stop i H ∧ Q (.ref D) H) ∨ (J.go i H ∧ ∃ Nx : Hp → Prop, (∀ H', Nx H' → ∃ m', m' < m ∧ W (i + 1) m' H') ∧ ∀ x H', J.yld i H x H' → g x (wipe σ vs) H' fun σ2 H2 => wipe σ2 vs = wipe σ vs ∧ t σ2 H2 fun b H3 =>
    if b = true then te σ2 H3 fun y H4 => ∃ acc, H4 D = some (.lst acc) ∧ acc.length < sizeLine ∧ Nx (upd H4 D (.lst (acc ++ [y]))) else Nx H3)) : tLc wi g t te vs σ H Q := q
theorem r_yes (q : QT true H) : tYes σ H QT := q
theorem r_for {wi : TI} (q : wi σ H fun J H1 => ∃ W : Nat → Nat → L2.St → Hp → Prop, (∃ m, W 0 m σ H1) ∧ ∀ i m σ H, W i m σ H →
  (J.stop i H ∧ nx σ H) ∨ (J.go i H ∧ ∃ N : L2.St → Hp → Prop, (∀ σ' H', N σ' H' → ∃ m', m' < m ∧ W (i + 1) m' σ' H') ∧ ∀ x H', J.yld i H x H' → g x σ H' fun σ2 H2 => ts ⟨N, rt, nx, N⟩ σ2 H2)) : tFor wi g ts ⟨nx, rt, bk, ct⟩ σ H := q
/-- the loops' words -/
theorem w_list {a : Addr} {xs : List V} (Pv : Nat → L2.St → Hp → Prop) (h0 : Pv 0 σ H) (hl : ∀ i σ H, i ≤ xs.length → Pv i σ H → SqL K H a xs)
    (hs : ∀ i x σ H, xs[i]? = some x → Pv i σ H → g x σ H fun σ2 H2 => ts ⟨Pv (i + 1), rt, nx, Pv (i + 1)⟩ σ2 H2) (hd : ∀ σ H, Pv xs.length σ H → nx σ H) :
    ∃ W : Nat → Nat → L2.St → Hp → Prop, (∃ m, W 0 m σ H) ∧ ∀ i m σ H, W i m σ H →
      ((Itl K a).stop i H ∧ nx σ H) ∨ ((Itl K a).go i H ∧ ∃ N : L2.St → Hp → Prop, (∀ σ' H', N σ' H' → ∃ m', m' < m ∧ W (i + 1) m' σ' H') ∧ ∀ x H', (Itl K a).yld i H x H' → g x σ H' fun σ2 H2 => ts ⟨N, rt, nx, N⟩ σ2 H2) :=
  for_list (D := ⟨nx, rt, nx, nx⟩) Pv h0 hl hs hd
theorem w_tup {a : Addr} {xs : List V} (Pv : Nat → L2.St → Hp → Prop) (h0 : Pv 0 σ H) (hl : ∀ i σ H, i ≤ xs.length → Pv i σ H → SqT K H a xs)
    (hs : ∀ i x σ H, xs[i]? = some x → Pv i σ H → g x σ H fun σ2 H2 => ts ⟨Pv (i + 1), rt, nx, Pv (i + 1)⟩ σ2 H2) (hd : ∀ σ H, Pv xs.length σ H → nx σ H) :
    ∃ W : Nat → Nat → L2.St → Hp → Prop, (∃ m, W 0 m σ H) ∧ ∀ i m σ H, W i m σ H →
      ((Itt K a).stop i H ∧ nx σ H) ∨ ((Itt K a).go i H ∧ ∃ N : L2.St → Hp → Prop, (∀ σ' H', N σ' H' → ∃ m', m' < m ∧ W (i + 1) m' σ' H') ∧ ∀ x H', (Itt K a).yld i H x H' → g x σ H' fun σ2 H2 => ts ⟨N, rt, nx, N⟩ σ2 H2) :=
  for_tup (D := ⟨nx, rt, nx, nx⟩) Pv h0 hl hs hd
theorem w_rng {lo : Int} {n : Nat} (Pv : Nat → L2.St → Hp → Prop) (h0 : Pv 0 σ H)
    (hs : ∀ i σ H, i < n → Pv i σ H → g (.int (lo + i)) σ H fun σ2 H2 => ts ⟨Pv (i + 1), rt, nx, Pv (i + 1)⟩ σ2 H2) (hd : ∀ σ H, Pv n σ H → nx σ H) :
    ∃ W : Nat → Nat → L2.St → Hp → Prop, (∃ m, W 0 m σ H) ∧ ∀ i m σ H, W i m σ H →
      ((Itr lo n).stop i H ∧ nx σ H) ∨ ((Itr lo n).go i H ∧ ∃ N : L2.St → Hp → Prop, (∀ σ' H', N σ' H' → ∃ m', m' < m ∧ W (i + 1) m' σ' H') ∧ ∀ x H', (Itr lo n).yld i H x H' → g x σ H' fun σ2 H2 => ts ⟨N, rt, nx, N⟩ σ2 H2) :=
  for_range (D := ⟨nx, rt, nx, nx⟩) Pv h0 hs hd
theorem r_iS {tl : TE} {R : It → Hp → Prop} (q : tl σ H fun v H1 => ∃ x, v = .str x ∧ R (Its x) H1) : iStr tl σ H R := q
theorem q_iS {z : Str} {B : Str → Prop} (q : B z) : ∃ x, V.str z = .str x ∧ B x := ⟨z, rfl, q⟩
theorem w_str {x : Str} (Pv : Nat → L2.St → Hp → Prop) (h0 : Pv 0 σ H)
    (hs : ∀ i c σ H, x.cps.toList[i]? = some c → Pv i σ H → g (.str ⟨#[c]⟩) σ H fun σ2 H2 => ts ⟨Pv (i + 1), rt, nx, Pv (i + 1)⟩ σ2 H2) (hd : ∀ σ H, Pv x.cps.toList.length σ H → nx σ H) :
    ∃ W : Nat → Nat → L2.St → Hp → Prop, (∃ m, W 0 m σ H) ∧ ∀ i m σ H, W i m σ H →
      ((Its x).stop i H ∧ nx σ H) ∨ ((Its x).go i H ∧ ∃ N : L2.St → Hp → Prop, (∀ σ' H', N σ' H' → ∃ m', m' < m ∧ W (i + 1) m' σ' H') ∧ ∀ v H', (Its x).yld i H v H' → g v σ H' fun σ2 H2 => ts ⟨N, rt, nx, N⟩ σ2 H2) := by
  have hz : x.cps.toList.length = x.cps.size := Array.length_toList
  refine ⟨fun i m σ H => m = x.cps.size - i ∧ i ≤ x.cps.size ∧ Pv i σ H, ⟨x.cps.size, by simp, Nat.zero_le _, h0⟩, ?_⟩
  rintro i m σ H ⟨rfl, hi, p⟩
  by_cases hlt : i < x.cps.size
  · refine .inr ⟨hlt, Pv (i + 1), fun σ' H' p' => ⟨x.cps.size - (i + 1), by omega, rfl, hlt, p'⟩, fun v H' y => ?_⟩
    obtain ⟨e, c, hc, ev⟩ := y
    subst e
    subst ev
    exact hs i c _ _ (by rw [Array.getElem?_toList]; exact hc) p
  · have e : i = x.cps.toList.length := by omega
    subst e
    exact .inl ⟨by show x.cps.size ≤ _; omega, hd _ _ p⟩
theorem w_while (W : Nat → L2.St → Hp → Prop) (m0 : Nat) (h0 : W m0 σ H)
    (hs : ∀ m σ' H', W m σ' H' → c σ' H' fun b H1 => if b = true then ts ⟨fun σ2 H2 => ∃ m', m' < m ∧ W m' σ2 H2, rt, nx, fun σ2 H2 => ∃ m', m' < m ∧ W m' σ2 H2⟩ σ' H1 else nx σ' H1)
    (mono : ∀ σ H Q Q', (∀ b H1, Q b H1 → Q' b H1) → c σ H Q → c σ H Q') : tWhile c ts ⟨nx, rt, bk, ct⟩ σ H := by
  refine ⟨W, ⟨m0, h0⟩, fun m σ' H' hw => mono σ' H' _ _ (fun b H1 q => ?_) (hs m σ' H' hw)⟩
  cases b with
  | true => exact ⟨_, fun _ _ n => n, q⟩
  | false => exact q
theorem q_setL {p : Addr} {xs : List V} {k : Int} {j : Nat} {QH : Hp → Prop} (h : H p = some (.lst xs)) (hj : ixN xs.length k = some j) (q : QH (upd H p (.lst (xs.set j v)))) : rSetL (.ref p) (.int k) v H QH := ⟨p, xs, k, j, rfl, rfl, h, hj, q⟩
theorem q_append {l : Addr} {xs : List V} (h : H l = some (.lst xs)) (hz : xs.length < 100000) (q : Q .non (upd H l (.lst (xs ++ [y])))) : rAppend (.ref l) [y] H Q := ⟨l, xs, y, rfl, rfl, h, sl1000' hz, q⟩
theorem q_pop0 {l : Addr} {xs : List V} (h : H l = some (.lst (x :: xs))) (q : Q x (upd H l (.lst xs))) : rPopAt (.ref l) [.int 0] H Q := ⟨l, x :: xs, 0, 0, x, rfl, rfl, h, by decide, by decide, by simp [seqIndex?], rfl, q⟩
theorem q_abs {i : Int} (q : Q (.int (if i < 0 then -i else i)) H) : rAbs [.int i] H Q := ⟨i, rfl, q⟩
theorem q_int {i : Int} (q : Q (.int i) H) : rInt [.int i] H Q := .inl ⟨i, rfl, q⟩
theorem q_intT (q : Q (.int 1) H) : rInt [.bl true] H Q := .inr ⟨true, rfl, q⟩
theorem q_intF (q : Q (.int 0) H) : rInt [.bl false] H Q := .inr ⟨false, rfl, q⟩
theorem q_intNT (q : Q (.int 1) H) : rInt [.bl (!false)] H Q := .inr ⟨true, rfl, q⟩
theorem q_intNF (q : Q (.int 0) H) : rInt [.bl (!true)] H Q := .inr ⟨false, rfl, q⟩
theorem iteNT {A B : Prop} (h : A) : if (!false) = true then A else B := by simpa using h
theorem iteNF {A B : Prop} (h : B) : if (!true) = true then A else B := by simpa using h
theorem q_listL {p : Addr} {ys : List V} (h : SqL K H p ys) (q : ∀ p Hn, H p = none → Ex H Hn → Hn p = some (.lst ys) → Q (.ref p) Hn) : rListOf K [.ref p] H Q := ⟨p, ys, rfl, .inl h, fun p hp => q p _ hp (Ex.mk hp rfl) upd_same⟩
theorem q_listT {p : Addr} {ys : List V} (h : SqT K H p ys) (q : ∀ p Hn, H p = none → Ex H Hn → Hn p = some (.lst ys) → Q (.ref p) Hn) : rListOf K [.ref p] H Q := ⟨p, ys, rfl, .inr h, fun p hp => q p _ hp (Ex.mk hp rfl) upd_same⟩
end

/-! ### tests that hand on more where more is wished (for while) -/
section
variable {K : PySem.W.Frag}
def MoE (t : TE) : Prop := ∀ σ H (Q Q' : VK), (∀ v H1, Q v H1 → Q' v H1) → t σ H Q → t σ H Q'
def MoT (t : TT) : Prop := ∀ σ H (Q Q' : Bool → Hp → Prop), (∀ v H1, Q v H1 → Q' v H1) → t σ H Q → t σ H Q'
def MoA (t : TA) : Prop := ∀ σ H (Q Q' : List V → Hp → Prop), (∀ v H1, Q v H1 → Q' v H1) → t σ H Q → t σ H Q'
def MoR (r : R2) : Prop := ∀ x y H (Q Q' : VK), (∀ v H1, Q v H1 → Q' v H1) → r x y H Q → r x y H Q'
def MoC (r : List V → Hp → VK → Prop) : Prop := ∀ x H (Q Q' : VK), (∀ v H1, Q v H1 → Q' v H1) → r x H Q → r x H Q'
theorem mo_var {i : Nat} : MoE (tVar i) := fun _ _ _ _ k ⟨v, h, q⟩ => ⟨v, h, k _ _ q⟩
theorem mo_c {v : V} : MoE (tC v) := fun _ _ _ _ k q => k _ _ q
theorem mo_op {r : R2} {a b : TE} (hr : MoR r) (ha : MoE a) (hb : MoE b) : MoE (tOp r a b) := fun σ H Q Q' k h => ha _ _ _ _ (fun x H1 q => hb _ _ _ _ (fun y H2 q => hr _ _ _ _ _ k q) q) h
theorem mo_test {a : TE} (ha : MoE a) : MoT (tTest a) := fun σ H Q Q' k h => ha _ _ _ _ (fun x H1 ⟨c, e, q⟩ => ⟨c, e, k _ _ q⟩) h
theorem mo_and {a b : TT} (ha : MoT a) (hb : MoT b) : MoT (tAnd a b) := fun σ H Q Q' k h => ha _ _ _ _ (fun c H1 q => by
  cases c
  · exact k _ _ q
  · exact hb _ _ _ _ k q) h
theorem mo_or {a b : TT} (ha : MoT a) (hb : MoT b) : MoT (tOr a b) := fun σ H Q Q' k h => ha _ _ _ _ (fun c H1 q => by
  cases c
  · exact hb _ _ _ _ k q
  · exact k _ _ q) h
theorem mo_not {a : TT} (ha : MoT a) : MoT (tNot a) := fun σ H Q Q' k h => ha _ _ _ _ (fun c H1 q => k _ _ q) h
theorem mo_nil : MoA tNil := fun _ _ _ _ k q => k _ _ q
theorem mo_cons {a : TE} {r : TA} (ha : MoE a) (hr : MoA r) : MoA (tCons a r) := fun σ H Q Q' k h => ha _ _ _ _ (fun x H1 q => hr _ _ _ _ (fun xs H2 q => k _ _ q) q) h
theorem mo_cb {r : List V → Hp → VK → Prop} {a : TA} (hr : MoC r) (ha : MoA a) : MoE (tCB r a) := fun σ H Q Q' k h => ha _ _ _ _ (fun x H1 q => hr _ _ _ _ k q) h
theorem mo_I0 {f : Int → Int → V} : MoR (rI0 f) := fun _ _ _ _ _ k ⟨i, j, a, b, q⟩ => ⟨i, j, a, b, k _ _ q⟩
theorem mo_I {C : Int → Int → Prop} {f : Int → Int → V} : MoR (rI C f) := fun _ _ _ _ _ k ⟨i, j, a, b, c, q⟩ => ⟨i, j, a, b, c, k _ _ q⟩
theorem mo_eqA : MoR (rEqA K) := fun _ _ _ _ _ k h => h.elim (fun ⟨a, q⟩ => .inl ⟨a, k _ _ q⟩) fun ⟨d, e, a, b, c, f, q⟩ => .inr ⟨d, e, a, b, c, f, k _ _ q⟩
theorem mo_neA : MoR (rNeA K) := fun _ _ _ _ _ k h => h.elim (fun ⟨a, q⟩ => .inl ⟨a, k _ _ q⟩) fun ⟨d, e, a, b, c, f, q⟩ => .inr ⟨d, e, a, b, c, f, k _ _ q⟩
theorem mo_ix : MoR (rIx K) := fun _ _ _ _ _ k h => by
  rcases h with ⟨p, xs, i, v, a, b, c, d, q⟩ | ⟨p, xs, i, v, a, b, c, d, q⟩ | ⟨z, i, c, a, b, d, e, q⟩
  · exact .inl ⟨p, xs, i, v, a, b, c, d, k _ _ q⟩
  · exact .inr (.inl ⟨p, xs, i, v, a, b, c, d, k _ _ q⟩)
  · exact .inr (.inr ⟨z, i, c, a, b, d, e, k _ _ q⟩)
theorem mo_lenA : MoC (rLenA K) := fun _ _ _ _ k h => by
  rcases h with ⟨p, ys, a, b, q⟩ | ⟨z, a, b, q⟩
  · exact .inl ⟨p, ys, a, b, k _ _ q⟩
  · exact .inr ⟨z, a, b, k _ _ q⟩
theorem ix0 {n : Nat} : ixN (n + 1) 0 = some 0 := by
  unfold ixN
  rw [if_pos (by decide), if_pos (by omega)]
  rfl
end
/-! ### one step by its goal: the rules without a side condition, found by their heads -/
class Stp (g : Prop) (s : outParam Prop) : Prop where
  go : s → g
section
variable {K : PySem.W.Frag} {σ : L2.St} {H : Hp} {Q : VK} {QT : Bool → Hp → Prop} {QA : List V → Hp → Prop} {QS : L2.St → Hp → Prop} {v x y : V} {i : Nat} {ta tb te : TE} {t u c : TT} {tr : TA} {r : R2} {ts us : TS} {nx bk ct : L2.St → Hp → Prop} {rt : VK} {g : TG} {gs : TGs}
instance  : Stp (tSeq ts us ⟨nx, rt, bk, ct⟩ σ H) (ts ⟨us ⟨nx, rt, bk, ct⟩, rt, bk, ct⟩ σ H) := ⟨r_seq⟩
instance  : Stp (tIfS c ts us ⟨nx, rt, bk, ct⟩ σ H) (c σ H fun b H1 => if b = true then ts ⟨nx, rt, bk, ct⟩ σ H1 else us ⟨nx, rt, bk, ct⟩ σ H1) := ⟨r_ifS⟩
instance  : Stp (tAsg te g ⟨nx, rt, bk, ct⟩ σ H) (te σ H fun x H1 => g x σ H1 nx) := ⟨r_asg⟩
instance  : Stp (tRet te ⟨nx, rt, bk, ct⟩ σ H) (te σ H rt) := ⟨r_ret⟩
instance  : Stp (tRetN ⟨nx, rt, bk, ct⟩ σ H) (rt .non H) := ⟨r_retN⟩
instance  : Stp (tNext ⟨nx, rt, bk, ct⟩ σ H) (nx σ H) := ⟨r_next⟩
instance  : Stp (tDrop te ⟨nx, rt, bk, ct⟩ σ H) (te σ H fun _ H1 => nx σ H1) := ⟨r_drop⟩
instance {f : Int → Int → Int} {i j : Int} : Stp (ipI f (.int i) (.int j) H Q) (Q (.int (f i j)) H) := ⟨q_ip⟩
instance  : Stp (tC v σ H Q) (Q v H) := ⟨r_c⟩
instance  : Stp (tOp r ta tb σ H Q) (ta σ H fun x H1 => tb σ H1 fun y H2 => r x y H2 Q) := ⟨r_op⟩
instance {r : V → Hp → VK → Prop} : Stp (tUn r ta σ H Q) (ta σ H fun x H1 => r x H1 Q) := ⟨r_un⟩
instance  : Stp (tTest te σ H QT) (te σ H fun x H' => ∃ k, x = .bl k ∧ QT k H') := ⟨r_test⟩
instance  : Stp (tB te σ H QT) (te σ H fun x H1 => ∃ c, x = .bl c ∧ QT c H1) := ⟨r_tB⟩
instance {b : Bool} {B : Bool → Prop} : Stp (∃ k, V.bl b = .bl k ∧ B k) (B b) := ⟨q_exb⟩
instance  : Stp (tAnd t u σ H QT) (t σ H fun c H1 => if c = true then u σ H1 QT else QT false H1) := ⟨r_and⟩
instance  : Stp (tOr t u σ H QT) (t σ H fun c H1 => if c = true then QT true H1 else u σ H1 QT) := ⟨r_or⟩
instance  : Stp (tNot t σ H QT) (t σ H fun c H1 => QT (!c) H1) := ⟨r_not⟩
instance  : Stp (tAndV ta tb σ H Q) (ta σ H fun x H1 => ∃ c, x = .bl c ∧ if c = true then tb σ H1 Q else Q (.bl false) H1) := ⟨r_andV⟩
instance  : Stp (tOrV ta tb σ H Q) (ta σ H fun x H1 => ∃ c, x = .bl c ∧ if c = true then Q (.bl true) H1 else tb σ H1 Q) := ⟨r_orV⟩
instance  : Stp (tNotV ta σ H Q) (ta σ H fun x H1 => ∃ c, x = .bl c ∧ Q (.bl (!c)) H1) := ⟨r_notV⟩
instance  : Stp (tIf t ta tb σ H Q) (t σ H fun c H1 => if c = true then ta σ H1 Q else tb σ H1 Q) := ⟨r_ifE⟩
instance  : Stp (rInt [.bl (!false)] H Q) (Q (.int 1) H) := ⟨q_intNT⟩
instance  : Stp (rInt [.bl (!true)] H Q) (Q (.int 0) H) := ⟨q_intNF⟩
instance  : Stp (tCons ta tr σ H QA) (ta σ H fun x H1 => tr σ H1 fun xs H2 => QA (x :: xs) H2) := ⟨r_cons⟩
instance  : Stp (tNil σ H QA) (QA [] H) := ⟨r_nil⟩
instance {r : List V → Hp → VK → Prop} : Stp (tCB r tr σ H Q) (tr σ H fun vs H1 => r vs H1 Q) := ⟨r_cb⟩
instance {sp : Sp} {E : XK} : Stp (tCall sp [] E tr σ H Q) (tr σ H fun vs H1 => sp vs H1 Q E) := ⟨r_call⟩
instance  : Stp (tTup tr σ H Q) (tr σ H fun xs H1 => newT Q xs H1) := ⟨r_tup⟩
instance  : Stp (tLst tr σ H Q) (tr σ H fun xs H1 => newL Q xs H1) := ⟨r_lst⟩
instance  : Stp (gName i v σ H QS) (QS (σ.set i (some v)) H) := ⟨r_gname⟩
instance  : Stp (gNil [] σ H QS) (QS σ H) := ⟨r_gnil⟩
instance {vs : List V} : Stp (gCons g gs (v :: vs) σ H QS) (g v σ H fun σ' H' => gs vs σ' H' QS) := ⟨r_gcons⟩
instance {to ti : TE} {s : TSet} : Stp (gSub to ti s v σ H QS) (to σ H fun o H1 => ti σ H1 fun i H2 => s o i v H2 fun H3 => QS σ H3) := ⟨r_gsub⟩
instance {r : V → Option Int → Option Int → Hp → VK → Prop} {tl th : TO} : Stp (tSl r te tl th σ H Q) (te σ H fun x H1 => tl σ H1 fun l H2 => th σ H2 fun u H3 => r x l u H3 Q) := ⟨r_sl⟩
instance {Q : Option Int → Hp → Prop} : Stp (tPart te σ H Q) (te σ H fun x H1 => ∃ i, x = .int i ∧ Q (some i) H1) := ⟨r_part⟩
instance {Q : Option Int → Hp → Prop} : Stp (tNoPart σ H Q) (Q none H) := ⟨r_nopart⟩
instance {i : Int} {B : Int → Prop} : Stp (∃ j, V.int i = .int j ∧ B j) (B i) := ⟨q_part⟩
instance {td ty : TE} : Stp (tDGet td ty σ H Q) (td σ H fun x H1 => ty σ H1 fun y H2 => ∃ a v, x = .ref a ∧ DGet H2 a y (some v) ∧ Q v H2) := ⟨r_dget⟩
instance {T : String} {r : V → List V → Hp → VK → Prop} : Stp (tBM K T r te tr σ H Q) (te σ H fun x H1 => tyV K T x H1 ∧ tr σ H1 fun xs H2 => r x xs H2 Q) := ⟨r_bm⟩
instance {T : String} {r : V → List V → Hp → VK → Prop} : Stp (tBM0 K T r te σ H Q) (te σ H fun x H1 => tyV K T x H1 ∧ r x [] H1 Q) := ⟨r_bm0⟩
instance {i j : Int} : Stp (rAddA K (.int i) (.int j) H Q) (Q (.int (i + j)) H) := ⟨q_addI⟩
instance {f : Int → V} {i : Int} : Stp (rU f (.int i) H Q) (Q (f i) H) := ⟨q_U⟩
instance {i : Int} : Stp (rIsi K [.int i, .ty "bool"] H Q) (Q (.bl false) H) := ⟨q_isiBI⟩
instance  : Stp (rIsi K [.non, .ty "bool"] H Q) (Q (.bl false) H) := ⟨q_isiBN⟩
instance {i : Int} : Stp (rInt [.int i] H Q) (Q (.int i) H) := ⟨q_int⟩
instance  : Stp (rInt [.bl true] H Q) (Q (.int 1) H) := ⟨q_intT⟩
instance  : Stp (rInt [.bl false] H Q) (Q (.int 0) H) := ⟨q_intF⟩
instance {i : Int} : Stp (rAbs [.int i] H Q) (Q (.int (if i < 0 then -i else i)) H) := ⟨q_abs⟩
instance  : Stp (tYes σ H QT) (QT true H) := ⟨r_yes⟩
instance {wi : TI} {vs : List Nat} : Stp (tLc wi g t te vs σ H Q) (wi σ H fun J H1 => ∀ D, H1 D = none → ∃ W : Nat → Nat → Hp → Prop, (∃ m, W 0 m (upd H1 D (.lst []))) ∧ ∀ i m H, W i m H →
  (J.stop i H ∧ Q (.ref D) H) ∨ (J.go i H ∧ ∃ Nx : Hp → Prop, (∀ H', Nx H' → ∃ m', m' < m ∧ W (i + 1) m' H') ∧ ∀ x H', J.yld i H x H' → g x (wipe σ vs) H' fun σ2 H2 => wipe σ2 vs = wipe σ vs ∧ t σ2 H2 fun b H3 =>
    if b = true then te σ2 H3 fun y H4 => ∃ acc, H4 D = some (.lst acc) ∧ acc.length < sizeLine ∧ Nx (upd H4 D (.lst (acc ++ [y]))) else Nx H3)) := ⟨r_lc⟩
instance {QP : List (V × V) → Hp → Prop} {tk tv : TE} {r : List (TE × TE)} : Stp (tPairs ((tk, tv) :: r) σ H QP) (tk σ H fun x H1 => tv σ H1 fun y H2 => tPairs r σ H2 fun ps H3 => QP ((x, y) :: ps) H3) := ⟨r_pcons⟩
instance {QP : List (V × V) → Hp → Prop} : Stp (tPairs [] σ H QP) (QP [] H) := ⟨r_pnil⟩
instance {wi : TI} : Stp (tFor wi g ts ⟨nx, rt, bk, ct⟩ σ H) (wi σ H fun J H1 => ∃ W : Nat → Nat → L2.St → Hp → Prop, (∃ m, W 0 m σ H1) ∧ ∀ i m σ H, W i m σ H →
  (J.stop i H ∧ nx σ H) ∨ (J.go i H ∧ ∃ N : L2.St → Hp → Prop, (∀ σ' H', N σ' H' → ∃ m', m' < m ∧ W (i + 1) m' σ' H') ∧ ∀ x H', J.yld i H x H' → g x σ H' fun σ2 H2 => ts ⟨N, rt, nx, N⟩ σ2 H2)) := ⟨r_for⟩
instance {tl : TE} {R : It → Hp → Prop} : Stp (iList K tl σ H R) (tl σ H fun x H1 => ∃ a, x = .ref a ∧ (∃ xs, SqL K H1 a xs) ∧ R (Itl K a) H1) := ⟨r_iL⟩
instance {tl : TE} {R : It → Hp → Prop} : Stp (iTup K tl σ H R) (tl σ H fun x H1 => ∃ a, x = .ref a ∧ (∃ xs, SqT K H1 a xs) ∧ R (Itt K a) H1) := ⟨r_iT⟩
instance {tl : TE} {R : It → Hp → Prop} : Stp (iStr tl σ H R) (tl σ H fun v H1 => ∃ x, v = .str x ∧ R (Its x) H1) := ⟨r_iS⟩
instance {z : Str} {B : Str → Prop} : Stp (∃ x, V.str z = .str x ∧ B x) (B z) := ⟨q_iS⟩
instance {R : It → Hp → Prop} : Stp (iRng1 tr σ H R) (tr σ H fun vs H1 => ∃ j : Int, vs = [.int j] ∧ -(2 ^ 62) ≤ j ∧ j < 2 ^ 62 ∧ R (Itr 0 j.toNat) H1) := ⟨r_rng1⟩
instance {R : It → Hp → Prop} : Stp (iRng2 tr σ H R) (tr σ H fun vs H1 => ∃ i j : Int, vs = [.int i, .int j] ∧ (-(2 ^ 62) ≤ i ∧ i < 2 ^ 62 ∧ -(2 ^ 62) ≤ j ∧ j < 2 ^ 62) ∧ R (Itr i (j - i).toNat) H1) := ⟨r_rng2⟩
instance {A B : Prop} : Stp (if true = true then A else B) A := ⟨iteT⟩
instance {A B : Prop} : Stp (if false = true then A else B) B := ⟨iteF⟩
instance {A B : Prop} : Stp (if (!false) = true then A else B) A := ⟨iteNT⟩
instance {A B : Prop} : Stp (if (!true) = true then A else B) B := ⟨iteNF⟩
end
/-! ### slots, found by instances: no unfolding of long rows of stores -/
class Nq (i j : Nat) : Prop where
  ne : i ≠ j
instance {n : Nat} : Nq 0 (n + 1) := ⟨by omega⟩
instance {n : Nat} : Nq (n + 1) 0 := ⟨by omega⟩
instance {m n : Nat} [h : Nq m n] : Nq (m + 1) (n + 1) := ⟨by have := h.ne; omega⟩
class Ln (σ : L2.St) (k : Nat) : Prop where
  lt : k < σ.length
instance {x : Option V} {t : L2.St} : Ln (x :: t) 0 := ⟨by simp⟩
instance {x : Option V} {t : L2.St} {k : Nat} [h : Ln t k] : Ln (x :: t) (k + 1) := ⟨by have := h.lt; simp only [List.length_cons]; omega⟩
instance {l : L2.St} {i k : Nat} {x : Option V} [h : Ln l k] : Ln (l.set i x) k := ⟨by have := h.lt; rw [List.length_set]; exact this⟩
instance {n : Str} {N : List Str} {v : V} {vs : List V} : Ln (L2.start (n :: N) (v :: vs)) 0 := ⟨by simp [L2.start]⟩
instance {n : Str} {N : List Str} : Ln (L2.start (n :: N) []) 0 := ⟨by simp [L2.start]⟩
instance {n : Str} {N : List Str} {v : V} {vs : List V} {k : Nat} [h : Ln (L2.start N vs) k] : Ln (L2.start (n :: N) (v :: vs)) (k + 1) := ⟨by have := h.lt; simp [L2.start] at this ⊢; omega⟩
instance {n : Str} {N : List Str} {k : Nat} [h : Ln (L2.start N []) k] : Ln (L2.start (n :: N) []) (k + 1) := ⟨by have := h.lt; simp [L2.start] at this ⊢; omega⟩
class Lkv (σ : L2.St) (i : Nat) (v : outParam V) : Prop where
  at_ : σ[i]? = some (some v)
instance {v : V} {t : L2.St} : Lkv (some v :: t) 0 v := ⟨rfl⟩
instance {x : Option V} {v : V} {t : L2.St} {n : Nat} [h : Lkv t n v] : Lkv (x :: t) (n + 1) v := ⟨by have := h.at_; simpa using this⟩
instance {l : L2.St} {i : Nat} {v : V} [h : Ln l i] : Lkv (l.set i (some v)) i v := ⟨by rw [List.getElem?_set_self h.lt]⟩
instance (priority := 900) {l : L2.St} {i j : Nat} {x : Option V} {v : V} [h : Nq i j] [g : Lkv l j v] : Lkv (l.set i x) j v := ⟨by rw [List.getElem?_set_ne h.ne]; exact g.at_⟩
instance {n : Str} {N : List Str} {v : V} {vs : List V} : Lkv (L2.start (n :: N) (v :: vs)) 0 v := ⟨rfl⟩
instance {n : Str} {N : List Str} {x v : V} {vs : List V} {k : Nat} [h : Lkv (L2.start N vs) k v] : Lkv (L2.start (n :: N) (x :: vs)) (k + 1) v := ⟨by have := h.at_; simp only [L2.start, List.map_cons, List.cons_append, List.length_cons] at this ⊢; rw [List.getElem?_cons_succ, Nat.add_sub_add_right]; exact this⟩
instance {i : Nat} {σ : L2.St} {H : Hp} {Q : VK} {v : V} [h : Lkv σ i v] : Stp (tVar i σ H Q) (Q v H) := ⟨r_var h.at_⟩
end Y
namespace Y
open PySem L2
def topS (i : Nat) : Stmt := PySem.Challenge.pw_placedanyhow_k35_threads_of_a_core.main.body.getD i (.Pass ⟨0, 0, 0, 0⟩)
local macro_rules | `(tactic| exists "lift") => `(tactic| (refine at_kp (by assumption) (by (first | exists "nin" | fail)) ?_; exists "lift"))
local macro_rules | `(tactic| exists "lift") => `(tactic| (refine tup_kp (by assumption) ?_; exists "lift"))
local macro_rules | `(tactic| exists "lift") => `(tactic| (refine at_ex (by assumption) ?_; exists "lift"))
local macro_rules | `(tactic| exists "lift") => `(tactic| assumption)
local macro_rules | `(tactic| exists "sq") => `(tactic| (refine sql ?_; exists "lift"))
local macro_rules | `(tactic| exists "sq") => `(tactic| (refine sqt ?_; exists "lift"))
local macro_rules | `(tactic| exists "sq") => `(tactic| assumption)
local macro_rules | `(tactic| subst "ar") => `(tactic| decide)
local macro_rules | `(tactic| subst "ar") => `(tactic| (refine cmulR ⟨?_, ?_⟩ <;> omega))
local macro_rules | `(tactic| subst "ar") => `(tactic| (refine cmulL ⟨?_, ?_⟩ <;> omega))
local macro_rules | `(tactic| subst "ar") => `(tactic| (refine cdiv ⟨?_, ?_⟩ <;> omega))
local macro_rules | `(tactic| subst "ar") => `(tactic| (refine And.intro ?_ ?_ <;> omega))
local macro_rules | `(tactic| subst "ar") => `(tactic| omega)
local macro_rules | `(tactic| subst "ar") => `(tactic| assumption)
set_option hygiene false in
local macro_rules | `(tactic| subst "i_disp") => `(tactic| intro dp Hn hdp ke hdn)
set_option hygiene false in
local macro_rules | `(tactic| subst "i_new") => `(tactic| intro p Hn hp ke hn)
local macro_rules | `(tactic| subst "len") => `(tactic| (simp only [List.length_cons, List.length_nil, List.length_append, List.length_map]; omega))
local macro_rules | `(tactic| subst "len") => `(tactic| decide)
local macro_rules | `(tactic| subst "new") => `(tactic| ((with_reducible refine q_listT (ys := ?ys) ?h ?_); (case h => exists "sq"); subst "i_new"))
local macro_rules | `(tactic| subst "new") => `(tactic| ((with_reducible refine q_listL (ys := ?ys) ?h ?_); (case h => exists "sq"); subst "i_new"))
local macro_rules | `(tactic| subst "new") => `(tactic| ((with_reducible refine q_sl1L (x := ?x) (xs := ?xs) ?h ?_); (case h => exists "sq"); subst "i_new"))
local macro_rules | `(tactic| subst "new") => `(tactic| ((with_reducible refine q_sl1T (x := ?x) (xs := ?xs) ?h ?_); (case h => exists "sq"); subst "i_new"))
local macro_rules | `(tactic| subst "new") => `(tactic| ((with_reducible refine q_newL ?h ?_); (case h => subst "len"); subst "i_new"))
local macro_rules | `(tactic| subst "new") => `(tactic| ((with_reducible refine q_newT ?h ?_); (case h => subst "len"); subst "i_new"))
local macro_rules | `(tactic| subst "arx") => `(tactic| (simp only [List.length_cons, List.length_nil, List.length_map]; omega))
local macro_rules | `(tactic| subst "arx") => `(tactic| decide)
local macro_rules | `(tactic| subst "arx") => `(tactic| omega)
set_option hygiene false in
local macro_rules | `(tactic| subst "q") => `(tactic| exact q)
local macro_rules | `(tactic| specialize "st") => `(tactic| injection "own")
local macro_rules | `(tactic| specialize "st") => `(tactic| subst "new")
local macro_rules | `(tactic| specialize "st") => `(tactic| ((with_reducible refine q_ixL (xs := ?xs) (v := ?v) ?h ?a ?_); (case h => exists "sq"); (case a => first | exact rfl | exact at0 | assumption | subst "ax")))
local macro_rules | `(tactic| specialize "st") => `(tactic| ((with_reducible refine q_notNN ?h ?_); (case h => intro z; cases z)))
local macro_rules | `(tactic| specialize "st") => `(tactic| with_reducible refine q_notNY rfl ?_)
local macro_rules | `(tactic| specialize "st") => `(tactic| ((with_reducible refine q_isNN ?h ?_); (case h => intro z; cases z)))
local macro_rules | `(tactic| specialize "st") => `(tactic| with_reducible refine q_isNY rfl ?_)
local macro_rules | `(tactic| specialize "st") => `(tactic| subst "q")
local macro_rules | `(tactic| specialize "st") => `(tactic| ((with_reducible refine q_rng2 ?h ?_); (case h => refine And.intro ?_ (And.intro ?_ (And.intro ?_ ?_)) <;> omega)))
local macro_rules | `(tactic| specialize "st") => `(tactic| ((with_reducible refine q_rng1 ?h ?_); (case h => subst "ar")))
local macro_rules | `(tactic| specialize "st") => `(tactic| ((with_reducible refine q_iT (xs := ?xs) ?h ?_); (case h => exists "sq")))
local macro_rules | `(tactic| specialize "st") => `(tactic| ((with_reducible refine q_iL (xs := ?xs) ?h ?_); (case h => exists "sq")))
local macro_rules | `(tactic| specialize "st") => `(tactic| (with_reducible refine r_disp ?_; subst "i_disp"))
local macro_rules | `(tactic| specialize "st") => `(tactic| ((with_reducible refine q_inLN (xs := ?xs) ?h ?e ?_); (case h => exists "sq"); (case e => first | decide +kernel | rfl)))
local macro_rules | `(tactic| specialize "st") => `(tactic| ((with_reducible refine q_inLY (xs := ?xs) ?h ?e ?_); (case h => exists "sq"); (case e => first | decide +kernel | rfl)))
local macro_rules | `(tactic| specialize "st") => `(tactic| ((with_reducible refine q_inTN (xs := ?xs) ?h ?e ?_); (case h => exists "sq"); (case e => first | decide +kernel | rfl)))
local macro_rules | `(tactic| specialize "st") => `(tactic| ((with_reducible refine q_inTY (xs := ?xs) ?h ?e ?_); (case h => exists "sq"); (case e => first | decide +kernel | rfl)))
local macro_rules | `(tactic| specialize "st") => `(tactic| ((with_reducible refine q_lenT (xs := ?xs) ?h ?_); (case h => exists "sq")))
local macro_rules | `(tactic| specialize "st") => `(tactic| ((with_reducible refine q_lenL (xs := ?xs) ?h ?_); (case h => exists "sq")))
local macro_rules | `(tactic| specialize "st") => `(tactic| ((with_reducible refine q_ixT (xs := ?xs) (v := ?v) ?h ?a ?_); (case h => exists "sq"); (case a => exact rfl)))
local macro_rules | `(tactic| specialize "st") => `(tactic| with_reducible refine q_I0 ?_)
local macro_rules | `(tactic| specialize "st") => `(tactic| ((with_reducible refine q_I ?c ?_); (case c => subst "ar")))
local macro_rules | `(tactic| specialize "st") => `(tactic| (with_reducible refine q_cmp (fun c => ?_) (fun c => ?_)))
local macro_rules | `(tactic| specialize "st") => `(tactic| ((with_reducible refine q_cmpN ?h ?_); (case h => subst "arx")))
local macro_rules | `(tactic| specialize "st") => `(tactic| ((with_reducible refine q_cmpY ?h ?_); (case h => subst "arx")))
local macro_rules | `(tactic| specialize "st") => `(tactic| (with_reducible refine q_neS (fun c => ?_) (fun c => ?_)))
local macro_rules | `(tactic| specialize "st") => `(tactic| (with_reducible refine q_neI (fun c => ?_) (fun c => ?_)))
local macro_rules | `(tactic| specialize "st") => `(tactic| ((with_reducible refine q_neN ?s ?e ?_); (case e => first | exact rfl | decide +kernel); (case s => rfl)))
local macro_rules | `(tactic| specialize "st") => `(tactic| ((with_reducible refine q_neY ?s ?e ?_); (case e => decide +kernel); (case s => rfl)))
local macro_rules | `(tactic| specialize "st") => `(tactic| (with_reducible refine q_eqS (fun c => ?_) (fun c => ?_)))
local macro_rules | `(tactic| specialize "st") => `(tactic| (with_reducible refine q_eqI (fun c => ?_) (fun c => ?_)))
local macro_rules | `(tactic| specialize "st") => `(tactic| ((with_reducible refine q_eqN ?s ?e ?_); (case e => subst "ne"); (case s => rfl)))
local macro_rules | `(tactic| specialize "st") => `(tactic| ((with_reducible refine q_eqN ?s ?e ?_); (case e => decide +kernel); (case s => rfl)))
local macro_rules | `(tactic| specialize "st") => `(tactic| ((with_reducible refine q_eqY ?s ?e ?_); (case e => first | exact rfl | decide +kernel); (case s => rfl)))
local macro_rules | `(tactic| specialize "st") => `(tactic| ((with_reducible refine q_dget (kvs := ?kvs) (v := ?v) ?h ?l ?_); (case h => exists "lift"); (case l => first | assumption | rfl)))
local macro_rules | `(tactic| specialize "st") => `(tactic| ((with_reducible refine r_gtup (xs := ?xs) ?h ?l ?_); (case h => exists "sq"); (case l => rfl)))
local macro_rules | `(tactic| specialize "st") => `(tactic| ((with_reducible refine r_var (v := ?v) ?h ?_); (case h => exact rfl)))
local macro_rules | `(tactic| specialize "st") => `(tactic| ((with_reducible refine r_aug (v := ?v) ?h ?_); (case h => exact rfl)))
local macro_rules | `(tactic| specialize "st") => `(tactic| with_reducible refine Stp.go ?_)
local macro_rules | `(tactic| subst "ex") => `(tactic| (refine Ex.trans ?_ (by assumption); subst "ex"))
local macro_rules | `(tactic| subst "ex") => `(tactic| exact Ex.refl _)
local macro_rules | `(tactic| subst "ex") => `(tactic| assumption)
structure Glo (K : PySem.W.Frag) (w : World) (mg : Str → Option Value) : Prop where
  n_len : mg "len" = none
  n_int : mg "int" = none
  n_abs : mg "abs" = none
  n_range : mg "range" = none
  n_list : mg "list" = none
  n_tuple : mg "tuple" = none
  n_dict : mg "dict" = none
  n_sorted : mg "sorted" = none
  n_min : mg "min" = none
  n_all : mg "all" = none
  n_repr : mg "repr" = none
  n_isinstance : mg "isinstance" = none
  n_enumerate : mg "enumerate" = none
  n_set : mg "set" = none
local macro_rules | `(tactic| subst "lev") => `(tactic| omega)
local macro_rules | `(tactic| subst "lev") => `(tactic| decide)
variable {P : Program} {w : World} {K : PySem.W.Frag} {mg : Str → Option Value} {base : Heap}
/-! ### terms -/
inductive Op | add | sub | mul | div | mod | and | or | eq | ne | lt | le
  deriving DecidableEq
def Op.str : Op → Str
  | .add => "+" | .sub => "-" | .mul => "*" | .div => "/" | .mod => "mod" | .and => "and" | .or => "or" | .eq => "==" | .ne => "!=" | .lt => "<" | .le => "<="
def opStrs : List Str := ["+", "-", "*", "/", "mod", "and", "or", "==", "!=", "<", "<="]
theorem op_ne {o : Op} {z : Str} (h : (opStrs.all fun y => !decide (y = z)) = true) : ¬ V.str o.str = V.str z := by
  intro e
  have e' : o.str = z := V.str.inj e
  have m : o.str ∈ opStrs := by cases o <;> decide +kernel
  have := List.all_eq_true.mp h _ m
  rw [e'] at this
  simp at this
inductive Tm | num (n : Int) | cell (k : Int) | at (f s : Int) (e : Tm) | neg (e : Tm) | not (e : Tm) | bin (o : Op) (a b : Tm)
def Tm.In (H : Hp) : Tm → V → Prop
  | .num n, v => ∃ p, v = .ref p ∧ H p = some (.tup [.str "num", .int n])
  | .cell k, v => ∃ p, v = .ref p ∧ H p = some (.tup [.str "cell", .int k])
  | .at f s e, v => ∃ p x, v = .ref p ∧ H p = some (.tup [.str "at", .int f, .int s, x]) ∧ Tm.In H e x
  | .neg e, v => ∃ p x, v = .ref p ∧ H p = some (.tup [.str "neg", x]) ∧ Tm.In H e x
  | .not e, v => ∃ p x, v = .ref p ∧ H p = some (.tup [.str "not", x]) ∧ Tm.In H e x
  | .bin o a b, v => ∃ p x y, v = .ref p ∧ H p = some (.tup [.str o.str, x, y]) ∧ Tm.In H a x ∧ Tm.In H b y
theorem Tm.In.up {H H' : Hp} (k : ∀ p xs, H p = some (.tup xs) → H' p = some (.tup xs)) : ∀ {e : Tm} {v : V}, e.In H v → e.In H' v
  | .num _, _, ⟨p, h, a⟩ => ⟨p, h, k _ _ a⟩
  | .cell _, _, ⟨p, h, a⟩ => ⟨p, h, k _ _ a⟩
  | .at _ _ _, _, ⟨p, x, h, a, b⟩ => ⟨p, x, h, k _ _ a, Tm.In.up k b⟩
  | .neg _, _, ⟨p, x, h, a, b⟩ => ⟨p, x, h, k _ _ a, Tm.In.up k b⟩
  | .not _, _, ⟨p, x, h, a, b⟩ => ⟨p, x, h, k _ _ a, Tm.In.up k b⟩
  | .bin _ _ _, _, ⟨p, x, y, h, a, b, c⟩ => ⟨p, x, y, h, k _ _ a, Tm.In.up k b, Tm.In.up k c⟩
theorem tm_ex {H H' : Hp} {e : Tm} {v : V} (x : Ex H H') (h : e.In H v) : e.In H' v := h.up fun p xs q => x p _ q
theorem tm_kp {M : List Addr} {H H' : Hp} {e : Tm} {v : V} (x : Kp M H H') (h : e.In H v) : e.In H' v := h.up x.tup
def Tm.deep : Tm → Nat
  | .num _ => 1 | .cell _ => 1 | .at _ _ e => e.deep + 1 | .neg e => e.deep + 1 | .not e => e.deep + 1 | .bin _ a b => max a.deep b.deep + 1
theorem Tm.deep_pos : ∀ e : Tm, 0 < e.deep
  | .num _ => Nat.one_pos | .cell _ => Nat.one_pos | .at _ _ _ => Nat.succ_pos _ | .neg _ => Nat.succ_pos _ | .not _ => Nat.succ_pos _ | .bin _ _ _ => Nat.succ_pos _
/-- over n cells, with words as numbers -/
def Tm.ok (n : Int) : Tm → Prop
  | .num k => 0 ≤ k ∧ k < 65536
  | .cell k => 0 ≤ k ∧ k < n
  | .at f s e => 0 ≤ f ∧ 0 < s ∧ f + s ≤ n ∧ e.ok n
  | .neg e => e.ok n
  | .not e => e.ok n
  | .bin _ a b => a.ok n ∧ b.ok n
theorem Tm.ok.mono {n m : Int} (h : n ≤ m) : ∀ {e : Tm}, e.ok n → e.ok m
  | .num _, a => a
  | .cell _, a => ⟨a.1, by have := a.2; omega⟩
  | .at _ _ _, a => ⟨a.1, a.2.1, by have := a.2.2.1; omega, Tm.ok.mono h a.2.2.2⟩
  | .neg e, a => Tm.ok.mono (e := e) h a
  | .not e, a => Tm.ok.mono (e := e) h a
  | .bin _ _ _, a => ⟨Tm.ok.mono h a.1, Tm.ok.mono h a.2⟩
def hold : Op → Int → Int → Bool
  | .and, a, b => decide (a ≠ 0) && decide (b ≠ 0)
  | .or, a, b => decide (a ≠ 0) || decide (b ≠ 0)
  | .eq, a, b => decide (a = b)
  | .ne, a, b => decide (a ≠ b)
  | .lt, a, b => decide (a < b)
  | _, a, b => decide (a ≤ b)
def b2 (b : Bool) : Int := if b = true then 1 else 0
def calc2 : Op → Int → Int → Option Int
  | .add, a, b => some ((a + b) % 65536)
  | .sub, a, b => some ((a - b) % 65536)
  | .mul, a, b => some (a * b % 65536)
  | .div, a, b => if b = 0 then none else some (a / b)
  | .mod, a, b => if b = 0 then none else some (a % b)
  | o, a, b => some (b2 (hold o a b))
def ev (cs : List Int) : Tm → Option Int
  | .num n => some n
  | .cell k => some (cs.getD k.toNat 0)
  | .at f s e => match ev cs e with
    | none => none
    | some i => if s ≤ i then none else some (cs.getD (f + i).toNat 0)
  | .neg e => match ev cs e with
    | none => none
    | some i => some (-i % 65536)
  | .not e => match ev cs e with
    | none => none
    | some i => some (b2 (decide (i = 0)))
  | .bin o a b => match ev cs a, ev cs b with
    | some i, some j => calc2 o i j
    | _, _ => none
/-- the cell of a target -/
def wh (cs : List Int) : Tm → Option Int
  | .cell k => some k
  | .at f s e => match ev cs e with
    | none => none
    | some i => if s ≤ i then none else some (f + i)
  | _ => none
def optV : Option Int → V
  | none => .non
  | some i => .int i
def Words (cs : List Int) : Prop := ∀ c ∈ cs, 0 ≤ c ∧ c < 65536
theorem Words.get {cs : List Int} (h : Words cs) (k : Nat) : 0 ≤ cs.getD k 0 ∧ cs.getD k 0 < 65536 := by
  by_cases hk : k < cs.length
  · rw [List.getD_eq_getElem?_getD, List.getElem?_eq_getElem hk]
    exact h _ (List.getElem_mem hk)
  · rw [List.getD_eq_getElem?_getD, List.getElem?_eq_none (by omega)]
    exact ⟨by decide, by decide⟩
theorem b2_w (b : Bool) : 0 ≤ b2 b ∧ b2 b < 65536 := by cases b <;> exact ⟨by decide, by decide⟩
theorem calc2_w {o : Op} {a b x : Int} (ha : 0 ≤ a ∧ a < 65536) (hb : 0 ≤ b ∧ b < 65536) (h : calc2 o a b = some x) : 0 ≤ x ∧ x < 65536 := by
  have hd : b ≠ 0 → 0 ≤ a / b ∧ a / b < 65536 := fun n => by
    have h1 : 0 ≤ a / b := Int.ediv_nonneg ha.1 hb.1
    have h2 : a / b ≤ a := Int.ediv_le_self b ha.1
    omega
  have hm : b ≠ 0 → 0 ≤ a % b ∧ a % b < 65536 := fun n => by
    have h1 : 0 ≤ a % b := Int.emod_nonneg a n
    have h2 : a % b < b := Int.emod_lt_of_pos a (by omega)
    omega
  cases o <;> simp only [calc2] at h
  case div => split at h; · cases h
              · cases h; exact hd (by assumption)
  case mod => split at h; · cases h
              · cases h; exact hm (by assumption)
  case add => cases h; omega
  case sub => cases h; omega
  case mul => cases h; exact ⟨Int.emod_nonneg _ (by decide), Int.emod_lt_of_pos _ (by decide)⟩
  all_goals (cases h; exact b2_w _)
theorem ev_w {cs : List Int} (hw : Words cs) {n : Int} : ∀ {e : Tm} {x : Int}, e.ok n → ev cs e = some x → 0 ≤ x ∧ x < 65536
  | .num _, x, a, h => by cases h; exact a
  | .cell _, x, a, h => by cases h; exact hw.get _
  | .at f s e, x, a, h => by
    simp only [ev] at h
    split at h
    · cases h
    · split at h
      · cases h
      · cases h; exact hw.get _
  | .neg e, x, a, h => by
    simp only [ev] at h
    split at h
    · cases h
    · cases h; omega
  | .not e, x, a, h => by
    simp only [ev] at h
    split at h
    · cases h
    · cases h; exact b2_w _
  | .bin o e g, x, a, h => by
    simp only [ev] at h
    split at h
    · rename_i h1 h2
      exact calc2_w (ev_w hw a.1 h1) (ev_w hw a.2 h2) h
    · cases h
theorem atc {cs : List Int} {k : Int} (h0 : 0 ≤ k) (h1 : k < cs.length) : atI (cs.map V.int) k = some (.int (cs.getD k.toNat 0)) := by
  have hk : k.toNat < cs.length := by omega
  have e : k = ((k.toNat : Nat) : Int) := by omega
  have q : atI (cs.map V.int) ((k.toNat : Nat) : Int) = some (.int (cs.getD k.toNat 0)) := atI_nat (by rw [List.getElem?_map, List.getD_eq_getElem?_getD, List.getElem?_eq_getElem hk]; rfl)
  rw [← e] at q
  exact q
/-- targets -/
def Tm.tgt : Tm → Prop
  | .cell _ => True
  | .at _ _ _ => True
  | _ => False
theorem wh_ok {cs : List Int} (hw : Words cs) : ∀ {e : Tm} {k : Int}, e.ok cs.length → wh cs e = some k → 0 ≤ k ∧ k < cs.length
  | .num _, k, a, h => by cases h
  | .cell _, k, a, h => by cases h; exact a
  | .at f s e, k, a, h => by
    simp only [wh] at h
    split at h
    · cases h
    · rename_i i hi
      split at h
      · cases h
      · cases h
        have := ev_w hw a.2.2.2 hi
        have := a.1
        have := a.2.2.1
        omega
  | .neg _, k, a, h => by cases h
  | .not _, k, a, h => by cases h
  | .bin _ _ _, k, a, h => by cases h
theorem ev_wh {cs : List Int} : ∀ {e : Tm}, e.tgt → ev cs e = (wh cs e).map fun k => cs.getD k.toNat 0
  | .cell _, _ => rfl
  | .at f s e, _ => by
    simp only [ev, wh]
    split
    · rfl
    · split <;> rfl
/-! ### own classes -/
section
variable (P : Program) (w : World) (K : PySem.W.Frag) (mg : Str → Option Value) (base : Heap)
/-- a method as it stands behind the top -/
def DnM (C : Addr) (m q : Str) (st : Stmt) (ps : List Str) : Prop := ∃ f fd, Cls K C ∧ Meth K C m f ∧ Fun K m q st f fd ∧ Binds K fd ps []
/-- a class with its __init__ -/
def DnI (x q : Str) (C : Addr) (st : Stmt) (ps : List Str) : Prop := ∃ f fd, Mk K C f ∧ Fun K "__init__" q st f fd ∧ mg x = some (.ref C) ∧ Binds K fd ps []
def MetC (C : Addr) (m : Str) (k : Nat) (ps : List Str) (sp : Sp) : Prop := ∃ f fd, Cls K C ∧ Meth K C m f ∧ FnOk P w K mg base CX0 k f fd ps sp ∧ Binds K fd ps []
def MakC (x : Str) (C : Addr) (k : Nat) (ps : List Str) (sp : Sp) : Prop := ∃ f fd, Mk K C f ∧ FnOk P w K mg base CX0 k f fd ps sp ∧ mg x = some (.ref C) ∧ Binds K fd ps []
end
section
variable {P : Program} {w : World} {K : PySem.W.Frag} {mg : Str → Option Value} {base : Heap}
theorem DnM.ok {C : Addr} {m q : Str} {st : Stmt} {N ps : List Str} {k : Nat} {sp : Sp} (D : DnM K C m q st ps) (S : FnScope N ps (defScope st)) (len : ∀ vs H Q E, sp vs H Q E → vs.length = ps.length)
    (hbody : ∀ (f : Addr) (cdv : Value) (A : Around) (outer : List Env) (s : Shared) (H : Hp) (vs : List V) (Q : VK) (E : XK), Room k (A.deeper (PyProof.Rows.envOfC q (defScope st) s.heap.objs.size f cdv)) → sp vs H Q E →
      ∃ t, PSs (cxOf CX0 P w K mg base N q (defScope st) f cdv A outer s H E).nox (defBody st) t ∧ t { nx := fun _ H' => Q .non H', rt := Q } (start N vs) H) : MetC P w K mg base C m (k + 1) ps sp := by
  obtain ⟨f, fd, c, me, F, b⟩ := D
  exact ⟨f, fd, c, me, F.ok S len (hbody f), b⟩
theorem DnI.ok {x q : Str} {C : Addr} {st : Stmt} {N ps : List Str} {k : Nat} {sp : Sp} (D : DnI K mg x q C st ps) (S : FnScope N ps (defScope st)) (len : ∀ vs H Q E, sp vs H Q E → vs.length = ps.length)
    (hbody : ∀ (f : Addr) (cdv : Value) (A : Around) (outer : List Env) (s : Shared) (H : Hp) (vs : List V) (Q : VK) (E : XK), Room k (A.deeper (PyProof.Rows.envOfC q (defScope st) s.heap.objs.size f cdv)) → sp vs H Q E →
      ∃ t, PSs (cxOf CX0 P w K mg base N q (defScope st) f cdv A outer s H E).nox (defBody st) t ∧ t { nx := fun _ H' => Q .non H', rt := Q } (start N vs) H) : MakC P w K mg base x C (k + 1) ps sp := by
  obtain ⟨f, fd, mk, F, m, b⟩ := D
  exact ⟨f, fd, mk, F.ok S len (hbody f), m, b⟩
theorem pe_mtC {X : Cx} {C : Addr} {m : Str} {k : Nat} {ps : List Str} {sp : Sp} {o e : Expr} {es : List Expr} {ta : TE} {t : TA} {pos apos : Pos} {pl : Sem Bool} (G : MetC X.prog X.w X.K X.mg X.base C m k ps sp) (hr : Room k X.A) (he : PE X o ta) (ha : PA X (e :: es) t)
    (hst : starEach (e :: es) X.env = (false, eval e X.env) :: starEach es X.env := by rfl) (hpl : (backTo pos (starEach es X.env)).any (·.1) = false := by rfl)
    (ht : eval (.Call (.Attribute o m apos) (e :: es) [] pos) X.env = (do
      let ov ← eval o X.env
      standAt apos.atName
      let (f, first) ← holding [ov] (getMethod ov m pl)
      callWith pos f first (backTo pos (starEach (e :: es) X.env)) (backToKw pos (keywordEach [] X.env))) := by rfl) :
    PE X (.Call (.Attribute o m apos) (e :: es) [] pos) (tMeth C m sp [] E0 ta t) := by
  obtain ⟨f, fd, c, me, F, b⟩ := G
  exact pe_meth (pl := pl) he c me F hr b .nil pass0 ha hst hpl ht
theorem pe_mtC0 {X : Cx} {C : Addr} {m : Str} {k : Nat} {ps : List Str} {sp : Sp} {o : Expr} {ta : TE} {pos apos : Pos} {pl : Sem Bool} (G : MetC X.prog X.w X.K X.mg X.base C m k ps sp) (hr : Room k X.A) (he : PE X o ta)
    (ht : eval (.Call (.Attribute o m apos) [] [] pos) X.env = (do
      let ov ← eval o X.env
      standAt apos.atName
      let (f, first) ← holding [ov] (getMethod ov m pl)
      callWith pos f first (backTo pos (starEach [] X.env)) (backToKw pos (keywordEach [] X.env))) := by rfl) :
    PE X (.Call (.Attribute o m apos) [] [] pos) (tMeth C m sp [] E0 ta tNil) := by
  obtain ⟨f, fd, c, me, F, b⟩ := G
  exact pe_meth0 (pl := pl) he c me F hr b .nil pass0 ht
theorem pe_mkC {X : Cx} {x : Str} {C : Addr} {k : Nat} {ps : List Str} {sp : Sp} {e : Expr} {es : List Expr} {t : TA} {p pos : Pos} (G : MakC X.prog X.w X.K X.mg X.base x C k ps sp) (hr : Room (k + 1) X.A) (hg : Gl X x) (ha : PA X (e :: es) t)
    (hdb : (x == ("__debug__" : Str)) = false := by decide) (he : starEach (e :: es) X.env = (false, eval e X.env) :: starEach es X.env := by rfl) (hpl : (backTo pos (starEach es X.env)).any (·.1) = false := by rfl) : PE X (.Call (.Name x p) (e :: es) [] pos) (tMake C sp [] E0 t) := by
  obtain ⟨f, fd, mk, F, m, b⟩ := G
  exact pe_make mk F hr hg m b .nil pass0 ha hdb he hpl
end
section
variable {K : PySem.W.Frag} {σ : L2.St} {H : Hp} {Q : VK} {v x y : V} {te tb : TE} {tr : TA} {C : Addr} {f : Str} {nx bk ct : L2.St → Hp → Prop} {rt : VK}
def fldK (K : PySem.W.Frag) (f : Str) (Q : VK) (x : V) (H : Hp) : Prop := ∃ a C dx fs v, x = .ref a ∧ H a = some (.ins C dx fs) ∧ Cls K C ∧ NoAttr K C f ∧ fs.lookup f = some v ∧ Q v H
theorem r_fld (q : te σ H fun x H1 => fldK K f Q x H1) : tFld K te f σ H Q := q
theorem q_fld {a dx : Addr} {fs : List (Str × V)} (h : H a = some (.ins C dx fs)) (c : Cls K C) (n : NoAttr K C f) (l : fs.lookup f = some v) (q : Q v H) : fldK K f Q (.ref a) H := ⟨a, C, dx, fs, v, rfl, h, c, n, l, q⟩
def metK (C : Addr) (m : Str) (sp : Sp) (tr : TA) (σ : L2.St) (Q : VK) (x : V) (H : Hp) : Prop := ∃ a dx fs, x = .ref a ∧ H a = some (.ins C dx fs) ∧ fs.lookup m = none ∧ tr σ H fun vs H2 => sp (x :: (vs ++ [])) H2 Q E0
theorem r_meth {m : Str} {sp : Sp} (q : te σ H fun x H1 => metK C m sp tr σ Q x H1) : tMeth C m sp [] E0 te tr σ H Q := q
theorem q_meth {m : Str} {sp : Sp} {a dx : Addr} {fs : List (Str × V)} (h : H a = some (.ins C dx fs)) (l : fs.lookup m = none) (q : tr σ H fun vs H2 => sp (.ref a :: vs) H2 Q E0) : metK C m sp tr σ Q (.ref a) H := by
  refine ⟨a, dx, fs, rfl, h, l, ?_⟩
  have e : (fun (vs : List V) (H2 : Hp) => sp (.ref a :: (vs ++ [])) H2 Q E0) = fun vs H2 => sp (.ref a :: vs) H2 Q E0 := by
    funext vs H2
    rw [List.append_nil]
  rw [e]
  exact q
def sfldK (K : PySem.W.Frag) (f : Str) (N : Hp → Prop) (y x : V) (H : Hp) : Prop := ∃ a C dx fs, x = .ref a ∧ H a = some (.ins C dx fs) ∧ Cls K C ∧ NoAttr K C f ∧ fs.length < 1000 ∧ N (upd H a (.ins C dx (putF f y fs)))
theorem r_sfld (q : tb σ H fun y H1 => te σ H1 fun x H2 => sfldK K f (nx σ) y x H2) : sFld K te tb f ⟨nx, rt, bk, ct⟩ σ H := q
theorem q_sfld {N : Hp → Prop} {a dx : Addr} {fs fs' : List (Str × V)} (h : H a = some (.ins C dx fs)) (c : Cls K C) (n : NoAttr K C f) (l : fs.length < 1000) (e : putF f y fs = fs') (q : N (upd H a (.ins C dx fs'))) : sfldK K f N y (.ref a) H := ⟨a, C, dx, fs, rfl, h, c, n, l, by rw [e]; exact q⟩
def afldK (K : PySem.W.Frag) (f : Str) (tb : TE) (rd : V → V → Hp → VK → Prop) (nx : L2.St → Hp → Prop) (σ : L2.St) (x : V) (H1 : Hp) : Prop := ∃ a C dx fs v, x = .ref a ∧ H1 a = some (.ins C dx fs) ∧ Cls K C ∧ NoAttr K C f ∧ fs.lookup f = some v ∧
  tb σ H1 fun y H2 => rd v y H2 fun z H3 => ∃ dx' fs', H3 a = some (.ins C dx' fs') ∧ fs'.length < 1000 ∧ nx σ (upd H3 a (.ins C dx' (putF f z fs')))
theorem r_afld {rd : V → V → Hp → VK → Prop} (q : te σ H fun x H1 => afldK K f tb rd nx σ x H1) : sFldAug K te tb rd f ⟨nx, rt, bk, ct⟩ σ H := q
theorem q_afld {rd : V → V → Hp → VK → Prop} {a dx : Addr} {fs : List (Str × V)} (h : H a = some (.ins C dx fs)) (c : Cls K C) (n : NoAttr K C f) (l : fs.lookup f = some v)
    (q : tb σ H fun y H2 => rd v y H2 fun z H3 => ∃ dx' fs', H3 a = some (.ins C dx' fs') ∧ fs'.length < 1000 ∧ nx σ (upd H3 a (.ins C dx' (putF f z fs')))) : afldK K f tb rd nx σ (.ref a) H := ⟨a, C, dx, fs, v, rfl, h, c, n, l, q⟩
def makK (C : Addr) (sp : Sp) (Q : VK) (vs : List V) (H : Hp) : Prop := ∀ x dx, H x = none → H dx = none → dx ≠ x → sp (.ref x :: vs) (upd (upd H dx (.own x)) x (.ins C dx [])) (fun v H2 => v = .non ∧ Q (.ref x) H2) E0
theorem r_make {sp : Sp} (q : tr σ H fun vs H1 => makK C sp Q vs H1) : tMake C sp [] E0 tr σ H Q := by
  have e : (fun (vs : List V) (H1 : Hp) => ∀ x dx, H1 x = none → H1 dx = none → dx ≠ x → sp (.ref x :: (vs ++ [])) (upd (upd H1 dx (.own x)) x (.ins C dx [])) (fun v H2 => v = .non ∧ Q (.ref x) H2) E0) = fun vs H1 => makK C sp Q vs H1 := by
    funext vs H1
    rw [List.append_nil]
    rfl
  show tr σ H _
  rw [e]
  exact q
theorem q_addF {i j : Int} (q : Q (.int (i + j)) H) : rAdd (.int i) (.int j) H Q := ⟨i, j, rfl, rfl, q⟩
theorem lk_hd {r : List (Str × V)} : List.lookup f ((f, v) :: r) = some v := by simp [List.lookup]
theorem lk_tl {g : Str} {u : V} {r : List (Str × V)} (h : decide (f = g) = false) : List.lookup f ((g, u) :: r) = List.lookup f r := by
  have h' : ¬ f = g := of_decide_eq_false h
  have h2 : (f == g) = false := by simpa using h'
  simp [List.lookup, h2]
theorem lk_tl' {g : Str} {u : V} {r : List (Str × V)} {o : Option V} (h : decide (f = g) = false) (q : List.lookup f r = o) : List.lookup f ((g, u) :: r) = o := (lk_tl h).trans q
theorem put_nil : putF f v [] = [(f, v)] := rfl
theorem put_hd {u : V} {r : List (Str × V)} : putF f v ((f, u) :: r) = (f, v) :: r := by
  show (if f = f then _ else _) = _
  rw [if_pos rfl]
theorem put_tl {g : Str} {u : V} {r r' : List (Str × V)} (h : decide (g = f) = false) (q : putF f v r = r') : putF f v ((g, u) :: r) = (g, u) :: r' := by
  show (if g = f then _ else _) = _
  rw [if_neg (of_decide_eq_false h), q]
end
local macro_rules | `(tactic| subst "lk") => `(tactic| (refine lk_tl' (by decide +kernel) ?_; subst "lk"))
local macro_rules | `(tactic| subst "lk") => `(tactic| exact rfl)
local macro_rules | `(tactic| subst "lk") => `(tactic| exact lk_hd)
local macro_rules | `(tactic| subst "put") => `(tactic| (refine put_tl (by decide +kernel) ?_; subst "put"))
local macro_rules | `(tactic| subst "put") => `(tactic| exact put_hd)
local macro_rules | `(tactic| subst "put") => `(tactic| exact put_nil)
local macro_rules | `(tactic| subst "cls") => `(tactic| assumption)
local macro_rules | `(tactic| injection "own") => `(tactic| with_reducible refine q_addF ?_)
local macro_rules | `(tactic| injection "own") => `(tactic| ((with_reducible refine q_afld (C := ?C) (dx := ?dx) (fs := ?fs) (v := ?v) ?h ?c ?n ?l ?_); (case h => exists "lift"); (case c => subst "cls"); (case n => subst "cls"); (case l => subst "lk")))
local macro_rules | `(tactic| injection "own") => `(tactic| with_reducible refine r_afld ?_)
local macro_rules | `(tactic| injection "own") => `(tactic| with_reducible refine r_sfld ?_)
local macro_rules | `(tactic| injection "own") => `(tactic| ((with_reducible refine q_meth (dx := ?dx) (fs := ?fs) ?h ?l ?_); (case h => exists "lift"); (case l => subst "lk")))
local macro_rules | `(tactic| injection "own") => `(tactic| with_reducible refine r_meth ?_)
local macro_rules | `(tactic| injection "own") => `(tactic| ((with_reducible refine q_fld (C := ?C) (dx := ?dx) (fs := ?fs) (v := ?v) ?h ?c ?n ?l ?_); (case h => exists "lift"); (case c => subst "cls"); (case n => subst "cls"); (case l => subst "lk")))
local macro_rules | `(tactic| injection "own") => `(tactic| with_reducible refine r_make ?_)
local macro_rules | `(tactic| injection "own") => `(tactic| with_reducible refine r_fld ?_)
abbrev s__law_state : Stmt := topS 17
theorem sc__law_state : FnScope ["script", "seed", "cell"] ["script"] (defScope s__law_state) := ⟨rfl, rfl, rfl, by decide +kernel, rfl, by decide +kernel, by decide +kernel⟩
abbrev p__law_state : List Str := ["script"]
abbrev s__law_draw : Stmt := topS 18
theorem sc__law_draw : FnScope ["state", "many", "cells", "mixed", "number"] ["state", "many"] (defScope s__law_draw) := ⟨rfl, rfl, rfl, by decide +kernel, rfl, by decide +kernel, by decide +kernel⟩
abbrev p__law_draw : List Str := ["state", "many"]
abbrev s__law_pick : Stmt := topS 19
theorem sc__law_pick : FnScope ["state", "row"] ["state", "row"] (defScope s__law_pick) := ⟨rfl, rfl, rfl, by decide +kernel, rfl, by decide +kernel, by decide +kernel⟩
abbrev p__law_pick : List Str := ["state", "row"]
/-! ### the draws' state -/
structure StOk (st c : Addr) (H : Hp) : Prop where
  ex : ∃ (ns : List Int) (s : Int), H st = some (.lst [.ref c, .int s]) ∧ H c = some (.lst (ns.map V.int)) ∧ (∀ n ∈ ns, 0 ≤ n) ∧ 0 ≤ s ∧ s < 2147483648
  ne : c ≠ st
theorem st_ex {st c : Addr} {H H' : Hp} (e : Ex H H') (h : StOk st c H) : StOk st c H' := by
  obtain ⟨⟨ns, s, a, b, d⟩, n⟩ := h
  exact ⟨⟨ns, s, e _ _ a, e _ _ b, d⟩, n⟩
/-- a fresh address is neither -/
theorem st_fresh {st c p : Addr} {H : Hp} (h : StOk st c H) (hp : H p = none) : p ∉ [st, c] := by
  obtain ⟨⟨ns, s, a, b, d⟩, n⟩ := h
  simp only [List.mem_cons, List.not_mem_nil, or_false, not_or]
  exact ⟨(ne_of_none a hp).symm, (ne_of_none b hp).symm⟩
/-! ### heaps, further: one object changed, the rest as it was -/
theorem q_tyLs {K : PySem.W.Frag} {H : Hp} {p : Addr} {xs : List V} {A : Prop} (h : SqL K H p xs) (q : A) : tyV K "list" (.ref p) H ∧ A := ⟨Or.inl ⟨rfl, xs, h⟩, q⟩
theorem kp_one {H : Hp} {p : Addr} {o o' : HO} (h : H p = some o) (n : ∀ xs, o ≠ .tup xs) : Kp [p] H (upd H p o') := Kp.set (List.mem_singleton.mpr rfl) (fun xs z => by rw [h] at z; exact n xs (Option.some.inj z)) rfl
theorem nin_c {b a : Addr} {M : List Addr} (h : b ≠ a) (t : b ∉ M) : b ∉ a :: M := fun z => by
  rcases List.mem_cons.mp z with z | z
  · exact h z
  · exact t z
theorem ne_nw {H : Hp} {a b : Addr} {o : HO} (h : H b = some o) (hp : H a = none) : b ≠ a := ne_of_none h hp
theorem ne_knd {H : Hp} {a b : Addr} {o u : HO} (h : H a = some o) (h' : H b = some u) (n : o ≠ u) : a ≠ b := ne_of h h' n
theorem kp_sub1 {H H' : Hp} {M N : List Addr} (k : Kp M H H') (s : ∀ x, x ∈ M → x ∈ N) : Kp N H H' := k.sub s
theorem sub_hd1 {D : Addr} {M : List Addr} : ∀ x, x ∈ [D] → x ∈ D :: M := fun x h => by rw [List.mem_singleton.mp h]; exact List.mem_cons_self ..
theorem kp_fresh {M N : List Addr} {H H1 H' : Hp} (k : Kp M H H1) (k2 : Kp N H1 H') (f : ∀ x, x ∈ N → x ∈ M ∨ H x = none) : Kp M H H' := ⟨fun a xs h => k2.tup _ _ (k.tup _ _ h), fun a o n h => k2.out _ _ (fun z => by
  rcases f a z with q | q
  · exact n q
  · rw [q] at h; cases h) (k.out _ _ n h)⟩
theorem fsome {H : Hp} {D : Addr} {o : HO} (h : H D = some o) : H D ≠ none := fun z => by rw [h] at z; cases z
section
variable {K : PySem.W.Frag} {σ : L2.St} {H : Hp} {Q : VK} {v x y : V} {te tb : TE} {tr : TA} {C : Addr} {f : Str} {nx bk ct : L2.St → Hp → Prop} {rt : VK}
theorem q_appN {l : Addr} {xs : List V} (h : H l = some (.lst xs)) (hz : xs.length < 100000) (q : ∀ Hn, Kp [l] H Hn → Hn l = some (.lst (xs ++ [y])) → Q .non Hn) : rAppend (.ref l) [y] H Q := q_append h hz (q _ (kp_one h (by intro _ z; cases z)) upd_same)
theorem q_sfldN {N : Hp → Prop} {a dx : Addr} {fs fs' : List (Str × V)} (h : H a = some (.ins C dx fs)) (c : Cls K C) (n : NoAttr K C f) (l : fs.length < 1000) (e : putF f y fs = fs') (q : ∀ Hn, Kp [a] H Hn → Hn a = some (.ins C dx fs') → N Hn) : sfldK K f N y (.ref a) H :=
  q_sfld h c n l e (q _ (kp_one h (by intro _ z; cases z)) upd_same)
theorem q_pop0N {l : Addr} {xs : List V} (h : H l = some (.lst (x :: xs))) (q : ∀ Hn, Kp [l] H Hn → Hn l = some (.lst xs) → Q x Hn) : rPopAt (.ref l) [.int 0] H Q := q_pop0 h (q _ (kp_one h (by intro _ z; cases z)) upd_same)
theorem q_setLN {p : Addr} {xs : List V} {k : Int} {j : Nat} {QH : Hp → Prop} (h : H p = some (.lst xs)) (hj : ixN xs.length k = some j) (q : ∀ Hn, Kp [p] H Hn → Hn p = some (.lst (xs.set j v)) → QH Hn) : rSetL (.ref p) (.int k) v H QH := q_setL h hj (q _ (kp_one h (by intro _ z; cases z)) upd_same)
theorem q_dgetI {p : Addr} {kvs : List (Key × V)} {n : Int} {B : V → Prop} (h : H p = some (.dK kvs)) (hl : valV kvs (Sum.inl n) = some v) (q : B v) : ∃ a v', V.ref p = .ref a ∧ DGet H a (.int n) (some v') ∧ B v' :=
  ⟨p, v, rfl, by rw [← hl]; exact DGet.k (k := Sum.inl n) h, q⟩
theorem f_dput {td ty tv : TE} (q : tv σ H fun v H1 => td σ H1 fun x H2 => ty σ H2 fun y H3 => ∃ a H4, x = .ref a ∧ DPut H3 a y v H4 ∧ nx σ H4) : sDPut td ty tv ⟨nx, rt, bk, ct⟩ σ H := q
theorem q_dputI {p : Addr} {kvs : List (Key × V)} {n : Int} {B : Hp → Prop} (h : H p = some (.dK kvs)) (hl : kvs.length ≤ 1000) (q : ∀ Hn, Kp [p] H Hn → Hn p = some (.dK (putK kvs (Sum.inl n) v)) → B Hn) : ∃ a H', V.ref p = .ref a ∧ DPut H a (.int n) v H' ∧ B H' :=
  ⟨p, _, rfl, DPut.k (k := Sum.inl n) h (sl1000' (by omega)), q _ (kp_one h (by intro _ z; cases z)) upd_same⟩
theorem q_dputS {p : Addr} {kvs : List (Key × V)} {z : Str} {B : Hp → Prop} (h : H p = some (.dK kvs)) (hl : kvs.length ≤ 1000) (q : ∀ Hn, Kp [p] H Hn → Hn p = some (.dK (putK kvs (Sum.inr z) v)) → B Hn) : ∃ a H', V.ref p = .ref a ∧ DPut H a (.str z) v H' ∧ B H' :=
  ⟨p, _, rfl, DPut.k (k := Sum.inr z) h (sl1000' (by omega)), q _ (kp_one h (by intro _ z; cases z)) upd_same⟩
theorem q_truC {B : Bool → Prop} {a : Addr} {xs : List V} (h : SqL K H a (x :: xs)) (q : B true) : ∃ k, TruV K (.ref a) H k ∧ B k := ⟨_, .inl ⟨_, h, rfl⟩, q⟩
theorem q_truN {B : Bool → Prop} {a : Addr} (h : SqL K H a []) (q : B false) : ∃ k, TruV K (.ref a) H k ∧ B k := ⟨_, .inl ⟨_, h, rfl⟩, q⟩
theorem f_truth {QT : Bool → Hp → Prop} (q : te σ H fun x H' => ∃ k, TruV K x H' k ∧ QT k H') : (fun σ H (Q : Bool → Hp → Prop) => te σ H fun x H' => ∃ k, TruV K x H' k ∧ Q k H') σ H QT := q
theorem q_isiL {p : Addr} {xs : List V} (h : H p = some (.lst xs)) (q : Q (.bl true) H) : rIsi K [.ref p, .ty "list"] H Q := q_isi (.lst h) (kit_ty (r := true) (by decide +kernel)) q
theorem q_isiTp {p : Addr} {xs : List V} (h : H p = some (.tup xs)) (q : Q (.bl true) H) : rIsi K [.ref p, .ty "tuple"] H Q := q_isi (.tup h) (kit_ty (r := true) (by decide +kernel)) q
theorem q_isiLT {p : Addr} {xs : List V} (h : H p = some (.tup xs)) (q : Q (.bl false) H) : rIsi K [.ref p, .ty "list"] H Q := q_isi (.tup h) (kit_ty (r := false) (by decide +kernel)) q
theorem q_isiBB {b : Bool} (q : Q (.bl true) H) : rIsi K [.bl b, .ty "bool"] H Q := q_isi (.bl b) (kit_ty (by decide +kernel)) q
end
local macro_rules | `(tactic| exists "nin") => `(tactic| (refine nin_c (by (first | exists "ne1" | fail)) ?_; exists "nin"))
local macro_rules | `(tactic| exists "nin") => `(tactic| (refine st_fresh (H := ?H) ?a ?b; (case b => assumption); (case a => subst "st_ok")))
local macro_rules | `(tactic| exists "nin") => `(tactic| exact List.not_mem_nil)
local macro_rules | `(tactic| exists "nin") => `(tactic| assumption)
local macro_rules | `(tactic| exists "ne1") => `(tactic| (refine Ne.symm ?_; refine ne_nw (H := ?hh) (o := ?u) ?a ?b; (case b => assumption); (case a => exists "lift")))
local macro_rules | `(tactic| exists "ne1") => `(tactic| (refine ne_nw (H := ?hh) (o := ?u) ?a ?b; (case b => assumption); (case a => exists "lift")))
local macro_rules | `(tactic| exists "ne1") => `(tactic| exact Ne.symm (by assumption))
local macro_rules | `(tactic| exists "ne1") => `(tactic| assumption)
local macro_rules | `(tactic| subst "putx") => `(tactic| (refine put_tl (r' := ?rr) ?hh ?qq; (case hh => decide +kernel); (case qq => subst "putx")))
local macro_rules | `(tactic| subst "putx") => `(tactic| exact put_hd)
local macro_rules | `(tactic| subst "putx") => `(tactic| exact put_nil)
local macro_rules | `(tactic| subst "len2") => `(tactic| (simp only [List.length_cons, List.length_nil, List.length_append, List.length_map, List.length_take]; omega))
local macro_rules | `(tactic| subst "len2") => `(tactic| exact of_decide_eq_true rfl)
local macro_rules | `(tactic| subst "len2") => `(tactic| omega)
local macro_rules | `(tactic| subst "len2") => `(tactic| decide)
theorem r_dnewN {σ : L2.St} {H : Hp} {Q : VK} (q : ∀ p Hn, H p = none → Ex H Hn → Hn p = some (.dK []) → Q (.ref p) Hn) : tDNewK σ H Q := fun p hp => q p _ hp (Ex.mk hp rfl) upd_same
set_option hygiene false in
local macro_rules | `(tactic| subst "i_upd") => `(tactic| intro Hn ku hu)
local macro_rules | `(tactic| injection "own") => `(tactic| with_reducible refine q_isiBB ?_)
local macro_rules | `(tactic| injection "own") => `(tactic| ((with_reducible refine q_isiLT (xs := ?xs) ?h ?_); (case h => exists "lift")))
local macro_rules | `(tactic| injection "own") => `(tactic| ((with_reducible refine q_isiTp (xs := ?xs) ?h ?_); (case h => exists "lift")))
local macro_rules | `(tactic| injection "own") => `(tactic| ((with_reducible refine q_isiL (xs := ?xs) ?h ?_); (case h => exists "lift")))
local macro_rules | `(tactic| injection "own") => `(tactic| ((with_reducible refine q_truN ?h ?_); (case h => exists "sq")))
local macro_rules | `(tactic| injection "own") => `(tactic| ((with_reducible refine q_truC (x := ?x) (xs := ?xs) ?h ?_); (case h => exists "sq")))
local macro_rules | `(tactic| injection "own") => `(tactic| (with_reducible refine r_dnewN ?_; subst "i_new"))
local macro_rules | `(tactic| injection "own") => `(tactic| ((with_reducible refine q_rng1 ?h ?_); (case h => simp only [List.length_map]; omega)))
local macro_rules | `(tactic| injection "own") => `(tactic| with_reducible refine f_dput ?_)
local macro_rules | `(tactic| injection "own") => `(tactic| ((with_reducible refine q_sfldN (C := ?C) (dx := ?dx) (fs := ?fs) (fs' := ?fs') ?h ?c ?n ?l ?e ?_); (case h => exists "lift"); (case c => subst "cls"); (case n => subst "cls"); (case l => subst "len2"); (case e => subst "putx"); subst "i_upd"))
local macro_rules | `(tactic| injection "own") => `(tactic| ((with_reducible refine q_pop0N (x := ?x) (xs := ?xs) ?h ?_); (case h => exists "lift"); subst "i_upd"))
local macro_rules | `(tactic| injection "own") => `(tactic| ((with_reducible refine q_setLN (xs := ?xs) (j := ?j) ?h ?e ?_); (case h => exists "lift"); (case e => first | exact rfl | exact ix0); subst "i_upd"))
local macro_rules | `(tactic| injection "own") => `(tactic| ((with_reducible refine q_appN (xs := ?xs) ?h ?z ?_); (case h => exists "lift"); (case z => subst "len2"); subst "i_upd"))
local macro_rules | `(tactic| injection "own") => `(tactic| ((with_reducible refine q_tyLs (xs := ?xs) ?h ?_); (case h => exists "sq")))
/-! ### data of tuples -/
mutual
inductive Tp (H : Hp) : V → PyData → Prop
  | non : Tp H .non .none
  | bl (b : Bool) : Tp H (.bl b) (.bool b)
  | int (i : Int) : Tp H (.int i) (.int i)
  | str (x : Str) : Tp H (.str x) (.str x)
  | tup {a : Addr} {xs : List V} {ds : List PyData} : H a = some (.tup xs) → Tps H xs ds → Tp H (.ref a) (.tuple ds)
inductive Tps (H : Hp) : List V → List PyData → Prop
  | nil : Tps H [] []
  | cons {v : V} {vs : List V} {d : PyData} {ds : List PyData} : Tp H v d → Tps H vs ds → Tps H (v :: vs) (d :: ds)
end
mutual
theorem tp_kp {M : List Addr} {H H' : Hp} (k : Kp M H H') : ∀ {v : V} {d : PyData}, Tp H v d → Tp H' v d
  | _, _, .non => .non
  | _, _, .bl b => .bl b
  | _, _, .int i => .int i
  | _, _, .str x => .str x
  | _, _, .tup h t => .tup (k.tup _ _ h) (tps_kp k t)
theorem tps_kp {M : List Addr} {H H' : Hp} (k : Kp M H H') : ∀ {vs : List V} {ds : List PyData}, Tps H vs ds → Tps H' vs ds
  | _, _, .nil => .nil
  | _, _, .cons h t => .cons (tp_kp k h) (tps_kp k t)
end
theorem tp_ex {H H' : Hp} (k : Ex H H') {v : V} {d : PyData} (h : Tp H v d) : Tp H' v d := tp_kp (M := []) k.kp h
theorem tps_ex {H H' : Hp} (k : Ex H H') {v : List V} {d : List PyData} (h : Tps H v d) : Tps H' v d := tps_kp (M := []) k.kp h
mutual
theorem tp_dp {K : PySem.W.Frag} {H : Hp} : ∀ {v : V} {d : PyData}, Tp H v d → Dp K H v d
  | _, _, .non => .non
  | _, _, .bl b => .bl b
  | _, _, .int i => .int i
  | _, _, .str x => .str x
  | _, _, .tup h t => .tup (sqt h) (tps_dp t)
theorem tps_dp {K : PySem.W.Frag} {H : Hp} : ∀ {vs : List V} {ds : List PyData}, Tps H vs ds → DpAll K H vs ds
  | _, _, .nil => .nil
  | _, _, .cons h t => .cons (tp_dp h) (tps_dp t)
end
theorem tps_app {H : Hp} : ∀ {vs ws : List V} {ds es : List PyData}, Tps H vs ds → Tps H ws es → Tps H (vs ++ ws) (ds ++ es)
  | _, _, _, _, .nil, h => h
  | _, _, _, _, .cons a t, h => .cons a (tps_app t h)
theorem tps_len {H : Hp} : ∀ {vs : List V} {ds : List PyData}, Tps H vs ds → vs.length = ds.length
  | _, _, .nil => rfl
  | _, _, .cons _ t => by rw [List.length_cons, List.length_cons, tps_len t]
def fInts (ns : List Int) : List PyData := ns.map PyData.int
theorem tps_ints {H : Hp} : ∀ ns : List Int, Tps H (ns.map V.int) (fInts ns)
  | [] => .nil
  | n :: r => .cons (.int n) (tps_ints r)
theorem fints_dp {K : PySem.W.Frag} {H : Hp} : ∀ ns : List Int, DpAll K H (ns.map V.int) (fInts ns)
  | [] => .nil
  | n :: r => .cons (.int n) (fints_dp r)
theorem fints_lay : ∀ ns : List Int, PyData.canLayAll0 (fInts ns) = true
  | [] => by simp [fInts, PyData.canLayAll0]
  | c :: r => by
    have h := fints_lay r
    simp only [fInts] at h
    simp [fInts, PyData.canLayAll0, PyData.canLay0, h]
theorem fints_depth : ∀ ns : List Int, PyData.depthAll (fInts ns) = 0
  | [] => by simp [fInts, PyData.depthAll]
  | c :: r => by
    have h := fints_depth r
    simp only [fInts] at h
    simp [fInts, PyData.depthAll, PyData.depth, h]
theorem flay_map {α : Type} {f : α → PyData} : ∀ xs : List α, (∀ x ∈ xs, (f x).canLay0 = true) → PyData.canLayAll0 (xs.map f) = true
  | [], _ => by simp [PyData.canLayAll0]
  | c :: r, h => by simp [PyData.canLayAll0, h c (List.mem_cons_self ..), flay_map r fun x hx => h x (List.mem_cons_of_mem _ hx)]
theorem fdepth_map {α : Type} {f : α → PyData} {b : Nat} : ∀ xs : List α, (∀ x ∈ xs, (f x).depth ≤ b) → PyData.depthAll (xs.map f) ≤ b
  | [], _ => by simp [PyData.depthAll]
  | c :: r, h => by
    have h1 := h c (List.mem_cons_self ..)
    have h2 := fdepth_map r fun x hx => h x (List.mem_cons_of_mem _ hx)
    simp only [List.map_cons, PyData.depthAll]
    omega
theorem flist_shaped {ds : List PyData} (h1 : PyData.canLayAll0 ds = true) (h2 : PyData.depthAll ds ≤ 20) : SeqAt.shaped (.list ds) = true := by
  have h3 : PyData.depthAll ds + 1 ≤ 64 := by omega
  simp [SeqAt.shaped, PyData.canLay0, PyData.depth, h1, h3]
theorem fq_eqDat {K : PySem.W.Frag} {H : Hp} {Q : VK} {a b : V} {ds : List PyData} (h1 : Dp K H a (.list ds)) (h2 : Dp K H b (.list ds)) (l : PyData.canLayAll0 ds = true) (d : PyData.depthAll ds ≤ 20) (q : Q (.bl true) H) : rEqA K a b H Q :=
  .inr ⟨_, _, h1, h2, flist_shaped l d, flist_shaped l d, by rw [SeqAt.eqv_refl _ (by simp [PyData.canLay0, l])]; exact q⟩
theorem fq_neDat {K : PySem.W.Frag} {H : Hp} {Q : VK} {a b : V} {ds : List PyData} (h1 : Dp K H a (.list ds)) (h2 : Dp K H b (.list ds)) (l : PyData.canLayAll0 ds = true) (d : PyData.depthAll ds ≤ 20) (q : Q (.bl false) H) : rNeA K a b H Q :=
  .inr ⟨_, _, h1, h2, flist_shaped l d, flist_shaped l d, by rw [SeqAt.eqv_refl _ (by simp [PyData.canLay0, l])]; exact q⟩
theorem fq_neInts {K : PySem.W.Frag} {H : Hp} {Q : VK} {a b : Addr} {ns : List Int} (h1 : H a = some (.lst (ns.map V.int))) (h2 : H b = some (.lst (ns.map V.int))) (q : Q (.bl false) H) : rNeA K (.ref a) (.ref b) H Q :=
  fq_neDat (.lst (sql h1) (fints_dp ns)) (.lst (sql h2) (fints_dp ns)) (fints_lay ns) (by rw [fints_depth]; omega) q
theorem fq_eqInts {K : PySem.W.Frag} {H : Hp} {Q : VK} {a b : Addr} {ns : List Int} (h1 : H a = some (.lst (ns.map V.int))) (h2 : H b = some (.lst (ns.map V.int))) (q : Q (.bl true) H) : rEqA K (.ref a) (.ref b) H Q :=
  fq_eqDat (.lst (sql h1) (fints_dp ns)) (.lst (sql h2) (fints_dp ns)) (fints_lay ns) (by rw [fints_depth]; omega) q
local macro_rules | `(tactic| subst "tp") => `(tactic| (refine tp_kp (by assumption) ?_; subst "tp"))
local macro_rules | `(tactic| subst "tp") => `(tactic| (refine tp_ex (by assumption) ?_; subst "tp"))
local macro_rules | `(tactic| subst "tp") => `(tactic| (refine Tp.tup (xs := ?xs) ?h ?t; (case h => exists "lift"); (case t => subst "tps")))
local macro_rules | `(tactic| subst "tp") => `(tactic| exact Tp.bl _)
local macro_rules | `(tactic| subst "tp") => `(tactic| exact Tp.non)
local macro_rules | `(tactic| subst "tp") => `(tactic| exact Tp.str _)
local macro_rules | `(tactic| subst "tp") => `(tactic| exact Tp.int _)
local macro_rules | `(tactic| subst "tp") => `(tactic| assumption)
local macro_rules | `(tactic| subst "tps") => `(tactic| (refine tps_kp (by assumption) ?_; subst "tps"))
local macro_rules | `(tactic| subst "tps") => `(tactic| (refine tps_ex (by assumption) ?_; subst "tps"))
local macro_rules | `(tactic| subst "tps") => `(tactic| (refine Tps.cons ?h ?t; (case h => subst "tp"); (case t => subst "tps")))
local macro_rules | `(tactic| subst "tps") => `(tactic| exact Tps.nil)
local macro_rules | `(tactic| subst "tps") => `(tactic| assumption)
/-! ### frames over several steps -/
theorem subf_n {M : List Addr} {H : Hp} : ∀ x, x ∈ ([] : List Addr) → x ∈ M ∨ H x = none := fun _ h => absurd h List.not_mem_nil
theorem subf_c {M N : List Addr} {H : Hp} {a : Addr} (h : a ∈ M ∨ H a = none) (t : ∀ x, x ∈ N → x ∈ M ∨ H x = none) : ∀ x, x ∈ a :: N → x ∈ M ∨ H x = none := fun x hx => by
  rcases List.mem_cons.mp hx with rfl | hx
  · exact h
  · exact t x hx
theorem ex_of_kp {H H' : Hp} (k : Kp [] H H') : Ex H H' := fun a o h => k.out a o List.not_mem_nil h
local macro_rules | `(tactic| exists "frees") => `(tactic| (refine free_backK (by assumption) (by (first | exists "nin" | fail)) ?_; exists "frees"))
local macro_rules | `(tactic| exists "frees") => `(tactic| (refine free_back (by assumption) ?_; exists "frees"))
local macro_rules | `(tactic| exists "frees") => `(tactic| assumption)
local macro_rules | `(tactic| subst "mem") => `(tactic| (refine List.mem_cons_of_mem _ ?_; subst "mem"))
local macro_rules | `(tactic| subst "mem") => `(tactic| exact List.mem_cons_self ..)
local macro_rules | `(tactic| subst "subf") => `(tactic| (refine subf_c ?a ?t; (case a => first | (refine Or.inl ?_; subst "mem") | (refine Or.inr ?_; exists "frees") | fail); (case t => subst "subf")))
local macro_rules | `(tactic| subst "subf") => `(tactic| exact subf_n)
local macro_rules | `(tactic| subst "kpx") => `(tactic| (refine kp_fresh ?k (by assumption) ?f; (case f => subst "subf"); (case k => subst "kpx")))
local macro_rules | `(tactic| subst "kpx") => `(tactic| (refine Kp.trans ?_ (Ex.kp (by assumption)); subst "kpx"))
local macro_rules | `(tactic| subst "kpx") => `(tactic| exact Kp.refl _)
local macro_rules | `(tactic| subst "kpx") => `(tactic| assumption)
local macro_rules | `(tactic| subst "exx") => `(tactic| (refine ex_of_kp ?_; subst "kpx"))
local macro_rules | `(tactic| subst "exx") => `(tactic| exact Ex.refl _)
local macro_rules | `(tactic| subst "exx") => `(tactic| assumption)
theorem st_kpx {st c : Addr} {M : List Addr} {H H' : Hp} (k : Kp M H H') (n : ∀ x, x ∈ M → x ∉ [st, c]) (h : StOk st c H) : StOk st c H' := by
  obtain ⟨⟨ns, s, a, b, d⟩, e⟩ := h
  exact ⟨⟨ns, s, k.out _ _ (fun z => n _ z (by simp)) a, k.out _ _ (fun z => n _ z (by simp)) b, d⟩, e⟩
theorem alln_n {S : List Addr} : ∀ x, x ∈ ([] : List Addr) → x ∉ S := fun _ h => absurd h List.not_mem_nil
theorem alln_c {S M : List Addr} {a : Addr} (h : a ∉ S) (t : ∀ x, x ∈ M → x ∉ S) : ∀ x, x ∈ a :: M → x ∉ S := fun x hx => by
  rcases List.mem_cons.mp hx with rfl | hx
  · exact h
  · exact t x hx
local macro_rules | `(tactic| subst "alln") => `(tactic| (refine alln_c ?a ?t; (case a => exists "nin"); (case t => subst "alln")))
local macro_rules | `(tactic| subst "alln") => `(tactic| exact alln_n)
local macro_rules | `(tactic| subst "alln") => `(tactic| assumption)
local macro_rules | `(tactic| subst "st_ok") => `(tactic| (refine st_kpx (by assumption) ?n ?hh; (case hh => subst "st_ok"); (case n => subst "alln")))
local macro_rules | `(tactic| subst "st_ok") => `(tactic| (refine st_ex (by assumption) ?_; subst "st_ok"))
local macro_rules | `(tactic| subst "st_ok") => `(tactic| assumption)
theorem q_catN {K : PySem.W.Frag} {H : Hp} {Q : VK} {a b : Addr} {xs ys : List V} (h1 : H a = some (.lst xs)) (h2 : H b = some (.lst ys)) (z : xs.length + ys.length ≤ 100000) (q : ∀ p Hn, H p = none → Ex H Hn → Hn p = some (.lst (xs ++ ys)) → Q (.ref p) Hn) : rAddA K (.ref a) (.ref b) H Q :=
  .inr (.inr (.inl ⟨a, b, xs, ys, rfl, rfl, h1, h2, sl1000 z, fun p hp => q p _ hp (Ex.mk hp rfl) upd_same⟩))
local macro_rules | `(tactic| injection "own") => `(tactic| ((with_reducible refine q_catN (xs := ?xs) (ys := ?ys) ?h1 ?h2 ?z ?_); (case h1 => exists "lift"); (case h2 => exists "lift"); (case z => subst "len2"); subst "i_new"))
theorem r_par {σ : L2.St} {H : Hp} {ta : TA} {i j : Nat} {nx bk ct : L2.St → Hp → Prop} {rt : VK} (q : ta σ H fun vs H1 => ∃ v w, vs = [v, w] ∧ nx ((σ.set i (some v)).set j (some w)) H1) : tPar i j ta ⟨nx, rt, bk, ct⟩ σ H := q
theorem q_par {x y : V} {B : V → V → Prop} (q : B x y) : ∃ v w, [x, y] = [v, w] ∧ B v w := ⟨x, y, rfl, q⟩
local macro_rules | `(tactic| injection "own") => `(tactic| with_reducible refine q_par ?_)
local macro_rules | `(tactic| injection "own") => `(tactic| with_reducible refine r_par ?_)
local macro_rules | `(tactic| subst "arx") => `(tactic| (simp only [List.length_cons, List.length_nil, List.length_map, List.length_append]; omega))
local macro_rules | `(tactic| subst "arx") => `(tactic| decide)
local macro_rules | `(tactic| subst "arx") => `(tactic| omega)
local macro_rules | `(tactic| subst "kp") => `(tactic| (refine Kp.trans ?_ (Ex.kp (by assumption)); subst "kp"))
local macro_rules | `(tactic| subst "kp") => `(tactic| (refine Kp.trans ?_ (by assumption); subst "kp"))
local macro_rules | `(tactic| subst "kp") => `(tactic| exact Kp.refl _)
local macro_rules | `(tactic| subst "kp") => `(tactic| assumption)
theorem int_mod (a : Int) {m : Int} (h : 0 < m) : 0 ≤ a % m ∧ a % m < m := ⟨Int.emod_nonneg _ (by omega), Int.emod_lt_of_pos _ h⟩
def sp_state (K : PySem.W.Frag) : Sp := fun vs H Q _ => ∃ (a : Addr) (ns : List Int), vs = [.ref a] ∧ SqL K H a (ns.map V.int) ∧ ns.length ≤ 63 ∧ ∀ st c H', Ex H H' → H st = none → H c = none → StOk st c H' → Q (.ref st) H'
theorem ex_sql {H H' : Hp} {a : Addr} {xs : List V} (e : Ex H H') (h : SqL K H a xs) : SqL K H' a xs := e.same.seq h
theorem abs_nn (i : Int) : 0 ≤ (if i < 0 then -i else i) := by split <;> omega
theorem ok_state (T : Glo K w mg) (D : Dn K mg "_law_state" s__law_state p__law_state) : Cal P w K mg base "_law_state" 1 p__law_state (sp_state K) := by
  refine D.ok sc__law_state (fun vs H Q E h => ?_) (fun f cdv A outer s H vs Q E hr h => ?_)
  · obtain ⟨_, _, rfl, _⟩ := h
    rfl
  obtain ⟨a, ns, rfl, hs, hl, q⟩ := h
  refine ⟨_, (pss_cons (ps_set (i := 1) sc__law_state.nd rfl (by first | exact Or.inl rfl | exact Or.inr rfl) pe_int) (pss_cons (ps_for PassesOwn.never rfl (pi_list (pv 0)) (pg_name (i := 2) sc__law_state.nd rfl (by first | exact Or.inl rfl | exact Or.inr rfl)) (pss_one (ps_set (i := 1) sc__law_state.nd rfl (by first | exact Or.inl rfl | exact Or.inr rfl) (pe_op op_mod (pe_callTy call_intA rfl T.n_int (by decide +kernel) (pa_cons (pe_op op_addA (pe_op op_mul (pv 1) pe_int) (pv 2)) pa_nil)) pe_int)))) (pss_one (ps_ret (pe_lst (pa_cons (pe_lc (own := [("cell", 2)]) (tt := tYes) rfl sc__law_state.nd (pi_list (pv 0)) (blkOk_by (N := ["script", "seed", "cell"]) (sc := defScope s__law_state) (by decide +kernel)) (fun _ _ _ _ _ => (pg_name (i := 2) sc__law_state.nd rfl (by first | exact Or.inl rfl | exact Or.inr rfl))) (fun _ _ _ _ _ => pts_nil) (fun _ _ _ _ _ => (pe_callB call_absA rfl T.n_abs (by decide +kernel) (pa_cons (pv 2) pa_nil)))) (pa_cons (pe_op op_addA (pv 1) pe_int) pa_nil))))))), ?_⟩
  try dsimp only [cxOf, Cx.nox]
  repeat' (first | specialize "st" | fail)
  refine w_list (xs := ns.map V.int) (fun i σ H' => H' = H ∧ ∃ (z : Int) (y : Option V), σ = [some (.ref a), some (.int z), y] ∧ 0 ≤ z ∧ z < 1000003) ?_ ?_ ?_ ?_
  · exact ⟨rfl, 7, none, rfl, by decide, by decide⟩
  · rintro i σ H' _ ⟨rfl, _⟩
    exact hs
  · rintro i x σ H' hx ⟨rfl, z, y, rfl, z0, z1⟩
    rw [List.getElem?_map] at hx
    obtain ⟨n, hn, rfl⟩ := Option.map_eq_some_iff.mp hx
    repeat' (first | specialize "st" | fail)
    refine ⟨rfl, _, some (.int n), rfl, ?_⟩
    exact int_mod _ (by decide)
  · rintro σ H' ⟨rfl, z, y, rfl, z0, z1⟩
    repeat' (first | specialize "st" | fail)
    intro L hL
    refine lc_list (xs := ns.map V.int) (fun i H2 => Ex H' H2 ∧ H2 L = some (.lst ((ns.take i).map fun n => V.int (if n < 0 then -n else n)))) ?_ ?_ ?_ ?_
    · exact ⟨Ex.mk hL rfl, upd_same⟩
    · rintro i H2 _ ⟨e, _⟩
      exact ex_sql e hs
    · rintro i x H2 hx ⟨e, h2⟩
      rw [List.getElem?_map] at hx
      obtain ⟨n, hn, rfl⟩ := Option.map_eq_some_iff.mp hx
      refine ⟨rfl, ?_⟩
      repeat' (first | specialize "st" | fail)
      refine ⟨_, h2, sl1000' ?_, ?_, ?_⟩
      · rw [List.length_map, List.length_take]
        omega
      · intro b u hb
        rw [upd_ne (ne_of_none hb hL)]
        exact e _ _ hb
      · rw [upd_same, List.take_add_one, hn, List.map_append]
        rfl
    · rintro H2 ⟨e, h2⟩
      repeat' (first | specialize "st" | fail)
      rw [List.take_of_length_le (by rw [List.length_map]; exact Nat.le_refl _)] at h2
      refine q p L _ (e.trans ke) (free_back e hp) hL ⟨⟨ns.map fun n => (if n < 0 then -n else n), z + 1, hn, ?_, ?_, by omega, by omega⟩, ?_⟩
      · rw [List.map_map]
        exact ke _ _ h2
      · intro n hn
        obtain ⟨m, _, rfl⟩ := List.mem_map.mp hn
        exact abs_nn m
      · exact ne_of_none h2 hp
def sp_draw : Sp := fun vs H Q _ => ∃ (st c : Addr) (many : Int), vs = [.ref st, .int many] ∧ StOk st c H ∧ 0 < many ∧ many < 1073741824 ∧ ∀ (n : Int) (H' : Hp), 0 ≤ n → n < many → Kp [st, c] H H' → StOk st c H' → Q (.int n) H'
theorem ok_draw (T : Glo K w mg) (D : Dn K mg "_law_draw" s__law_draw p__law_draw) : Cal P w K mg base "_law_draw" 1 p__law_draw sp_draw := by
  refine D.ok sc__law_draw (fun vs H Q E h => ?_) (fun f cdv A outer s H vs Q E hr h => ?_)
  · obtain ⟨_, _, _, rfl, _⟩ := h
    rfl
  obtain ⟨st, c, many, rfl, ⟨⟨ns, z, hst, hc, hn, z0, z1⟩, hne⟩, m0, m1, q⟩ := h
  refine ⟨_, (pss_cons (ps_set (i := 2) sc__law_draw.nd rfl (by first | exact Or.inl rfl | exact Or.inr rfl) (pe_ix ix_seq (pv 0) pe_int (fun _ _ => rfl))) (pss_cons (ps_while PassesOwn.never (PW.pt (pw_and (pt_cmpR op_gt (pe_callB call_lenA rfl T.n_len (by decide +kernel) (pa_cons (pv 2) pa_nil)) pe_int (nomark _)) (pw_and1 (pt_cmpR (op_eqA (hu64 hr)) (pe_ix ix_seq (pv 2) pe_int (fun _ _ => rfl)) pe_int (nomark _))))) (pss_one (ps_expr (pe_bm PySem.F.plainAttrs_list PySem.F.slot_list_pop PySem.F.type_list_pop mt_popAt (pv 2) (pa_cons pe_int pa_nil))))) (pss_cons (ps_if (pt_cmpR op_gt (pe_callB call_lenA rfl T.n_len (by decide +kernel) (pa_cons (pv 2) pa_nil)) pe_int (nomark _)) (pss_cons (ps_set (i := 4) sc__law_draw.nd rfl (by first | exact Or.inl rfl | exact Or.inr rfl) (pe_ix ix_seq (pv 2) pe_int (fun _ _ => rfl))) (pss_cons (ps_asg (pe_op op_fdiv (pv 4) (pv 1)) (pg_sub (pv 2) pe_int set_list)) (pss_one (ps_ret (pe_op op_mod (pe_callTy call_intA rfl T.n_int (by decide +kernel) (pa_cons (pv 4) pa_nil)) (pv 1)))))) pss_nil) (pss_cons (ps_set (i := 3) sc__law_draw.nd rfl (by first | exact Or.inl rfl | exact Or.inr rfl) (pe_op op_mod (pe_callTy call_intA rfl T.n_int (by decide +kernel) (pa_cons (pe_op op_addA (pe_op op_mul (pe_ix ix_seq (pv 0) pe_int (fun _ _ => rfl)) pe_int) pe_int) pa_nil)) pe_int)) (pss_cons (ps_asg (pv 3) (pg_sub (pv 0) pe_int set_list)) (pss_one (ps_ret (pe_op op_mod (pe_callTy call_intA rfl T.n_int (by decide +kernel) (pa_cons (pe_op op_fdiv (pv 3) pe_int) pa_nil)) (pv 1))))))))), ?_⟩
  try dsimp only [cxOf, Cx.nox]
  repeat' (first | specialize "st" | fail)
  refine w_while (fun m σ H' => ∃ ns' : List Int, m = ns'.length ∧ σ = [some (.ref st), some (.int many), some (.ref c), none, none] ∧ H' st = some (.lst [.ref c, .int z]) ∧ H' c = some (.lst (ns'.map V.int)) ∧ (∀ n ∈ ns', 0 ≤ n) ∧ Kp [st, c] H H') ns.length ⟨ns, rfl, rfl, hst, hc, hn, Kp.refl _⟩ ?_ ?_
  · rintro m σ H' ⟨ns', rfl, rfl, h1, h2, h3, h4⟩
    have mc : c ∈ [st, c] := by simp
    have mst : st ∈ [st, c] := by simp
    have ht : ∀ xs, H' st ≠ some (.tup xs) := fun xs e => by rw [h1] at e; cases e
    have hu : ∀ xs, H' c ≠ some (.tup xs) := fun xs e => by rw [h2] at e; cases e
    cases ns' with
    | nil =>
      repeat' (first | specialize "st" | fail)
      have hz := int_mod (z * 48271 + 12345) (m := 2147483647) (by decide)
      exact q _ Hn (int_mod _ m0).1 (int_mod _ m0).2 (h4.trans (ku.sub fun x hx => by rw [List.mem_singleton.mp hx]; exact mst)) ⟨⟨[], _, hu, ku.out _ _ (nin_c hne List.not_mem_nil) h2, h3, hz.1, Int.lt_trans hz.2 (by decide)⟩, hne⟩
    | cons n r =>
      rw [List.map_cons] at h2
      have hn0 := h3 n (List.mem_cons_self ..)
      have hr0 : ∀ n ∈ r, 0 ≤ n := fun k hk => h3 k (List.mem_cons_of_mem _ hk)
      repeat' (first | specialize "st" | fail)
      · exact ⟨r.length, Nat.lt_succ_self _, r, rfl, rfl, ku.out _ _ (nin_c (Ne.symm hne) List.not_mem_nil) h1, hu, hr0, h4.trans (ku.sub fun x hx => by rw [List.mem_singleton.mp hx]; exact mc)⟩
      · refine q _ Hn (int_mod _ m0).1 (int_mod _ m0).2 (h4.trans (ku.sub fun x hx => by rw [List.mem_singleton.mp hx]; exact mc)) ⟨⟨n / many :: r, z, ku.out _ _ (nin_c (Ne.symm hne) List.not_mem_nil) h1, hu, ?_, z0, z1⟩, hne⟩
        intro k hk
        rcases List.mem_cons.mp hk with rfl | hk
        · exact Int.ediv_nonneg hn0 (by omega)
        · exact hr0 _ hk
  · intro σ H Q Q' hQ h
    exact mo_and (mo_test (mo_op mo_I0 (mo_cb mo_lenA (mo_cons mo_var mo_nil)) mo_c)) (mo_test (mo_op mo_eqA (mo_op mo_ix mo_var mo_c) mo_c)) _ _ _ _ hQ h
theorem c_draw {st c : Addr} {many : Int} {H : Hp} {Q : VK} {E : XK} (h1 : StOk st c H) (h2 : 0 < many ∧ many < 1073741824) (q : ∀ (n : Int) (H' : Hp), 0 ≤ n → n < many → Kp [st, c] H H' → StOk st c H' → Q (.int n) H') :
    sp_draw [.ref st, .int many] H Q E := ⟨st, c, many, rfl, h1, h2.1, h2.2, q⟩
set_option hygiene false in
local macro_rules | `(tactic| subst "i_c_draw") => `(tactic| intro dn Hn n0 n1 ke so)
local macro_rules | `(tactic| injection "own") => `(tactic| (refine c_draw (c := ?c) ?a ?b ?_; (case a => subst "st_ok"); (case b => subst "arx2"); subst "i_c_draw"))
local macro_rules | `(tactic| subst "arx2") => `(tactic| (refine And.intro ?_ ?_ <;> decide +kernel))
local macro_rules | `(tactic| subst "arx2") => `(tactic| (simp only [List.length_cons, List.length_nil, List.length_map, List.length_append]; refine And.intro ?_ ?_ <;> omega))
local macro_rules | `(tactic| subst "arx2") => `(tactic| (refine And.intro ?_ ?_ <;> omega))
def sp_pick (K : PySem.W.Frag) : Sp := fun vs H Q _ => ∃ (st c a : Addr) (xs : List V), vs = [.ref st, .ref a] ∧ StOk st c H ∧ H a = some (.lst xs) ∧ a ∉ [st, c] ∧ 0 < xs.length ∧ xs.length < 1000000 ∧ ∀ (i : Nat) (v : V) (H' : Hp), xs[i]? = some v → Kp [st, c] H H' → StOk st c H' → Q v H'
theorem ok_pick (T : Glo K w mg) (D : Dn K mg "_law_pick" s__law_pick p__law_pick) (G__law_draw : Cal P w K mg base "_law_draw" 1 p__law_draw sp_draw) : Cal P w K mg base "_law_pick" 2 p__law_pick (sp_pick K) := by
  refine D.ok sc__law_pick (fun vs H Q E h => ?_) (fun f cdv A outer s H vs Q E hr h => ?_)
  · obtain ⟨_, _, _, _, rfl, _⟩ := h
    rfl
  obtain ⟨st, c, a, xs, rfl, so, ha, hn, l0, l1, q⟩ := h
  refine ⟨_, (pss_one (ps_ret (pe_ix ix_seq (pv 1) (pe_cal G__law_draw (hr.mono (by (first | subst "lev" | fail))) rfl (pa_cons (pv 0) (pa_cons (pe_callB call_lenA rfl T.n_len (by decide +kernel) (pa_cons (pv 1) pa_nil)) pa_nil))) (fun _ _ => rfl)))), ?_⟩
  try dsimp only [cxOf, Cx.nox]
  repeat' (first | specialize "st" | fail)
  obtain ⟨v, e1, e2⟩ := at_i (n := dn) n0 n1
  exact q_ixL (sql (ke.out _ _ hn ha)) e2 (q _ v Hn e1 ke so)
theorem c_pick {st c a : Addr} {xs : List V} {H : Hp} {Q : VK} {E : XK} (h1 : StOk st c H) (h2 : H a = some (.lst xs)) (h3 : a ∉ [st, c]) (h4 : 0 < xs.length ∧ xs.length < 1000000) (q : ∀ (i : Nat) (v : V) (H' : Hp), xs[i]? = some v → Kp [st, c] H H' → StOk st c H' → Q v H') :
    sp_pick K [.ref st, .ref a] H Q E := ⟨st, c, a, xs, rfl, h1, h2, h3, h4.1, h4.2, q⟩
set_option hygiene false in
local macro_rules | `(tactic| subst "i_c_pick") => `(tactic| intro j v Hn ej ke so)
local macro_rules | `(tactic| injection "own") => `(tactic| (refine c_pick (c := ?c) (xs := ?xs) ?a ?b ?e ?d ?_; (case b => exists "lift"); (case a => subst "st_ok"); (case e => exists "nin"); (case d => subst "arx2"); subst "i_c_pick"))
/-! ### data whose lists are not among M -/
mutual
inductive DpM (M : List Addr) (H : Hp) : V → PyData → Prop
  | non : DpM M H .non .none
  | bl (b : Bool) : DpM M H (.bl b) (.bool b)
  | int (i : Int) : DpM M H (.int i) (.int i)
  | str (x : Str) : DpM M H (.str x) (.str x)
  | lst {a : Addr} {xs : List V} {ds : List PyData} : a ∉ M → H a = some (.lst xs) → DpMs M H xs ds → DpM M H (.ref a) (.list ds)
  | tup {a : Addr} {xs : List V} {ds : List PyData} : H a = some (.tup xs) → DpMs M H xs ds → DpM M H (.ref a) (.tuple ds)
inductive DpMs (M : List Addr) (H : Hp) : List V → List PyData → Prop
  | nil : DpMs M H [] []
  | cons {v : V} {vs : List V} {d : PyData} {ds : List PyData} : DpM M H v d → DpMs M H vs ds → DpMs M H (v :: vs) (d :: ds)
end
mutual
theorem dpm_kp {M N : List Addr} {H H' : Hp} (e : Kp N H H') (s : ∀ x, x ∈ N → x ∈ M) : ∀ {v : V} {d : PyData}, DpM M H v d → DpM M H' v d
  | _, _, .non => .non
  | _, _, .bl b => .bl b
  | _, _, .int i => .int i
  | _, _, .str x => .str x
  | _, _, .lst n h t => .lst n (e.out _ _ (fun z => n (s _ z)) h) (dpms_kp e s t)
  | _, _, .tup h t => .tup (e.tup _ _ h) (dpms_kp e s t)
theorem dpms_kp {M N : List Addr} {H H' : Hp} (e : Kp N H H') (s : ∀ x, x ∈ N → x ∈ M) : ∀ {vs : List V} {ds : List PyData}, DpMs M H vs ds → DpMs M H' vs ds
  | _, _, .nil => .nil
  | _, _, .cons h t => .cons (dpm_kp e s h) (dpms_kp e s t)
end
mutual
theorem dpm_dp {M : List Addr} {K : PySem.W.Frag} {H : Hp} : ∀ {v : V} {d : PyData}, DpM M H v d → Dp K H v d
  | _, _, .non => .non
  | _, _, .bl b => .bl b
  | _, _, .int i => .int i
  | _, _, .str x => .str x
  | _, _, .lst n h t => .lst (sql h) (dpms_dp t)
  | _, _, .tup h t => .tup (sqt h) (dpms_dp t)
theorem dpms_dp {M : List Addr} {K : PySem.W.Frag} {H : Hp} : ∀ {vs : List V} {ds : List PyData}, DpMs M H vs ds → DpAll K H vs ds
  | _, _, .nil => .nil
  | _, _, .cons h t => .cons (dpm_dp h) (dpms_dp t)
end
theorem dpms_app {M : List Addr} {H : Hp} : ∀ {vs ws : List V} {ds es : List PyData}, DpMs M H vs ds → DpMs M H ws es → DpMs M H (vs ++ ws) (ds ++ es)
  | _, _, _, _, .nil, h => h
  | _, _, _, _, .cons a t, h => .cons a (dpms_app t h)
theorem dpms_one {M : List Addr} {H : Hp} {v : V} {d : PyData} (h : DpM M H v d) : DpMs M H [v] [d] := .cons h .nil
theorem dpms_ints {M : List Addr} {H : Hp} : ∀ ns : List Int, DpMs M H (ns.map V.int) (fInts ns)
  | [] => .nil
  | n :: r => .cons (.int n) (dpms_ints r)
theorem dpms_len {M : List Addr} {H : Hp} : ∀ {vs : List V} {ds : List PyData}, DpMs M H vs ds → vs.length = ds.length
  | _, _, .nil => rfl
  | _, _, .cons _ t => by rw [List.length_cons, List.length_cons, dpms_len t]
/-- what M holds stands -/
def Mo (M : List Addr) (H : Hp) : Prop := ∀ x, x ∈ M → H x ≠ none
theorem Mo.new {M : List Addr} {H : Hp} {p : Addr} (m : Mo M H) (h : H p = none) : p ∉ M := fun z => m p z h
theorem ex_dom {H H' : Hp} (e : Ex H H') {x : Addr} (h : H x ≠ none) : H' x ≠ none := fun z => by
  cases h1 : H x with
  | none => exact h h1
  | some o => rw [e _ _ h1] at z; cases z
theorem mo_ex {M : List Addr} {H H' : Hp} (e : Ex H H') (m : Mo M H) : Mo M H' := fun x hx => ex_dom e (m x hx)
/-- one object changed, the others stay -/
theorem kp_dom {N : List Addr} {H H' : Hp} (e : Kp N H H') (n : ∀ x, x ∈ N → H' x ≠ none) {x : Addr} (h : H x ≠ none) : H' x ≠ none := fun z => by
  by_cases hx : x ∈ N
  · exact n x hx z
  · cases h1 : H x with
    | none => exact h h1
    | some o => rw [e.out _ _ hx h1] at z; cases z
theorem mo_kp {M N : List Addr} {H H' : Hp} (e : Kp N H H') (n : ∀ x, x ∈ N → H' x ≠ none) (m : Mo M H) : Mo M H' := fun x hx => kp_dom e n (m x hx)
theorem kp_new {p : Addr} {H H' : Hp} (e : Kp [p] H H') : ∀ {H0 : Hp}, Ex H0 H → H0 p = none → Ex H0 H' := fun k hp a o h => e.out a o (by
  intro z
  rw [List.mem_singleton.mp z, hp] at h
  cases h) (k a o h)
mutual
theorem dpm_sub {M N : List Addr} {H : Hp} (s : ∀ x, x ∈ N → x ∈ M) : ∀ {v : V} {d : PyData}, DpM M H v d → DpM N H v d
  | _, _, .non => .non
  | _, _, .bl b => .bl b
  | _, _, .int i => .int i
  | _, _, .str x => .str x
  | _, _, .lst n h t => .lst (fun z => n (s _ z)) h (dpms_sub s t)
  | _, _, .tup h t => .tup h (dpms_sub s t)
theorem dpms_sub {M N : List Addr} {H : Hp} (s : ∀ x, x ∈ N → x ∈ M) : ∀ {vs : List V} {ds : List PyData}, DpMs M H vs ds → DpMs N H vs ds
  | _, _, .nil => .nil
  | _, _, .cons h t => .cons (dpm_sub s h) (dpms_sub s t)
end
theorem dpm_ex {M : List Addr} {H H' : Hp} (e : Ex H H') {v : V} {d : PyData} (h : DpM M H v d) : DpM M H' v d := dpm_kp (N := []) e.kp (fun _ z => absurd z List.not_mem_nil) h
theorem dpms_ex {M : List Addr} {H H' : Hp} (e : Ex H H') {vs : List V} {ds : List PyData} (h : DpMs M H vs ds) : DpMs M H' vs ds := dpms_kp (N := []) e.kp (fun _ z => absurd z List.not_mem_nil) h
theorem sub_hd {D : Addr} {M : List Addr} : ∀ x, x ∈ [D] → x ∈ D :: M := fun x h => by rw [List.mem_singleton.mp h]; exact List.mem_cons_self ..
theorem sub_tl {D : Addr} {M : List Addr} : ∀ x, x ∈ M → x ∈ D :: M := fun x h => List.mem_cons_of_mem _ h
theorem sub_mem {D : Addr} {M : List Addr} (m : D ∈ M) : ∀ x, x ∈ [D] → x ∈ M := fun x h => by rw [List.mem_singleton.mp h]; exact m
theorem mo_add {D : Addr} {M : List Addr} {H : Hp} (h : H D ≠ none) (m : Mo M H) : Mo (D :: M) H := fun x hx => by
  rcases List.mem_cons.mp hx with rfl | hx
  · exact h
  · exact m x hx
theorem mo_kp1 {p : Addr} {M : List Addr} {H H' : Hp} {o : HO} (e : Kp [p] H H') (h : H' p = some o) (m : Mo M H) : Mo M H' := mo_kp e (fun x hx => by rw [List.mem_singleton.mp hx]; exact fsome h) m
mutual
theorem dpm_add {M : List Addr} {H : Hp} {p : Addr} (n : H p = none) : ∀ {v : V} {d : PyData}, DpM M H v d → DpM (p :: M) H v d
  | _, _, .non => .non
  | _, _, .bl b => .bl b
  | _, _, .int i => .int i
  | _, _, .str x => .str x
  | _, _, .lst m h t => .lst (nin_c (ne_of_none h n) m) h (dpms_add n t)
  | _, _, .tup h t => .tup h (dpms_add n t)
theorem dpms_add {M : List Addr} {H : Hp} {p : Addr} (n : H p = none) : ∀ {vs : List V} {ds : List PyData}, DpMs M H vs ds → DpMs (p :: M) H vs ds
  | _, _, .nil => .nil
  | _, _, .cons h t => .cons (dpm_add n h) (dpms_add n t)
end
theorem dpms_at {M : List Addr} {H : Hp} : ∀ {vs : List V} {ds : List PyData} {i : Nat} {v : V}, DpMs M H vs ds → vs[i]? = some v → ∃ d, ds[i]? = some d ∧ DpM M H v d
  | _, _, _, _, .nil, h => by simp at h
  | _, _, 0, _, .cons a t, h => by
    simp at h
    subst h
    exact ⟨_, rfl, a⟩
  | _, _, i + 1, _, .cons a t, h => by
    obtain ⟨d, h1, h2⟩ := dpms_at (i := i) t (by simpa using h)
    exact ⟨d, by simpa using h1, h2⟩
theorem dpm_int {M : List Addr} {H : Hp} {v : V} {i : Int} (h : DpM M H v (.int i)) : v = .int i := by cases h; rfl
theorem dpm_str {M : List Addr} {H : Hp} {v : V} {i : Str} (h : DpM M H v (.str i)) : v = .str i := by cases h; rfl
theorem dpm_tup {M : List Addr} {H : Hp} {v : V} {ds : List PyData} (h : DpM M H v (.tuple ds)) : ∃ a xs, v = .ref a ∧ H a = some (.tup xs) ∧ DpMs M H xs ds := by
  cases h with
  | tup h t => exact ⟨_, _, rfl, h, t⟩
theorem dpm_lst {M : List Addr} {H : Hp} {v : V} {ds : List PyData} (h : DpM M H v (.list ds)) : ∃ a xs, v = .ref a ∧ a ∉ M ∧ H a = some (.lst xs) ∧ DpMs M H xs ds := by
  cases h with
  | lst n h t => exact ⟨_, _, rfl, n, h, t⟩
theorem dpms_cons {M : List Addr} {H : Hp} {vs : List V} {d : PyData} {ds : List PyData} (h : DpMs M H vs (d :: ds)) : ∃ v ws, vs = v :: ws ∧ DpM M H v d ∧ DpMs M H ws ds := by
  cases h with
  | cons a t => exact ⟨_, _, rfl, a, t⟩
theorem dpms_nil {M : List Addr} {H : Hp} {vs : List V} (h : DpMs M H vs []) : vs = [] := by cases h; rfl
theorem dpms_intsV {M : List Addr} {H : Hp} : ∀ {vs : List V} {ns : List Int}, DpMs M H vs (fInts ns) → vs = ns.map V.int
  | _, [], .nil => rfl
  | _, n :: r, .cons h t => by
    cases h
    rw [dpms_intsV t, List.map_cons]
/-! ### tags: who is who among the addresses -/
def Al (H H' : Hp) : Prop := ∀ x, H x ≠ none → H' x ≠ none
theorem al_ex {H H' : Hp} (e : Ex H H') : Al H H' := fun x h z => by
  cases h1 : H x with
  | none => exact h h1
  | some o => rw [e _ _ h1] at z; cases z
theorem al_kp {M : List Addr} {H H' : Hp} (k : Kp M H H') (m : ∀ x, x ∈ M → H' x ≠ none) : Al H H' := fun x h z => by
  by_cases hx : x ∈ M
  · exact m x hx z
  · cases h1 : H x with
    | none => exact h h1
    | some o => rw [k.out _ _ hx h1] at z; cases z
theorem Al.trans {H H1 H2 : Hp} (a : Al H H1) (b : Al H1 H2) : Al H H2 := fun x h => b x (a x h)
theorem al_st {st c : Addr} {H H' : Hp} (k : Kp [st, c] H H') (s : StOk st c H') : Al H H' := al_kp k fun x hx => by
  obtain ⟨⟨ns, z, a, b, d⟩, e⟩ := s
  simp only [List.mem_cons, List.not_mem_nil, or_false] at hx
  rcases hx with rfl | rfl
  · exact fsome a
  · exact fsome b
abbrev Tau := Addr → Option (Nat × Nat)
def TgOk (τ : Tau) (H : Hp) : Prop := ∀ x t, τ x = some t → H x ≠ none
def TgLe (τ τ' : Tau) : Prop := ∀ x t, τ x = some t → τ' x = some t
theorem TgLe.refl (τ : Tau) : TgLe τ τ := fun _ _ h => h
theorem TgLe.trans {τ τ1 τ2 : Tau} (a : TgLe τ τ1) (b : TgLe τ1 τ2) : TgLe τ τ2 := fun x t h => b x t (a x t h)
theorem TgOk.al {τ : Tau} {H H' : Hp} (k : TgOk τ H) (a : Al H H') : TgOk τ H' := fun x t h => a x (k x t h)
theorem TgOk.nil {H : Hp} : TgOk (fun _ => none) H := fun x t h => by cases h
theorem tg_new {τ : Tau} {H H' : Hp} (k : TgOk τ H) (a : Al H H') {p : Addr} (n : H p = none) (s : H' p ≠ none) (t : Nat × Nat) : ∃ τ', TgLe τ τ' ∧ τ' p = some t ∧ TgOk τ' H' := by
  refine ⟨fun x => if x = p then some t else τ x, fun x u h => ?_, if_pos rfl, fun x u h => ?_⟩
  · have : x ≠ p := fun z => k x u h (by rw [z]; exact n)
    show (if x = p then some t else τ x) = some u
    rw [if_neg this]
    exact h
  · by_cases z : x = p
    · rw [z]; exact s
    · have h' : (if x = p then some t else τ x) = some u := h
      rw [if_neg z] at h'
      exact a x (k x u h')
theorem ne_tg {τ : Tau} {a b : Addr} {s t : Nat × Nat} (h : τ a = some s) (h' : τ b = some t) (n : s ≠ t) : a ≠ b := fun z => by
  rw [z, h'] at h
  exact n (Option.some.inj h).symm
/-- a family with one more -/
def fset (a : Nat → Addr) (i : Nat) (p : Addr) : Nat → Addr := fun k => if k = i then p else a k
theorem fset_eq {a : Nat → Addr} {i : Nat} {p : Addr} : fset a i p i = p := if_pos rfl
theorem fset_lt {a : Nat → Addr} {i k : Nat} {p : Addr} (h : k < i) : fset a i p k = a k := if_neg (by omega)
def frow (a : Nat → Addr) (n : Nat) : List V := (List.range n).map fun k => V.ref (a k)
theorem frow_len {a : Nat → Addr} {n : Nat} : (frow a n).length = n := by unfold frow; rw [List.length_map, List.length_range]
theorem frow_at {a : Nat → Addr} {n k : Nat} (h : k < n) : (frow a n)[k]? = some (.ref (a k)) := by
  unfold frow
  rw [List.getElem?_map, List.getElem?_range h]
  rfl
theorem frow_set {a : Nat → Addr} {i : Nat} {p : Addr} : frow (fset a i p) (i + 1) = frow a i ++ [.ref p] := by
  unfold frow
  rw [List.range_succ, List.map_append]
  congr 1
  · refine List.map_congr_left fun k hk => ?_
    rw [fset_lt (List.mem_range.mp hk)]
  · show [V.ref (fset a i p i)] = _
    rw [fset_eq]
theorem tg_fam {τ τ' : Tau} {f i : Nat} {a : Nat → Addr} {p : Addr} (le : TgLe τ τ') (h : ∀ k, k < i → τ (a k) = some (f, k)) (n : τ' p = some (f, i)) : ∀ k, k < i + 1 → τ' (fset a i p k) = some (f, k) := fun k hk => by
  by_cases c : k < i
  · rw [fset_lt c]; exact le _ _ (h k c)
  · have : k = i := by omega
    subst this
    rw [fset_eq]; exact n
theorem fam_step {P : Nat → Addr → Prop} {i : Nat} {a : Nat → Addr} {p : Addr} (h : ∀ k, k < i → P k (a k)) (n : P i p) : ∀ k, k < i + 1 → P k (fset a i p k) := fun k hk => by
  by_cases c : k < i
  · rw [fset_lt c]; exact h k c
  · have : k = i := by omega
    subst this
    rw [fset_eq]; exact n
theorem kp_upd {H H9 : Hp} {p : Addr} {xs : List V} {o' : HO} (h : H p = some (.lst xs)) (e : upd H p o' = H9) : Kp [p] H H9 := by
  rw [← e]
  exact kp_one h (by intro _ z; cases z)
local macro_rules | `(tactic| exists "ne1") => `(tactic| (refine ne_tg (τ := ?τ) (s := ?s) (t := ?t) ?a ?b ?n; (case a => assumption); (case b => assumption); (case n => intro z; have z1 := Prod.mk.inj z; omega)))
theorem tg0 {st c L : Addr} {H : Hp} (so : StOk st c H) (nL : L ∉ [st, c]) (h : H L ≠ none) : ∃ τ : Tau, τ st = some (7, 0) ∧ τ c = some (7, 1) ∧ τ L = some (8, 0) ∧ TgOk τ H := by
  obtain ⟨⟨ns, z, a, b, d⟩, e⟩ := so
  have h1 : L ≠ st := fun z => nL (by simp [z])
  have h2 : L ≠ c := fun z => nL (by simp [z])
  refine ⟨fun x => if x = st then some (7, 0) else if x = c then some (7, 1) else if x = L then some (8, 0) else none, if_pos rfl, ?_, ?_, fun x t hx => ?_⟩
  · show (if c = st then _ else _) = _
    rw [if_neg e, if_pos rfl]
  · show (if L = st then _ else _) = _
    rw [if_neg h1, if_neg h2, if_pos rfl]
  · have hx' : (if x = st then some (7, 0) else if x = c then some (7, 1) else if x = L then some (8, 0) else none) = some t := hx
    by_cases q1 : x = st
    · rw [q1]; exact fsome a
    · rw [if_neg q1] at hx'
      by_cases q2 : x = c
      · rw [q2]; exact fsome b
      · rw [if_neg q2] at hx'
        by_cases q3 : x = L
        · rw [q3]; exact h
        · rw [if_neg q3] at hx'; cases hx'
/-- a dict by channels -/
def krow (a : Nat → Addr) (n : Nat) : List (Key × V) := (List.range n).map fun (k : Nat) => (Sum.inl (k : Int), V.ref (a k))
theorem krow_find {a : Nat → Addr} {k : Nat} : ∀ n, valV (krow a n) (Sum.inl (k : Int)) = if k < n then some (.ref (a k)) else none
  | 0 => by rw [if_neg (Nat.not_lt_zero k)]; simp [krow, valV]
  | n + 1 => by
    have ih := krow_find (a := a) (k := k) n
    unfold valV krow at ih ⊢
    rw [List.range_succ, List.map_append, List.find?_append]
    by_cases c : k < n
    · rw [if_pos c] at ih
      rw [if_pos (by omega)]
      obtain ⟨x, hx, hv⟩ := Option.map_eq_some_iff.mp ih
      rw [hx]
      exact congrArg some hv
    · rw [if_neg c] at ih
      rw [Option.map_eq_none_iff.mp ih]
      by_cases d : k = n
      · subst d
        rw [if_pos (by omega)]
        simp
      · rw [if_neg (by omega)]
        have : ¬ (n : Int) = (k : Int) := by omega
        simp [this]
theorem krow_put {a : Nat → Addr} {i : Nat} {p : Addr} : putK (krow a i) (Sum.inl ((0 : Int) + (i : Int))) (.ref p) = krow (fset a i p) (i + 1) := by
  rw [Int.zero_add, putK_new _ (by rw [krow_find, if_neg (Nat.lt_irrefl i)])]
  unfold krow
  rw [List.range_succ, List.map_append]
  congr 1
  · refine List.map_congr_left fun k hk => ?_
    rw [fset_lt (List.mem_range.mp hk)]
  · show [_] = [(Sum.inl (i : Int), V.ref (fset a i p i))]
    rw [fset_eq]
theorem krow_len {a : Nat → Addr} {n : Nat} : (krow a n).length = n := by unfold krow; rw [List.length_map, List.length_range]
theorem frow_atI {a : Nat → Addr} {n k : Nat} (h : k < n) : atI (frow a n) ((0 : Int) + (k : Int)) = some (.ref (a k)) := by
  rw [Int.zero_add]
  exact atI_nat (frow_at h)
theorem atI_0 {α : Type} {xs : List α} {k : Nat} {x : α} (h : xs[k]? = some x) : atI xs ((0 : Int) + (k : Int)) = some x := by
  rw [Int.zero_add]
  exact atI_nat h
theorem TgOk.none {τ : Tau} {H : Hp} (k : TgOk τ H) {p : Addr} (n : H p = none) : τ p = none := by
  cases h : τ p with
  | none => rfl
  | some t => exact absurd n (k p t h)
theorem tg_add {τ : Tau} {H' : Hp} (k : TgOk τ H') {p : Addr} (n : τ p = none) (s : H' p ≠ none) (t : Nat × Nat) : ∃ τ', TgLe τ τ' ∧ τ' p = some t ∧ TgOk τ' H' ∧ ∀ x, x ≠ p → τ x = none → τ' x = none := by
  refine ⟨fun x => if x = p then some t else τ x, fun x u h => ?_, if_pos rfl, fun x u h => ?_, fun x hx h => ?_⟩
  · have : x ≠ p := fun z => by rw [z, n] at h; cases h
    show (if x = p then some t else τ x) = some u
    rw [if_neg this]
    exact h
  · by_cases z : x = p
    · rw [z]; exact s
    · have h' : (if x = p then some t else τ x) = some u := h
      rw [if_neg z] at h'
      exact k x u h'
  · show (if x = p then some t else τ x) = none
    rw [if_neg hx]
    exact h
/-- a family of new lists that a comprehension makes -/
def FamG (τ1 : Tau) (f : Nat) (H3 : Hp) (D : Addr) (g : Nat → List V) (i : Nat) (H' : Hp) : Prop := ∃ (τ : Tau) (a : Nat → Addr), TgLe τ1 τ ∧ TgOk τ H' ∧ (∀ k, k < i → τ (a k) = some (f, k)) ∧ Ex H3 H' ∧ H' D = some (.lst (frow a i)) ∧ ∀ k, k < i → H' (a k) = some (.lst (g k))
theorem FamG.zero {τ1 : Tau} {f d : Nat} {H3 : Hp} {D : Addr} {g : Nat → List V} (tg : TgOk τ1 H3) (hD : H3 D = none) : ∃ τ2, TgLe τ1 τ2 ∧ τ2 D = some (8, d) ∧ FamG τ2 f H3 D g 0 (upd H3 D (.lst [])) := by
  obtain ⟨τ2, le2, t2, tg2⟩ := tg_new tg (al_ex (Ex.mk (o := .lst []) hD rfl)) hD (fsome upd_same) (8, d)
  exact ⟨τ2, le2, t2, τ2, fun _ => 0, TgLe.refl _, tg2, fun k hk => absurd hk (Nat.not_lt_zero k), Ex.mk hD rfl, upd_same, fun k hk => absurd hk (Nat.not_lt_zero k)⟩
theorem FamG.step {τ1 : Tau} {f d i : Nat} {H3 H4 H5 : Hp} {D p : Addr} {g : Nat → List V} (hD : H3 D = none) (tD : τ1 D = some (8, d)) (nf : f ≠ 8) (h : FamG τ1 f H3 D g i H4) (e : Ex H4 H5) (np : H4 p = none) (hp : H5 p = some (.lst (g i))) (li : i ≤ 1000) :
    ∃ acc, H5 D = some (.lst acc) ∧ acc.length < sizeLine ∧ FamG τ1 f H3 D g (i + 1) (upd H5 D (.lst (acc ++ [.ref p]))) := by
  obtain ⟨τ, a, le, tg, ta, k3, hD4, hg⟩ := h
  have hD5 := e _ _ hD4
  refine ⟨_, hD5, sl1000' (by rw [frow_len]; omega), ?_⟩
  generalize hq : upd H5 D _ = H9
  have k9 := kp_upd hD5 hq
  have h9 := at_new hq
  have npD : p ≠ D := (ne_of_none hD4 np).symm
  have a9 : Al H4 H9 := (al_ex e).trans (al_kp k9 fun x hx => by rw [List.mem_singleton.mp hx]; exact fsome h9)
  have hp9 : H9 p = some (.lst (g i)) := k9.out _ _ (nin_c npD List.not_mem_nil) hp
  obtain ⟨τ', le', tp', tg'⟩ := tg_new tg a9 np (fsome hp9) (f, i)
  refine ⟨τ', fset a i p, le.trans le', tg', tg_fam le' ta tp', ?_, by rw [h9, frow_set], fam_step (P := fun k x => H9 x = some (.lst (g k))) (fun k hk => ?_) hp9⟩
  · exact fun b u hb => k9.out _ _ (nin_c (ne_of_none hb hD) List.not_mem_nil) (e _ _ (k3 _ _ hb))
  · refine k9.out _ _ (nin_c (ne_tg (ta k hk) (le _ _ tD) (fun z => nf (Prod.mk.inj z).1)) List.not_mem_nil) (e _ _ (hg k hk))
theorem pk_int {xs : List Int} {i : Nat} {v : V} (h : (xs.map V.int)[i]? = some v) : ∃ k, k ∈ xs ∧ v = .int k := by
  obtain ⟨k, hk, e⟩ := List.mem_map.mp (List.mem_of_getElem? h)
  exact ⟨k, hk, e.symm⟩
abbrev s__law_number : Stmt := topS 20
theorem sc__law_number : FnScope ["state"] ["state"] (defScope s__law_number) := ⟨rfl, rfl, rfl, by decide +kernel, rfl, by decide +kernel, by decide +kernel⟩
abbrev p__law_number : List Str := ["state"]
abbrev s__law_operator : Stmt := topS 21
theorem sc__law_operator : FnScope ["state"] ["state"] (defScope s__law_operator) := ⟨rfl, rfl, rfl, by decide +kernel, rfl, by decide +kernel, by decide +kernel⟩
abbrev p__law_operator : List Str := ["state"]
abbrev s__law_index : Stmt := topS 22
theorem sc__law_index : FnScope ["state", "env", "size", "cell"] ["state", "env", "size"] (defScope s__law_index) := ⟨rfl, rfl, rfl, by decide +kernel, rfl, by decide +kernel, by decide +kernel⟩
abbrev p__law_index : List Str := ["state", "env", "size"]
abbrev s__law_read : Stmt := topS 23
theorem sc__law_read : FnScope ["state", "env", "first", "size"] ["state", "env"] (defScope s__law_read) := ⟨rfl, rfl, rfl, by decide +kernel, rfl, by decide +kernel, by decide +kernel⟩
abbrev p__law_read : List Str := ["state", "env"]
abbrev s__law_expression : Stmt := topS 24
theorem sc__law_expression : FnScope ["state", "env", "deep", "kind", "first"] ["state", "env", "deep"] (defScope s__law_expression) := ⟨rfl, rfl, rfl, by decide +kernel, rfl, by decide +kernel, by decide +kernel⟩
abbrev p__law_expression : List Str := ["state", "env", "deep"]
abbrev s__law_target : Stmt := topS 25
theorem sc__law_target : FnScope ["state", "env", "first", "size"] ["state", "env"] (defScope s__law_target) := ⟨rfl, rfl, rfl, by decide +kernel, rfl, by decide +kernel, by decide +kernel⟩
abbrev p__law_target : List Str := ["state", "env"]
/-! ### expressions over sets of cells: R those that are read, W those that are written -/
def Tm.fit (R : Int → Prop) : Tm → Prop
  | .num k => 0 ≤ k ∧ k < 65536
  | .cell k => R k
  | .at f s e => 0 < s ∧ s < 5 ∧ (∀ i, f ≤ i → i < f + s → R i) ∧ e.fit R
  | .neg e => e.fit R
  | .not e => e.fit R
  | .bin _ a b => a.fit R ∧ b.fit R
def Tm.aim (W R : Int → Prop) : Tm → Prop
  | .cell k => W k
  | .at f s e => 0 < s ∧ s < 5 ∧ (∀ i, f ≤ i → i < f + s → W i) ∧ e.fit R
  | _ => False
theorem Tm.fit.mono {R S : Int → Prop} (h : ∀ k, R k → S k) : ∀ {e : Tm}, e.fit R → e.fit S
  | .num _, a => a
  | .cell _, a => h _ a
  | .at _ _ _, a => ⟨a.1, a.2.1, fun i p q => h _ (a.2.2.1 i p q), Tm.fit.mono h a.2.2.2⟩
  | .neg e, a => Tm.fit.mono (e := e) h a
  | .not e, a => Tm.fit.mono (e := e) h a
  | .bin _ _ _, a => ⟨Tm.fit.mono h a.1, Tm.fit.mono h a.2⟩
theorem Tm.aim.mono {W V R S : Int → Prop} (h : ∀ k, R k → S k) (g : ∀ k, W k → V k) : ∀ {e : Tm}, e.aim W R → e.aim V S
  | .cell _, a => g _ a
  | .at _ _ _, a => ⟨a.1, a.2.1, fun i p q => g _ (a.2.2.1 i p q), Tm.fit.mono h a.2.2.2⟩
theorem Tm.aim.tgt {W R : Int → Prop} : ∀ {e : Tm}, e.aim W R → e.tgt
  | .cell _, _ => trivial
  | .at _ _ _, _ => trivial
theorem Tm.fit.ok {R : Int → Prop} {n : Int} (h : ∀ k, R k → 0 ≤ k ∧ k < n) : ∀ {e : Tm}, e.fit R → e.ok n
  | .num _, a => a
  | .cell _, a => h _ a
  | .at f s _, a => ⟨(h f (a.2.2.1 f (by omega) (by have := a.1; omega))).1, a.1, by have := (h (f + s - 1) (a.2.2.1 (f + s - 1) (by have := a.1; omega) (by omega))).2; omega, Tm.fit.ok h a.2.2.2⟩
  | .neg e, a => Tm.fit.ok (e := e) h a
  | .not e, a => Tm.fit.ok (e := e) h a
  | .bin _ _ _, a => ⟨Tm.fit.ok h a.1, Tm.fit.ok h a.2⟩
theorem Tm.aim.fit {W R S : Int → Prop} (g : ∀ k, W k → S k) (h : ∀ k, R k → S k) : ∀ {e : Tm}, e.aim W R → e.fit S
  | .cell _, a => g _ a
  | .at _ _ _, a => ⟨a.1, a.2.1, fun i p q => g _ (a.2.2.1 i p q), Tm.fit.mono h a.2.2.2⟩
/-- what an env holds: cells, reads, spans; none of its objects is among M -/
structure EnvS (W R : Int → Prop) (M : List Addr) (e : Addr) (H : Hp) : Prop where
  ex : ∃ (kvs : List (Key × V)) (ca ra sa : Addr) (cells reads : List Int) (spans : List V), H e = some (.dK kvs) ∧ valV kvs (Sum.inr "cells") = some (.ref ca) ∧ valV kvs (Sum.inr "reads") = some (.ref ra) ∧ valV kvs (Sum.inr "spans") = some (.ref sa) ∧
    H ca = some (.lst (cells.map V.int)) ∧ H ra = some (.lst (reads.map V.int)) ∧ H sa = some (.lst spans) ∧ (∀ k ∈ cells, W k ∧ R k) ∧ (∀ k ∈ reads, R k) ∧
    (∀ v ∈ spans, ∃ p f s, v = V.ref p ∧ H p = some (HO.tup [.int f, .int s]) ∧ 0 < s ∧ s < 5 ∧ ∀ i, f ≤ i → i < f + s → W i ∧ R i) ∧ 0 < cells.length ∧ 0 < reads.length ∧ cells.length < 1000 ∧ reads.length < 1000 ∧ spans.length < 1000 ∧
    e ∉ M ∧ ca ∉ M ∧ ra ∉ M ∧ sa ∉ M
abbrev EnvOk (W R : Int → Prop) (st c e : Addr) (H : Hp) : Prop := EnvS W R [st, c] e H
theorem env_kp {W R : Int → Prop} {M : List Addr} {e : Addr} {H H' : Hp} (k : Kp M H H') (h : EnvS W R M e H) : EnvS W R M e H' := by
  obtain ⟨kvs, ca, ra, sa, cells, reads, spans, h1, h2, h3, h4, h5, h6, h7, h8, h9, h10, h11, h12, l1, l2, l3, m1, m2, m3, m4⟩ := h
  refine ⟨kvs, ca, ra, sa, cells, reads, spans, k.out _ _ m1 h1, h2, h3, h4, k.out _ _ m2 h5, k.out _ _ m3 h6, k.out _ _ m4 h7, h8, h9, fun v hv => ?_, h11, h12, l1, l2, l3, m1, m2, m3, m4⟩
  obtain ⟨p, f, s, e, a, b⟩ := h10 v hv
  exact ⟨p, f, s, e, k.tup _ _ a, b⟩
theorem env_ex {W R : Int → Prop} {M : List Addr} {e : Addr} {H H' : Hp} (k : Ex H H') (h : EnvS W R M e H) : EnvS W R M e H' := env_kp k.kp h
theorem env_sub {W R : Int → Prop} {M N : List Addr} {e : Addr} {H : Hp} (s : ∀ x, x ∈ N → x ∈ M) (h : EnvS W R M e H) : EnvS W R N e H := by
  obtain ⟨kvs, ca, ra, sa, cells, reads, spans, h1, h2, h3, h4, h5, h6, h7, h8, h9, h10, h11, h12, l1, l2, l3, m1, m2, m3, m4⟩ := h
  exact ⟨kvs, ca, ra, sa, cells, reads, spans, h1, h2, h3, h4, h5, h6, h7, h8, h9, h10, h11, h12, l1, l2, l3, fun z => m1 (s _ z), fun z => m2 (s _ z), fun z => m3 (s _ z), fun z => m4 (s _ z)⟩
local macro_rules | `(tactic| subst "env") => `(tactic| (refine env_kp (by assumption) ?_; subst "env"))
local macro_rules | `(tactic| subst "env") => `(tactic| (refine env_ex (by assumption) ?_; subst "env"))
local macro_rules | `(tactic| subst "env") => `(tactic| assumption)
local macro_rules | `(tactic| subst "tm") => `(tactic| (refine tm_kp (by assumption) ?_; subst "tm"))
local macro_rules | `(tactic| subst "tm") => `(tactic| (refine tm_ex (by assumption) ?_; subst "tm"))
local macro_rules | `(tactic| subst "tm") => `(tactic| assumption)
def sp_number : Sp := fun vs H Q _ => ∃ (st c : Addr), vs = [.ref st] ∧ StOk st c H ∧ ∀ (k : Int) (v : V) (H' : Hp), 0 ≤ k → k < 65536 → (Tm.num k).In H' v → Kp [st, c] H H' → StOk st c H' → Q v H'
theorem ok_number (T : Glo K w mg) (D : Dn K mg "_law_number" s__law_number p__law_number) (G__law_draw : Cal P w K mg base "_law_draw" 1 p__law_draw sp_draw) (G__law_pick : Cal P w K mg base "_law_pick" 2 p__law_pick (sp_pick K)) :
    Cal P w K mg base "_law_number" 3 p__law_number sp_number := by
  refine D.ok sc__law_number (fun vs H Q E h => ?_) (fun f cdv A outer s H vs Q E hr h => ?_)
  · obtain ⟨_, _, rfl, _⟩ := h
    rfl
  obtain ⟨st, c, rfl, so, q⟩ := h
  refine ⟨_, (pss_one (ps_ret (pe_tup (pa_cons pe_str (pa_cons (pe_cal G__law_pick (hr.mono (by (first | subst "lev" | fail))) rfl (pa_cons (pv 0) (pa_cons (pe_lst (pa_cons pe_int (pa_cons pe_int (pa_cons pe_int (pa_cons pe_int (pa_cons (pe_cal G__law_draw (hr.mono (by (first | subst "lev" | fail))) rfl (pa_cons (pv 0) (pa_cons pe_int pa_nil))) (pa_cons pe_int (pa_cons (pe_cal G__law_draw (hr.mono (by (first | subst "lev" | fail))) rfl (pa_cons (pv 0) (pa_cons pe_int pa_nil))) pa_nil)))))))) pa_nil))) pa_nil))))), ?_⟩
  try dsimp only [cxOf, Cx.nox]
  repeat' (first | specialize "st" | fail)
  have hv := List.mem_of_getElem? ej
  simp only [List.mem_cons, List.not_mem_nil, or_false] at hv
  have hk : ∃ k, v = .int k ∧ 0 ≤ k ∧ k < 65536 := by
    rcases hv with rfl | rfl | rfl | rfl | rfl | rfl | rfl <;> exact ⟨_, rfl, by omega, by omega⟩
  obtain ⟨k, rfl, k0, k1⟩ := hk
  exact q k _ _ k0 k1 ⟨_, rfl, hn⟩ (by (first | subst "kp" | fail)) (by (first | subst "st_ok" | fail))
theorem c_number {st c : Addr} {H : Hp} {Q : VK} {E : XK} (h1 : StOk st c H) (q : ∀ (k : Int) (v : V) (H' : Hp), 0 ≤ k → k < 65536 → (Tm.num k).In H' v → Kp [st, c] H H' → StOk st c H' → Q v H') : sp_number [.ref st] H Q E := ⟨st, c, rfl, h1, q⟩
set_option hygiene false in
local macro_rules | `(tactic| subst "i_c_number") => `(tactic| intro nk v Hn k0 k1 iv ke so)
local macro_rules | `(tactic| injection "own") => `(tactic| (refine c_number (c := ?c) ?a ?_; (case a => subst "st_ok"); subst "i_c_number"))
def sp_operator : Sp := fun vs H Q _ => ∃ (st c : Addr), vs = [.ref st] ∧ StOk st c H ∧ ∀ (o : Op) (H' : Hp), Kp [st, c] H H' → StOk st c H' → Q (.str o.str) H'
theorem ok_operator (T : Glo K w mg) (D : Dn K mg "_law_operator" s__law_operator p__law_operator) (G__law_draw : Cal P w K mg base "_law_draw" 1 p__law_draw sp_draw) (G__law_pick : Cal P w K mg base "_law_pick" 2 p__law_pick (sp_pick K)) :
    Cal P w K mg base "_law_operator" 3 p__law_operator sp_operator := by
  refine D.ok sc__law_operator (fun vs H Q E h => ?_) (fun f cdv A outer s H vs Q E hr h => ?_)
  · obtain ⟨_, _, rfl, _⟩ := h
    rfl
  obtain ⟨st, c, rfl, so, q⟩ := h
  refine ⟨_, (pss_one (ps_ret (pe_cal G__law_pick (hr.mono (by (first | subst "lev" | fail))) rfl (pa_cons (pv 0) (pa_cons (pe_lst (pa_cons pe_str (pa_cons pe_str (pa_cons pe_str (pa_cons pe_str (pa_cons pe_str (pa_cons pe_str (pa_cons pe_str (pa_cons pe_str (pa_cons pe_str (pa_cons pe_str (pa_cons pe_str (pa_cons pe_str (pa_cons (pe_cal G__law_pick (hr.mono (by (first | subst "lev" | fail))) rfl (pa_cons (pv 0) (pa_cons (pe_lst (pa_cons pe_str (pa_cons pe_str pa_nil))) pa_nil))) pa_nil)))))))))))))) pa_nil))))), ?_⟩
  try dsimp only [cxOf, Cx.nox]
  repeat' (first | specialize "st" | fail)
  rename_i j1 v1 H2 ej1 k1 s1 H3 k3
  have hw := List.mem_of_getElem? ej1
  have hv := List.mem_of_getElem? ej
  simp only [List.mem_cons, List.not_mem_nil, or_false] at hv hw
  have hk : ∃ o : Op, v = .str o.str := by
    rcases hv with rfl | rfl | rfl | rfl | rfl | rfl | rfl | rfl | rfl | rfl | rfl | rfl | rfl
    · exact ⟨.add, rfl⟩
    · exact ⟨.sub, rfl⟩
    · exact ⟨.mul, rfl⟩
    · exact ⟨.add, rfl⟩
    · exact ⟨.sub, rfl⟩
    · exact ⟨.and, rfl⟩
    · exact ⟨.or, rfl⟩
    · exact ⟨.eq, rfl⟩
    · exact ⟨.ne, rfl⟩
    · exact ⟨.lt, rfl⟩
    · exact ⟨.le, rfl⟩
    · exact ⟨.add, rfl⟩
    · rcases hw with rfl | rfl
      · exact ⟨.div, rfl⟩
      · exact ⟨.mod, rfl⟩
  obtain ⟨o, rfl⟩ := hk
  exact q o _ (by (first | subst "kp" | fail)) (by (first | subst "st_ok" | fail))
theorem c_operator {st c : Addr} {H : Hp} {Q : VK} {E : XK} (h1 : StOk st c H) (q : ∀ (o : Op) (H' : Hp), Kp [st, c] H H' → StOk st c H' → Q (.str o.str) H') : sp_operator [.ref st] H Q E := ⟨st, c, rfl, h1, q⟩
set_option hygiene false in
local macro_rules | `(tactic| subst "i_c_operator") => `(tactic| intro o Hn ke so)
local macro_rules | `(tactic| injection "own") => `(tactic| (refine c_operator (c := ?c) ?a ?_; (case a => subst "st_ok"); subst "i_c_operator"))
def sp_index : Sp := fun vs H Q _ => ∃ (W R : Int → Prop) (st c e : Addr) (s : Int), vs = [.ref st, .ref e, .int s] ∧ StOk st c H ∧ EnvOk W R st c e H ∧ 0 < s ∧ s < 65536 ∧ ∀ (t : Tm) (v : V) (H' : Hp), t.In H' v → t.fit R → t.deep ≤ 2 → Kp [st, c] H H' → StOk st c H' → Q v H'
theorem ok_index (T : Glo K w mg) (D : Dn K mg "_law_index" s__law_index p__law_index) (G__law_draw : Cal P w K mg base "_law_draw" 1 p__law_draw sp_draw) (G__law_pick : Cal P w K mg base "_law_pick" 2 p__law_pick (sp_pick K)) :
    Cal P w K mg base "_law_index" 3 p__law_index (sp_index) := by
  refine D.ok sc__law_index (fun vs H Q E h => ?_) (fun f cdv A outer s H vs Q E hr h => ?_)
  · obtain ⟨_, _, _, _, _, _, rfl, _⟩ := h
    rfl
  obtain ⟨W, R, st, c, e, s, rfl, so, en, s0, s1, q⟩ := h
  refine ⟨_, (pss_cons (ps_set (i := 3) sc__law_index.nd rfl (by first | exact Or.inl rfl | exact Or.inr rfl) (pe_tup (pa_cons pe_str (pa_cons (pe_cal G__law_pick (hr.mono (by (first | subst "lev" | fail))) rfl (pa_cons (pv 0) (pa_cons (pe_dget (hu_of hr) (pv 1) pe_str (fun _ _ => rfl)) pa_nil))) pa_nil)))) (pss_one (ps_ret (pe_ifExp (pt_cmpR (op_eqA (hu64 hr)) (pe_cal G__law_draw (hr.mono (by (first | subst "lev" | fail))) rfl (pa_cons (pv 0) (pa_cons pe_int pa_nil))) pe_int (nomark _)) (pv 3) (pe_tup (pa_cons pe_str (pa_cons (pv 3) (pa_cons (pe_tup (pa_cons pe_str (pa_cons (pv 2) pa_nil))) pa_nil)))))))), ?_⟩
  try dsimp only [cxOf, Cx.nox]
  obtain ⟨kvs, ca, ra, sa, cells, reads, spans, h1, h2, h3, h4, h5, h6, h7, h8, h9, h10, l0, l1, l2, l3, l4, m1, m2, m3, m4⟩ := en
  repeat' (first | specialize "st" | fail)
  all_goals (obtain ⟨k, hk, rfl⟩ := pk_int (by assumption : (reads.map V.int)[_]? = some _))
  all_goals have hb := h9 k hk
  · exact q (.cell k) _ _ ⟨_, rfl, by (first | exists "lift" | fail)⟩ hb (by simp [Tm.deep]) (by (first | subst "kp" | fail)) (by (first | subst "st_ok" | fail))
  · exact q (.bin .mod (.cell k) (.num s)) _ _ ⟨_, _, _, rfl, by assumption, ⟨_, rfl, by (first | exists "lift" | fail)⟩, ⟨_, rfl, by (first | exists "lift" | fail)⟩⟩ ⟨hb, by omega, by omega⟩ (by simp [Tm.deep]) (by (first | subst "kp" | fail)) (by (first | subst "st_ok" | fail))
theorem c_index {W R : Int → Prop} {st c e : Addr} {s : Int} {H : Hp} {Q : VK} {E : XK} (h1 : StOk st c H) (h2 : EnvOk W R st c e H) (h3 : 0 < s ∧ s < 65536) (q : ∀ (t : Tm) (v : V) (H' : Hp), t.In H' v → t.fit R → t.deep ≤ 2 → Kp [st, c] H H' → StOk st c H' → Q v H') :
    sp_index [.ref st, .ref e, .int s] H Q E := ⟨W, R, st, c, e, s, rfl, h1, h2, h3.1, h3.2, q⟩
set_option hygiene false in
local macro_rules | `(tactic| subst "i_c_index") => `(tactic| intro t v Hn iv ok td ke so)
local macro_rules | `(tactic| injection "own") => `(tactic| (refine c_index (W := ?W) (R := ?R) (c := ?c) ?a ?b ?d ?_; (case a => subst "st_ok"); (case b => subst "env"); (case d => refine And.intro ?_ ?_ <;> omega); subst "i_c_index"))
def sp_read : Sp := fun vs H Q _ => ∃ (W R : Int → Prop) (st c e : Addr), vs = [.ref st, .ref e] ∧ StOk st c H ∧ EnvOk W R st c e H ∧ ∀ (t : Tm) (v : V) (H' : Hp), t.In H' v → t.fit R → t.deep ≤ 3 → Kp [st, c] H H' → StOk st c H' → Q v H'
theorem ok_read (T : Glo K w mg) (D : Dn K mg "_law_read" s__law_read p__law_read) (G__law_draw : Cal P w K mg base "_law_draw" 1 p__law_draw sp_draw) (G__law_pick : Cal P w K mg base "_law_pick" 2 p__law_pick (sp_pick K))
    (G__law_index : Cal P w K mg base "_law_index" 3 p__law_index (sp_index)) : Cal P w K mg base "_law_read" 4 p__law_read (sp_read) := by
  refine D.ok sc__law_read (fun vs H Q E h => ?_) (fun f cdv A outer s H vs Q E hr h => ?_)
  · obtain ⟨_, _, _, _, _, rfl, _⟩ := h
    rfl
  obtain ⟨W, R, st, c, e, rfl, so, en, q⟩ := h
  refine ⟨_, (pss_cons (ps_if (PW.pt (pw_and (pt_cmpR op_gt (pe_callB call_lenA rfl T.n_len (by decide +kernel) (pa_cons (pe_dget (hu_of hr) (pv 1) pe_str (fun _ _ => rfl)) pa_nil)) pe_int (nomark _)) (pw_and1 (pt_cmpR (op_eqA (hu64 hr)) (pe_cal G__law_draw (hr.mono (by (first | subst "lev" | fail))) rfl (pa_cons (pv 0) (pa_cons pe_int pa_nil))) pe_int (nomark _))))) (pss_cons (ps_asg (pe_cal G__law_pick (hr.mono (by (first | subst "lev" | fail))) rfl (pa_cons (pv 0) (pa_cons (pe_dget (hu_of hr) (pv 1) pe_str (fun _ _ => rfl)) pa_nil))) (pg_tup rfl (pgs_cons (pg_name (i := 2) sc__law_read.nd rfl (by first | exact Or.inl rfl | exact Or.inr rfl)) (pgs_cons (pg_name (i := 3) sc__law_read.nd rfl (by first | exact Or.inl rfl | exact Or.inr rfl)) pgs_nil)))) (pss_one (ps_ret (pe_tup (pa_cons pe_str (pa_cons (pv 2) (pa_cons (pv 3) (pa_cons (pe_cal G__law_index (hr.mono (by (first | subst "lev" | fail))) rfl (pa_cons (pv 0) (pa_cons (pv 1) (pa_cons (pv 3) pa_nil)))) pa_nil)))))))) pss_nil) (pss_one (ps_ret (pe_tup (pa_cons pe_str (pa_cons (pe_cal G__law_pick (hr.mono (by (first | subst "lev" | fail))) rfl (pa_cons (pv 0) (pa_cons (pe_dget (hu_of hr) (pv 1) pe_str (fun _ _ => rfl)) pa_nil))) pa_nil)))))), ?_⟩
  try dsimp only [cxOf, Cx.nox]
  have en0 := en
  obtain ⟨kvs, ca, ra, sa, cells, reads, spans, h1, h2, h3, h4, h5, h6, h7, h8, h9, h10, l0, l1, l2, l3, l4, m1, m2, m3, m4⟩ := en
  repeat' (first | specialize "st" | fail)
  · obtain ⟨p, fi, sz, rfl, hp, b0, b1, b2⟩ := h10 v (List.mem_of_getElem? ej)
    repeat' (first | specialize "st" | fail)
    exact q (.at fi sz t) _ _ ⟨_, _, rfl, by assumption, by (first | subst "tm" | fail)⟩ ⟨b0, b1, fun i x y => (b2 i x y).2, ok⟩ (by simp only [Tm.deep]; omega) (by (first | subst "kp" | fail)) (by (first | subst "st_ok" | fail))
  all_goals (obtain ⟨k, hk, rfl⟩ := pk_int (by assumption : (reads.map V.int)[_]? = some _))
  all_goals have hb := h9 k hk
  all_goals exact q (.cell k) _ _ ⟨_, rfl, by assumption⟩ hb (by simp [Tm.deep]) (by (first | subst "kp" | fail)) (by (first | subst "st_ok" | fail))
theorem c_read {W R : Int → Prop} {st c e : Addr} {H : Hp} {Q : VK} {E : XK} (h1 : StOk st c H) (h2 : EnvOk W R st c e H) (q : ∀ (t : Tm) (v : V) (H' : Hp), t.In H' v → t.fit R → t.deep ≤ 3 → Kp [st, c] H H' → StOk st c H' → Q v H') :
    sp_read [.ref st, .ref e] H Q E := ⟨W, R, st, c, e, rfl, h1, h2, q⟩
set_option hygiene false in
local macro_rules | `(tactic| subst "i_c_read") => `(tactic| intro t v Hn iv ok td ke so)
local macro_rules | `(tactic| injection "own") => `(tactic| (refine c_read (W := ?W) (R := ?R) (c := ?c) ?a ?b ?_; (case a => subst "st_ok"); (case b => subst "env"); subst "i_c_read"))
def sp_target : Sp := fun vs H Q _ => ∃ (W R : Int → Prop) (st c e : Addr), vs = [.ref st, .ref e] ∧ StOk st c H ∧ EnvOk W R st c e H ∧ ∀ (t : Tm) (v : V) (H' : Hp), t.In H' v → t.aim W R → t.deep ≤ 3 → Kp [st, c] H H' → StOk st c H' → Q v H'
theorem ok_target (T : Glo K w mg) (D : Dn K mg "_law_target" s__law_target p__law_target) (G__law_draw : Cal P w K mg base "_law_draw" 1 p__law_draw sp_draw) (G__law_pick : Cal P w K mg base "_law_pick" 2 p__law_pick (sp_pick K))
    (G__law_index : Cal P w K mg base "_law_index" 3 p__law_index (sp_index)) : Cal P w K mg base "_law_target" 4 p__law_target sp_target := by
  refine D.ok sc__law_target (fun vs H Q E h => ?_) (fun f cdv A outer s H vs Q E hr h => ?_)
  · obtain ⟨_, _, _, _, _, rfl, _⟩ := h
    rfl
  obtain ⟨W, R, st, c, e, rfl, so, en, q⟩ := h
  refine ⟨_, (pss_cons (ps_if (PW.pt (pw_and (pt_cmpR op_gt (pe_callB call_lenA rfl T.n_len (by decide +kernel) (pa_cons (pe_dget (hu_of hr) (pv 1) pe_str (fun _ _ => rfl)) pa_nil)) pe_int (nomark _)) (pw_and1 (pt_cmpR (op_eqA (hu64 hr)) (pe_cal G__law_draw (hr.mono (by (first | subst "lev" | fail))) rfl (pa_cons (pv 0) (pa_cons pe_int pa_nil))) pe_int (nomark _))))) (pss_cons (ps_asg (pe_cal G__law_pick (hr.mono (by (first | subst "lev" | fail))) rfl (pa_cons (pv 0) (pa_cons (pe_dget (hu_of hr) (pv 1) pe_str (fun _ _ => rfl)) pa_nil))) (pg_tup rfl (pgs_cons (pg_name (i := 2) sc__law_target.nd rfl (by first | exact Or.inl rfl | exact Or.inr rfl)) (pgs_cons (pg_name (i := 3) sc__law_target.nd rfl (by first | exact Or.inl rfl | exact Or.inr rfl)) pgs_nil)))) (pss_one (ps_ret (pe_tup (pa_cons pe_str (pa_cons (pv 2) (pa_cons (pv 3) (pa_cons (pe_cal G__law_index (hr.mono (by (first | subst "lev" | fail))) rfl (pa_cons (pv 0) (pa_cons (pv 1) (pa_cons (pv 3) pa_nil)))) pa_nil)))))))) pss_nil) (pss_one (ps_ret (pe_tup (pa_cons pe_str (pa_cons (pe_cal G__law_pick (hr.mono (by (first | subst "lev" | fail))) rfl (pa_cons (pv 0) (pa_cons (pe_dget (hu_of hr) (pv 1) pe_str (fun _ _ => rfl)) pa_nil))) pa_nil)))))), ?_⟩
  try dsimp only [cxOf, Cx.nox]
  have en0 := en
  obtain ⟨kvs, ca, ra, sa, cells, reads, spans, h1, h2, h3, h4, h5, h6, h7, h8, h9, h10, l0, l1, l2, l3, l4, m1, m2, m3, m4⟩ := en
  repeat' (first | specialize "st" | fail)
  · obtain ⟨p, fi, sz, rfl, hp, b0, b1, b2⟩ := h10 v (List.mem_of_getElem? ej)
    repeat' (first | specialize "st" | fail)
    exact q (.at fi sz t) _ _ ⟨_, _, rfl, by assumption, by (first | subst "tm" | fail)⟩ ⟨b0, b1, fun i x y => (b2 i x y).1, ok⟩ (by simp only [Tm.deep]; omega) (by (first | subst "kp" | fail)) (by (first | subst "st_ok" | fail))
  all_goals (obtain ⟨k, hk, rfl⟩ := pk_int (by assumption : (cells.map V.int)[_]? = some _))
  all_goals have hb := h8 k hk
  all_goals exact q (.cell k) _ _ ⟨_, rfl, by assumption⟩ hb.1 (by simp [Tm.deep]) (by (first | subst "kp" | fail)) (by (first | subst "st_ok" | fail))
theorem c_target {W R : Int → Prop} {st c e : Addr} {H : Hp} {Q : VK} {E : XK} (h1 : StOk st c H) (h2 : EnvOk W R st c e H) (q : ∀ (t : Tm) (v : V) (H' : Hp), t.In H' v → t.aim W R → t.deep ≤ 3 → Kp [st, c] H H' → StOk st c H' → Q v H') :
    sp_target [.ref st, .ref e] H Q E := ⟨W, R, st, c, e, rfl, h1, h2, q⟩
set_option hygiene false in
local macro_rules | `(tactic| subst "i_c_target") => `(tactic| intro t v Hn iv ok td ke so)
local macro_rules | `(tactic| injection "own") => `(tactic| (refine c_target (W := ?W) (R := ?R) (c := ?c) ?a ?b ?_; (case a => subst "st_ok"); (case b => subst "env"); subst "i_c_target"))
def sp_expr (d : Nat) : Sp := fun vs H Q _ => ∃ (W R : Int → Prop) (st c e : Addr) (k : Nat), vs = [.ref st, .ref e, .int k] ∧ k < d ∧ StOk st c H ∧ EnvOk W R st c e H ∧ ∀ (t : Tm) (v : V) (H' : Hp), t.In H' v → t.fit R → t.deep ≤ k + 3 → Kp [st, c] H H' → StOk st c H' → Q v H'
theorem c_expr {W R : Int → Prop} {d k : Nat} {z : Int} {st c e : Addr} {H : Hp} {Q : VK} {E : XK} (hz : z = k) (hk : k < d) (h1 : StOk st c H) (h2 : EnvOk W R st c e H) (q : ∀ (t : Tm) (v : V) (H' : Hp), t.In H' v → t.fit R → t.deep ≤ k + 3 → Kp [st, c] H H' → StOk st c H' → Q v H') :
    sp_expr d [.ref st, .ref e, .int z] H Q E := ⟨W, R, st, c, e, k, by rw [hz], hk, h1, h2, q⟩
theorem ok_expression (T : Glo K w mg) (D : Dn K mg "_law_expression" s__law_expression p__law_expression) (G__law_draw : Cal P w K mg base "_law_draw" 1 p__law_draw sp_draw) (G__law_pick : Cal P w K mg base "_law_pick" 2 p__law_pick (sp_pick K))
    (G__law_number : Cal P w K mg base "_law_number" 3 p__law_number sp_number) (G__law_operator : Cal P w K mg base "_law_operator" 3 p__law_operator sp_operator) (G__law_read : Cal P w K mg base "_law_read" 4 p__law_read (sp_read)) {d : Nat}
    (G__law_expression : Cal P w K mg base "_law_expression" (d + 4) p__law_expression (sp_expr d)) : Cal P w K mg base "_law_expression" (d + 5) p__law_expression (sp_expr (d + 1)) := by
  refine D.ok sc__law_expression (fun vs H Q E h => ?_) (fun f cdv A outer s H vs Q E hr h => ?_)
  · obtain ⟨_, _, _, _, _, _, rfl, _⟩ := h
    rfl
  obtain ⟨W, R, st, c, e, k, rfl, hk, so, en, q⟩ := h
  refine ⟨_, (pss_cons (ps_set (i := 3) sc__law_expression.nd rfl (by first | exact Or.inl rfl | exact Or.inr rfl) (pe_cal G__law_draw (hr.mono (by (first | subst "lev" | fail))) rfl (pa_cons (pv 0) (pa_cons pe_int pa_nil)))) (pss_cons (ps_if (PW.pt (pw_or (pt_cmpR (op_eqA (hu64 hr)) (pv 2) pe_int (nomark _)) (pw_or1 (pt_cmpR op_lt (pv 3) pe_int (nomark _))))) (pss_cons (ps_if (PW.pt (pw_and (pt_cmpR op_gt (pe_callB call_lenA rfl T.n_len (by decide +kernel) (pa_cons (pe_dget (hu_of hr) (pv 1) pe_str (fun _ _ => rfl)) pa_nil)) pe_int (nomark _)) (pw_and1 (pt_cmpR op_gt (pe_cal G__law_draw (hr.mono (by (first | subst "lev" | fail))) rfl (pa_cons (pv 0) (pa_cons pe_int pa_nil))) pe_int (nomark _))))) (pss_one (ps_ret (pe_cal G__law_read (hr.mono (by (first | subst "lev" | fail))) rfl (pa_cons (pv 0) (pa_cons (pv 1) pa_nil))))) pss_nil) (pss_one (ps_ret (pe_cal G__law_number (hr.mono (by (first | subst "lev" | fail))) rfl (pa_cons (pv 0) pa_nil))))) pss_nil) (pss_cons (ps_if (pt_cmpR (op_eqA (hu64 hr)) (pv 3) pe_int (nomark _)) (pss_one (ps_ret (pe_tup (pa_cons (pe_cal G__law_pick (hr.mono (by (first | subst "lev" | fail))) rfl (pa_cons (pv 0) (pa_cons (pe_lst (pa_cons pe_str (pa_cons pe_str pa_nil))) pa_nil))) (pa_cons (pe_cal G__law_expression (hr.mono (by (first | subst "lev" | fail))) rfl (pa_cons (pv 0) (pa_cons (pv 1) (pa_cons (pe_op op_sub (pv 2) pe_int) pa_nil)))) pa_nil))))) pss_nil) (pss_cons (ps_set (i := 4) sc__law_expression.nd rfl (by first | exact Or.inl rfl | exact Or.inr rfl) (pe_cal G__law_expression (hr.mono (by (first | subst "lev" | fail))) rfl (pa_cons (pv 0) (pa_cons (pv 1) (pa_cons (pe_op op_sub (pv 2) pe_int) pa_nil))))) (pss_one (ps_ret (pe_tup (pa_cons (pe_cal G__law_operator (hr.mono (by (first | subst "lev" | fail))) rfl (pa_cons (pv 0) pa_nil)) (pa_cons (pv 4) (pa_cons (pe_cal G__law_expression (hr.mono (by (first | subst "lev" | fail))) rfl (pa_cons (pv 0) (pa_cons (pv 1) (pa_cons (pe_op op_sub (pv 2) pe_int) pa_nil)))) pa_nil)))))))))), ?_⟩
  try dsimp only [cxOf, Cx.nox]
  have en0 := en
  obtain ⟨kvs, ca, ra, sa, cells, reads, spans, h1, h2, h3, h4, h5, h6, h7, h8, h9, h10, l0, l1, l2, l3, l4, m1, m2, m3, m4⟩ := en
  repeat' (first | specialize "st" | fail)
  · exact q t _ _ iv ok (by omega) (by (first | subst "kp" | fail)) (by (first | subst "st_ok" | fail))
  · exact q (.num nk) _ _ iv ⟨k0, k1⟩ (by simp [Tm.deep]) (by (first | subst "kp" | fail)) (by (first | subst "st_ok" | fail))
  · exact q t _ _ iv ok (by omega) (by (first | subst "kp" | fail)) (by (first | subst "st_ok" | fail))
  · exact q (.num nk) _ _ iv ⟨k0, k1⟩ (by simp [Tm.deep]) (by (first | subst "kp" | fail)) (by (first | subst "st_ok" | fail))
  · refine c_expr (W := W) (R := R) (c := c) (k := k - 1) (by omega) (by omega) (by (first | subst "st_ok" | fail)) (by (first | subst "env" | fail)) ?_
    intro t x Hn iv ok dp ke so
    have hv := List.mem_of_getElem? ej
    simp only [List.mem_cons, List.not_mem_nil, or_false] at hv
    repeat' (first | specialize "st" | fail)
    rcases hv with rfl | rfl
    · exact q (.neg t) _ _ ⟨_, _, rfl, by assumption, by (first | subst "tm" | fail)⟩ ok (by simp only [Tm.deep]; omega) (by (first | subst "kp" | fail)) (by (first | subst "st_ok" | fail))
    · exact q (.not t) _ _ ⟨_, _, rfl, by assumption, by (first | subst "tm" | fail)⟩ ok (by simp only [Tm.deep]; omega) (by (first | subst "kp" | fail)) (by (first | subst "st_ok" | fail))
  · refine c_expr (W := W) (R := R) (c := c) (k := k - 1) (by omega) (by omega) (by (first | subst "st_ok" | fail)) (by (first | subst "env" | fail)) ?_
    intro t1 x1 Hn iv1 ok1 dp1 ke so
    repeat' (first | specialize "st" | fail)
    refine c_expr (W := W) (R := R) (c := c) (k := k - 1) (by omega) (by omega) (by (first | subst "st_ok" | fail)) (by (first | subst "env" | fail)) ?_
    intro t2 x2 Hn iv2 ok2 dp2 ke so
    repeat' (first | specialize "st" | fail)
    exact q (.bin o t1 t2) _ _ ⟨_, _, _, rfl, by assumption, by (first | subst "tm" | fail), by (first | subst "tm" | fail)⟩ ⟨ok1, ok2⟩ (by simp only [Tm.deep]; omega) (by (first | subst "kp" | fail)) (by (first | subst "st_ok" | fail))
theorem expression_all (T : Glo K w mg) (D : Dn K mg "_law_expression" s__law_expression p__law_expression) (G__law_draw : Cal P w K mg base "_law_draw" 1 p__law_draw sp_draw) (G__law_pick : Cal P w K mg base "_law_pick" 2 p__law_pick (sp_pick K))
    (G__law_number : Cal P w K mg base "_law_number" 3 p__law_number sp_number) (G__law_operator : Cal P w K mg base "_law_operator" 3 p__law_operator sp_operator) (G__law_read : Cal P w K mg base "_law_read" 4 p__law_read (sp_read)) :
    ∀ d, Cal P w K mg base "_law_expression" (d + 4) p__law_expression (sp_expr d)
  | 0 => by
    refine D.ok sc__law_expression (fun vs H Q E h => ?_) (fun f cdv A outer s H vs Q E hr h => ?_)
    · obtain ⟨_, _, _, _, _, _, rfl, _⟩ := h
      rfl
    · obtain ⟨_, _, _, _, _, _, _, h, _⟩ := h
      exact absurd h (Nat.not_lt_zero _)
  | d + 1 => ok_expression T D G__law_draw G__law_pick G__law_number G__law_operator G__law_read (expression_all T D G__law_draw G__law_pick G__law_number G__law_operator G__law_read d)
/-! ### statements -/
mutual
inductive Sx
  | skip | stop | set (t e : Tm) | give (c : Int) (e : Tm) | take (c : Int) (t : Tm) | ife (e : Tm) (a b : Sx) | rep (e : Tm) (n : Int) (a : Sx) | seq (ss : Ss) | par (ps : Ps) | alt (rs : As)
inductive Ss
  | nil | cons (s : Sx) (r : Ss)
inductive Ps
  | nil | cons (t : Int) (s : Sx) (r : Ps)
inductive As
  | nil | cons (g : Option Tm) (c : Int) (t : Tm) (s : Sx) (r : As)
end
def gIn (H : Hp) : Option Tm → V → Prop
  | none, v => v = .non
  | some e, v => e.In H v
mutual
/-- a statement stands at v; none of its lists is among M -/
def Sx.In (M : List Addr) (H : Hp) : Sx → V → Prop
  | .skip, v => ∃ p, v = .ref p ∧ H p = some (.tup [.str "skip"])
  | .stop, v => ∃ p, v = .ref p ∧ H p = some (.tup [.str "stop"])
  | .set t e, v => ∃ p x y, v = .ref p ∧ H p = some (.tup [.str "set", x, y]) ∧ t.In H x ∧ e.In H y
  | .give c e, v => ∃ p x, v = .ref p ∧ H p = some (.tup [.str "give", .int c, x]) ∧ e.In H x
  | .take c t, v => ∃ p x, v = .ref p ∧ H p = some (.tup [.str "take", .int c, x]) ∧ t.In H x
  | .ife e a b, v => ∃ p x y z, v = .ref p ∧ H p = some (.tup [.str "if", x, y, z]) ∧ e.In H x ∧ a.In M H y ∧ b.In M H z
  | .rep e n a, v => ∃ p x y, v = .ref p ∧ H p = some (.tup [.str "repeat", x, .int n, y]) ∧ e.In H x ∧ a.In M H y
  | .seq ss, v => ∃ p l xs, v = .ref p ∧ H p = some (.tup [.str "seq", .ref l]) ∧ H l = some (.lst xs) ∧ l ∉ M ∧ ss.In M H xs
  | .par ps, v => ∃ p l xs, v = .ref p ∧ H p = some (.tup [.str "par", .ref l]) ∧ H l = some (.lst xs) ∧ l ∉ M ∧ ps.In M H xs
  | .alt rs, v => ∃ p l xs, v = .ref p ∧ H p = some (.tup [.str "alt", .ref l]) ∧ H l = some (.lst xs) ∧ l ∉ M ∧ rs.In M H xs
def Ss.In (M : List Addr) (H : Hp) : Ss → List V → Prop
  | .nil, xs => xs = []
  | .cons s r, xs => ∃ x ys, xs = x :: ys ∧ s.In M H x ∧ r.In M H ys
def Ps.In (M : List Addr) (H : Hp) : Ps → List V → Prop
  | .nil, xs => xs = []
  | .cons t s r, xs => ∃ q x ys, xs = .ref q :: ys ∧ H q = some (.tup [.int t, x]) ∧ s.In M H x ∧ r.In M H ys
def As.In (M : List Addr) (H : Hp) : As → List V → Prop
  | .nil, xs => xs = []
  | .cons g c t s r, xs => ∃ q u x y ys, xs = .ref q :: ys ∧ H q = some (.tup [u, .int c, x, y]) ∧ gIn H g u ∧ t.In H x ∧ s.In M H y ∧ r.In M H ys
end
theorem gIn.up {H H' : Hp} (k : ∀ p xs, H p = some (.tup xs) → H' p = some (.tup xs)) : ∀ {g : Option Tm} {v : V}, gIn H g v → gIn H' g v
  | none, _, h => h
  | some _, _, h => Tm.In.up k h
mutual
theorem Sx.In.kp {M : List Addr} {H H' : Hp} (k : Kp M H H') : ∀ {s : Sx} {v : V}, s.In M H v → s.In M H' v
  | .skip, _, ⟨p, e, h⟩ => ⟨p, e, k.tup _ _ h⟩
  | .stop, _, ⟨p, e, h⟩ => ⟨p, e, k.tup _ _ h⟩
  | .set _ _, _, ⟨p, x, y, e, h, a, b⟩ => ⟨p, x, y, e, k.tup _ _ h, a.up k.tup, b.up k.tup⟩
  | .give _ _, _, ⟨p, x, e, h, a⟩ => ⟨p, x, e, k.tup _ _ h, a.up k.tup⟩
  | .take _ _, _, ⟨p, x, e, h, a⟩ => ⟨p, x, e, k.tup _ _ h, a.up k.tup⟩
  | .ife _ _ _, _, ⟨p, x, y, z, e, h, a, b, c⟩ => ⟨p, x, y, z, e, k.tup _ _ h, a.up k.tup, Sx.In.kp k b, Sx.In.kp k c⟩
  | .rep _ _ _, _, ⟨p, x, y, e, h, a, b⟩ => ⟨p, x, y, e, k.tup _ _ h, a.up k.tup, Sx.In.kp k b⟩
  | .seq _, _, ⟨p, l, xs, e, h, hl, m, a⟩ => ⟨p, l, xs, e, k.tup _ _ h, k.out _ _ m hl, m, Ss.In.kp k a⟩
  | .par _, _, ⟨p, l, xs, e, h, hl, m, a⟩ => ⟨p, l, xs, e, k.tup _ _ h, k.out _ _ m hl, m, Ps.In.kp k a⟩
  | .alt _, _, ⟨p, l, xs, e, h, hl, m, a⟩ => ⟨p, l, xs, e, k.tup _ _ h, k.out _ _ m hl, m, As.In.kp k a⟩
theorem Ss.In.kp {M : List Addr} {H H' : Hp} (k : Kp M H H') : ∀ {s : Ss} {v : List V}, s.In M H v → s.In M H' v
  | .nil, _, h => h
  | .cons _ _, _, ⟨x, ys, e, a, b⟩ => ⟨x, ys, e, Sx.In.kp k a, Ss.In.kp k b⟩
theorem Ps.In.kp {M : List Addr} {H H' : Hp} (k : Kp M H H') : ∀ {s : Ps} {v : List V}, s.In M H v → s.In M H' v
  | .nil, _, h => h
  | .cons _ _ _, _, ⟨q, x, ys, e, h, a, b⟩ => ⟨q, x, ys, e, k.tup _ _ h, Sx.In.kp k a, Ps.In.kp k b⟩
theorem As.In.kp {M : List Addr} {H H' : Hp} (k : Kp M H H') : ∀ {s : As} {v : List V}, s.In M H v → s.In M H' v
  | .nil, _, h => h
  | .cons _ _ _ _ _, _, ⟨q, u, x, y, ys, e, h, g, a, b, c⟩ => ⟨q, u, x, y, ys, e, k.tup _ _ h, g.up k.tup, a.up k.tup, Sx.In.kp k b, As.In.kp k c⟩
end
/-- what a part of a core may touch: cells written and read, channels given on and taken from -/
structure Fr where
  W : Int → Prop
  R : Int → Prop
  G : Int → Prop
  T : Int → Prop
structure Fr.le (a b : Fr) : Prop where
  w : ∀ k, a.W k → b.W k
  r : ∀ k, a.R k → b.R k
  g : ∀ k, a.G k → b.G k
  t : ∀ k, a.T k → b.T k
theorem Fr.le.refl (a : Fr) : a.le a := ⟨fun _ h => h, fun _ h => h, fun _ h => h, fun _ h => h⟩
theorem Fr.le.trans {a b c : Fr} (h : a.le b) (g : b.le c) : a.le c := ⟨fun k q => g.w k (h.w k q), fun k q => g.r k (h.r k q), fun k q => g.g k (h.g k q), fun k q => g.t k (h.t k q)⟩
structure Fr.apart (a b : Fr) : Prop where
  w : ∀ k, a.W k → ¬ b.W k ∧ ¬ b.R k
  r : ∀ k, b.W k → ¬ a.R k
  g : ∀ c, a.G c → ¬ b.G c
  t : ∀ c, a.T c → ¬ b.T c
theorem Fr.apart.le {a b c d : Fr} (h : a.apart b) (p : c.le a) (q : d.le b) : c.apart d := ⟨fun k x => ⟨fun y => (h.w k (p.w k x)).1 (q.w k y), fun y => (h.w k (p.w k x)).2 (q.r k y)⟩, fun k x y => h.r k (q.w k x) (p.r k y), fun k x y => h.g k (p.g k x) (q.g k y), fun k x y => h.t k (p.t k x) (q.t k y)⟩
def gFit (R : Int → Prop) : Option Tm → Prop
  | none => True
  | some e => e.fit R ∧ e.deep ≤ 5
def gDeep : Option Tm → Prop
  | none => True
  | some e => e.deep ≤ 5
theorem gFit.mono {R S : Int → Prop} (h : ∀ k, R k → S k) : ∀ {g : Option Tm}, gFit R g → gFit S g
  | none, _ => trivial
  | some _, a => ⟨a.1.mono h, a.2⟩
mutual
def Sx.fit (F : Fr) : Sx → Prop
  | .skip => True
  | .stop => True
  | .set t e => t.aim F.W F.R ∧ t.deep ≤ 5 ∧ e.fit F.R ∧ e.deep ≤ 5
  | .give c e => F.G c ∧ e.fit F.R ∧ e.deep ≤ 5
  | .take c t => F.T c ∧ t.aim F.W F.R ∧ t.deep ≤ 5
  | .ife e a b => e.fit F.R ∧ e.deep ≤ 5 ∧ a.fit F ∧ b.fit F
  | .rep e n a => e.fit F.R ∧ e.deep ≤ 5 ∧ 0 ≤ n ∧ n < 100 ∧ a.fit F
  | .seq ss => ss.fit F
  | .par ps => ps.fit F
  | .alt rs => rs.fit F
def Ss.fit (F : Fr) : Ss → Prop
  | .nil => True
  | .cons s r => s.fit F ∧ r.fit F
def Ps.fit (F : Fr) : Ps → Prop
  | .nil => True
  | .cons _ s r => s.fit F ∧ r.fit F
def As.fit (F : Fr) : As → Prop
  | .nil => True
  | .cons g c t s r => gFit F.R g ∧ F.T c ∧ t.aim F.W F.R ∧ t.deep ≤ 5 ∧ s.fit F ∧ r.fit F
end
mutual
theorem Sx.fit.mono {F F' : Fr} (l : F.le F') : ∀ {s : Sx}, s.fit F → s.fit F'
  | .skip, h => h
  | .stop, h => h
  | .set _ _, h => ⟨h.1.mono l.r l.w, h.2.1, h.2.2.1.mono l.r, h.2.2.2⟩
  | .give _ _, h => ⟨l.g _ h.1, h.2.1.mono l.r, h.2.2⟩
  | .take _ _, h => ⟨l.t _ h.1, h.2.1.mono l.r l.w, h.2.2⟩
  | .ife _ _ _, h => ⟨h.1.mono l.r, h.2.1, Sx.fit.mono l h.2.2.1, Sx.fit.mono l h.2.2.2⟩
  | .rep _ _ _, h => ⟨h.1.mono l.r, h.2.1, h.2.2.1, h.2.2.2.1, Sx.fit.mono l h.2.2.2.2⟩
  | .seq ss, h => Ss.fit.mono (s := ss) l h
  | .par ss, h => Ps.fit.mono (s := ss) l h
  | .alt ss, h => As.fit.mono (s := ss) l h
theorem Ss.fit.mono {F F' : Fr} (l : F.le F') : ∀ {s : Ss}, s.fit F → s.fit F'
  | .nil, h => h
  | .cons _ _, h => ⟨Sx.fit.mono l h.1, Ss.fit.mono l h.2⟩
theorem Ps.fit.mono {F F' : Fr} (l : F.le F') : ∀ {s : Ps}, s.fit F → s.fit F'
  | .nil, h => h
  | .cons _ _ _, h => ⟨Sx.fit.mono l h.1, Ps.fit.mono l h.2⟩
theorem As.fit.mono {F F' : Fr} (l : F.le F') : ∀ {s : As}, s.fit F → s.fit F'
  | .nil, h => h
  | .cons _ _ _ _ _, h => ⟨h.1.mono l.r, l.t _ h.2.1, h.2.2.1.mono l.r l.w, h.2.2.2.1, Sx.fit.mono l h.2.2.2.2.1, As.fit.mono l h.2.2.2.2.2⟩
end
def Ps.fits : Ps → List Fr → Prop
  | .nil, fs => fs = []
  | .cons _ s r, fs => ∃ f l, fs = f :: l ∧ s.fit f ∧ r.fits l
def As.chs : As → List Int
  | .nil => []
  | .cons _ c _ _ r => c :: r.chs
mutual
/-- branches of a par touch nothing in common; the rows of an alt are over different channels -/
def Sx.rule : Sx → Prop
  | .ife _ a b => a.rule ∧ b.rule
  | .rep _ _ a => a.rule
  | .seq ss => ss.rule
  | .par ps => (∃ fs, ps.fits fs ∧ fs.Pairwise Fr.apart) ∧ ps.rule
  | .alt rs => rs.chs.Nodup ∧ rs.rule
  | _ => True
def Ss.rule : Ss → Prop
  | .nil => True
  | .cons s r => s.rule ∧ r.rule
def Ps.rule : Ps → Prop
  | .nil => True
  | .cons _ s r => s.rule ∧ r.rule
def As.rule : As → Prop
  | .nil => True
  | .cons _ _ _ s r => s.rule ∧ r.rule
end
mutual
/-- how many branches -/
def Sx.cnt : Sx → Nat
  | .ife _ a b => a.cnt + b.cnt
  | .rep _ _ a => a.cnt
  | .seq ss => ss.cnt
  | .par ps => ps.cnt
  | .alt rs => rs.cnt
  | _ => 0
def Ss.cnt : Ss → Nat
  | .nil => 0
  | .cons s r => s.cnt + r.cnt
def Ps.cnt : Ps → Nat
  | .nil => 0
  | .cons _ s r => 1 + s.cnt + r.cnt
def As.cnt : As → Nat
  | .nil => 0
  | .cons _ _ _ s r => s.cnt + r.cnt
end
mutual
/-- the branches' numbers, in the order of the text from t -/
def Sx.num : Sx → Int → Prop
  | .ife _ a b, t => a.num t ∧ b.num (t + a.cnt)
  | .rep _ _ a, t => a.num t
  | .seq ss, t => ss.num t
  | .par ps, t => ps.num t
  | .alt rs, t => rs.num t
  | _, _ => True
def Ss.num : Ss → Int → Prop
  | .nil, _ => True
  | .cons s r, t => s.num t ∧ r.num (t + s.cnt)
def Ps.num : Ps → Int → Prop
  | .nil, _ => True
  | .cons k s r, t => k = t ∧ s.num (t + 1) ∧ r.num (t + 1 + s.cnt)
def As.num : As → Int → Prop
  | .nil, _ => True
  | .cons _ _ _ s r, t => s.num t ∧ r.num (t + s.cnt)
end
mutual
theorem Sx.num0 : ∀ {s : Sx}, s.cnt = 0 → ∀ t, s.num t
  | .ife _ a b, h, t => by
    have h' : a.cnt + b.cnt = 0 := h
    exact ⟨Sx.num0 (by omega) _, Sx.num0 (by omega) _⟩
  | .rep _ _ a, h, t => Sx.num0 (s := a) h t
  | .seq ss, h, t => Ss.num0 (s := ss) h t
  | .par ss, h, t => Ps.num0 (s := ss) h t
  | .alt ss, h, t => As.num0 (s := ss) h t
  | .skip, _, _ => trivial
  | .stop, _, _ => trivial
  | .set _ _, _, _ => trivial
  | .give _ _, _, _ => trivial
  | .take _ _, _, _ => trivial
theorem Ss.num0 : ∀ {s : Ss}, s.cnt = 0 → ∀ t, s.num t
  | .nil, _, _ => trivial
  | .cons a b, h, t => by
    have h' : a.cnt + b.cnt = 0 := h
    exact ⟨Sx.num0 (by omega) _, Ss.num0 (by omega) _⟩
theorem Ps.num0 : ∀ {s : Ps}, s.cnt = 0 → ∀ t, s.num t
  | .nil, _, _ => trivial
  | .cons k a b, h, t => by
    have h' : 1 + a.cnt + b.cnt = 0 := h
    omega
theorem As.num0 : ∀ {s : As}, s.cnt = 0 → ∀ t, s.num t
  | .nil, _, _ => trivial
  | .cons _ _ _ a b, h, t => by
    have h' : a.cnt + b.cnt = 0 := h
    exact ⟨Sx.num0 (by omega) _, As.num0 (by omega) _⟩
end
mutual
def Sx.dep : Sx → Nat
  | .ife _ a b => 1 + max a.dep b.dep
  | .rep _ _ a => 1 + a.dep
  | .seq ss => 1 + ss.dep
  | .par ps => 1 + ps.dep
  | .alt rs => 1 + rs.dep
  | _ => 1
def Ss.dep : Ss → Nat
  | .nil => 0
  | .cons s r => max s.dep r.dep
def Ps.dep : Ps → Nat
  | .nil => 0
  | .cons _ s r => max s.dep r.dep
def As.dep : As → Nat
  | .nil => 0
  | .cons _ _ _ s r => max s.dep r.dep
end
mutual
def Sx.sz : Sx → Nat
  | .ife _ a b => 1 + a.sz + b.sz
  | .rep _ _ a => 1 + a.sz
  | .seq ss => 1 + ss.sz
  | .par ps => 1 + ps.sz
  | .alt rs => 1 + rs.sz
  | _ => 1
def Ss.sz : Ss → Nat
  | .nil => 0
  | .cons s r => s.sz + r.sz
def Ps.sz : Ps → Nat
  | .nil => 0
  | .cons _ s r => s.sz + r.sz
def As.sz : As → Nat
  | .nil => 0
  | .cons _ _ _ s r => s.sz + r.sz
end
mutual
def Sx.wk : Sx → Int
  | .give _ _ => 2
  | .take _ _ => 2
  | .ife _ a b => max a.wk b.wk + 1
  | .rep _ n a => 1 + n * (a.wk + 1)
  | .seq ss => ss.wk + 1
  | .par ps => ps.wk + 2
  | .alt rs => rs.wk + 2
  | _ => 1
def Ss.wk : Ss → Int
  | .nil => 0
  | .cons s r => s.wk + r.wk
def Ps.wk : Ps → Int
  | .nil => 0
  | .cons _ s r => s.wk + r.wk
def As.wk : As → Int
  | .nil => 0
  | .cons _ _ _ s r => max s.wk r.wk
end
/-! rows that go on -/
def Ss.app : Ss → Ss → Ss
  | .nil, y => y
  | .cons s r, y => .cons s (r.app y)
def As.app : As → As → As
  | .nil, y => y
  | .cons g c t s r, y => .cons g c t s (r.app y)
def Ps.app : Ps → Ps → Ps
  | .nil, y => y
  | .cons t s r, y => .cons t s (r.app y)
theorem Ss.app_in {M : List Addr} {H : Hp} : ∀ {a b : Ss} {xs ys : List V}, a.In M H xs → b.In M H ys → (a.app b).In M H (xs ++ ys)
  | .nil, _, _, _, h, g => by cases h; exact g
  | .cons _ r, _, _, _, ⟨x, zs, e, p, q⟩, g => by subst e; exact ⟨x, _, rfl, p, Ss.app_in q g⟩
theorem As.app_in {M : List Addr} {H : Hp} : ∀ {a b : As} {xs ys : List V}, a.In M H xs → b.In M H ys → (a.app b).In M H (xs ++ ys)
  | .nil, _, _, _, h, g => by cases h; exact g
  | .cons _ _ _ _ r, _, _, _, ⟨q0, u, x, y, zs, e, p, p2, p3, p4, q⟩, g => by subst e; exact ⟨q0, u, x, y, _, rfl, p, p2, p3, p4, As.app_in q g⟩
theorem Ps.app_in {M : List Addr} {H : Hp} : ∀ {a b : Ps} {xs ys : List V}, a.In M H xs → b.In M H ys → (a.app b).In M H (xs ++ ys)
  | .nil, _, _, _, h, g => by cases h; exact g
  | .cons _ _ r, _, _, _, ⟨q0, x, zs, e, p, p2, q⟩, g => by subst e; exact ⟨q0, x, _, rfl, p, p2, Ps.app_in q g⟩
theorem Ss.app_fit {F : Fr} : ∀ {a b : Ss}, (a.app b).fit F ↔ a.fit F ∧ b.fit F
  | .nil, b => by simp [Ss.app, Ss.fit]
  | .cons s r, b => by simp only [Ss.app, Ss.fit, Ss.app_fit (a := r), and_assoc]
theorem As.app_fit {F : Fr} : ∀ {a b : As}, (a.app b).fit F ↔ a.fit F ∧ b.fit F
  | .nil, b => by simp [As.app, As.fit]
  | .cons _ _ _ _ r, b => by simp only [As.app, As.fit, As.app_fit (a := r), and_assoc]
theorem Ss.app_rule : ∀ {a b : Ss}, (a.app b).rule ↔ a.rule ∧ b.rule
  | .nil, b => by simp [Ss.app, Ss.rule]
  | .cons s r, b => by simp only [Ss.app, Ss.rule, Ss.app_rule (a := r), and_assoc]
theorem As.app_rule : ∀ {a b : As}, (a.app b).rule ↔ a.rule ∧ b.rule
  | .nil, b => by simp [As.app, As.rule]
  | .cons _ _ _ _ r, b => by simp only [As.app, As.rule, As.app_rule (a := r), and_assoc]
theorem Ps.app_rule : ∀ {a b : Ps}, (a.app b).rule ↔ a.rule ∧ b.rule
  | .nil, b => by simp [Ps.app, Ps.rule]
  | .cons _ _ r, b => by simp only [Ps.app, Ps.rule, Ps.app_rule (a := r), and_assoc]
theorem As.app_chs : ∀ {a b : As}, (a.app b).chs = a.chs ++ b.chs
  | .nil, b => rfl
  | .cons _ _ _ _ r, b => by simp only [As.app, As.chs, As.app_chs (a := r), List.cons_append]
theorem Ss.app_cnt : ∀ {a b : Ss}, (a.app b).cnt = a.cnt + b.cnt
  | .nil, b => by simp [Ss.app, Ss.cnt]
  | .cons s r, b => by simp only [Ss.app, Ss.cnt, Ss.app_cnt (a := r)]; omega
theorem As.app_cnt : ∀ {a b : As}, (a.app b).cnt = a.cnt + b.cnt
  | .nil, b => by simp [As.app, As.cnt]
  | .cons _ _ _ _ r, b => by simp only [As.app, As.cnt, As.app_cnt (a := r)]; omega
theorem Ps.app_cnt : ∀ {a b : Ps}, (a.app b).cnt = a.cnt + b.cnt
  | .nil, b => by simp [Ps.app, Ps.cnt]
  | .cons _ s r, b => by simp only [Ps.app, Ps.cnt, Ps.app_cnt (a := r)]; omega
theorem Ss.app_num : ∀ {a b : Ss} {t : Int}, (a.app b).num t ↔ a.num t ∧ b.num (t + a.cnt)
  | .nil, b, t => by simp [Ss.app, Ss.num, Ss.cnt]
  | .cons s r, b, t => by
    simp only [Ss.app, Ss.num, Ss.app_num (a := r), Ss.cnt, and_assoc]
    rw [show t + (s.cnt : Int) + (r.cnt : Int) = t + ((s.cnt + r.cnt : Nat) : Int) by omega]
theorem Ps.app_num : ∀ {a b : Ps} {t : Int}, (a.app b).num t ↔ a.num t ∧ b.num (t + a.cnt)
  | .nil, b, t => by simp [Ps.app, Ps.num, Ps.cnt]
  | .cons k s r, b, t => by
    simp only [Ps.app, Ps.num, Ps.app_num (a := r), Ps.cnt, and_assoc]
    rw [show t + 1 + (s.cnt : Int) + (r.cnt : Int) = t + ((1 + s.cnt + r.cnt : Nat) : Int) by omega]
theorem Ss.app_dep : ∀ {a b : Ss}, (a.app b).dep = max a.dep b.dep
  | .nil, b => by simp [Ss.app, Ss.dep]
  | .cons s r, b => by simp only [Ss.app, Ss.dep, Ss.app_dep (a := r)]; omega
theorem As.app_dep : ∀ {a b : As}, (a.app b).dep = max a.dep b.dep
  | .nil, b => by simp [As.app, As.dep]
  | .cons _ _ _ _ r, b => by simp only [As.app, As.dep, As.app_dep (a := r)]; omega
theorem Ps.app_dep : ∀ {a b : Ps}, (a.app b).dep = max a.dep b.dep
  | .nil, b => by simp [Ps.app, Ps.dep]
  | .cons _ s r, b => by simp only [Ps.app, Ps.dep, Ps.app_dep (a := r)]; omega
theorem Ss.app_sz : ∀ {a b : Ss}, (a.app b).sz = a.sz + b.sz
  | .nil, b => by simp [Ss.app, Ss.sz]
  | .cons s r, b => by simp only [Ss.app, Ss.sz, Ss.app_sz (a := r)]; omega
theorem As.app_sz : ∀ {a b : As}, (a.app b).sz = a.sz + b.sz
  | .nil, b => by simp [As.app, As.sz]
  | .cons _ _ _ _ r, b => by simp only [As.app, As.sz, As.app_sz (a := r)]; omega
theorem Ps.app_sz : ∀ {a b : Ps}, (a.app b).sz = a.sz + b.sz
  | .nil, b => by simp [Ps.app, Ps.sz]
  | .cons _ s r, b => by simp only [Ps.app, Ps.sz, Ps.app_sz (a := r)]; omega
theorem Ss.app_wk : ∀ {a b : Ss}, (a.app b).wk = a.wk + b.wk
  | .nil, b => by simp [Ss.app, Ss.wk]
  | .cons s r, b => by simp only [Ss.app, Ss.wk, Ss.app_wk (a := r)]; omega
theorem As.wk0 : ∀ {a : As}, 0 ≤ a.wk
  | .nil => Int.le_refl 0
  | .cons _ _ _ s r => by
    have h := As.wk0 (a := r)
    simp only [As.wk]
    omega
theorem As.app_wk : ∀ {a b : As}, (a.app b).wk = max a.wk b.wk
  | .nil, b => by
    have h := As.wk0 (a := b)
    simp only [As.app, As.wk]
    omega
  | .cons _ _ _ _ r, b => by simp only [As.app, As.wk, As.app_wk (a := r)]; omega
theorem Ps.app_wk : ∀ {a b : Ps}, (a.app b).wk = a.wk + b.wk
  | .nil, b => by simp [Ps.app, Ps.wk]
  | .cons _ s r, b => by simp only [Ps.app, Ps.wk, Ps.app_wk (a := r)]; omega
theorem Ss.in_len {M : List Addr} {H : Hp} : ∀ {a : Ss} {xs : List V}, a.In M H xs → xs.length ≤ a.sz
  | .nil, _, h => by cases h; exact Nat.le_refl 0
  | .cons s r, _, ⟨x, zs, e, p, q⟩ => by
    subst e
    have h := Ss.in_len q
    have : 0 < s.sz := by cases s <;> simp only [Sx.sz] <;> omega
    simp only [List.length_cons, Ss.sz]
    omega
theorem As.in_len {M : List Addr} {H : Hp} : ∀ {a : As} {xs : List V}, a.In M H xs → xs.length ≤ a.sz
  | .nil, _, h => by cases h; exact Nat.le_refl 0
  | .cons _ _ _ s r, _, ⟨q0, u, x, y, zs, e, p, p2, p3, p4, q⟩ => by
    subst e
    have h := As.in_len q
    have : 0 < s.sz := by cases s <;> simp only [Sx.sz] <;> omega
    simp only [List.length_cons, As.sz]
    omega
theorem Ps.in_len {M : List Addr} {H : Hp} : ∀ {a : Ps} {xs : List V}, a.In M H xs → xs.length ≤ a.sz
  | .nil, _, h => by cases h; exact Nat.le_refl 0
  | .cons _ s r, _, ⟨q0, x, zs, e, p, p2, q⟩ => by
    subst e
    have h := Ps.in_len q
    have : 0 < s.sz := by cases s <;> simp only [Sx.sz] <;> omega
    simp only [List.length_cons, Ps.sz]
    omega
abbrev s__law_set : Stmt := topS 26
theorem sc__law_set : FnScope ["state", "env"] ["state", "env"] (defScope s__law_set) := ⟨rfl, rfl, rfl, by decide +kernel, rfl, by decide +kernel, by decide +kernel⟩
abbrev p__law_set : List Str := ["state", "env"]
abbrev s__law_simple : Stmt := topS 27
theorem sc__law_simple : FnScope ["state", "env", "kind", "cell", "more"] ["state", "env"] (defScope s__law_simple) := ⟨rfl, rfl, rfl, by decide +kernel, rfl, by decide +kernel, by decide +kernel⟩
abbrev p__law_simple : List Str := ["state", "env"]
/-- what M holds besides the draws' state stands -/
def MoS (M : List Addr) (st c : Addr) (H : Hp) : Prop := ∀ x ∈ M, x ∉ [st, c] → ∃ u, H x = some u
theorem MoS.kp {M : List Addr} {st c : Addr} {H H' : Hp} (k : Kp [st, c] H H') (h : MoS M st c H) : MoS M st c H' := fun x hx n => by
  obtain ⟨u, hu⟩ := h x hx n
  exact ⟨u, k.out _ _ n hu⟩
theorem MoS.ex {M : List Addr} {st c : Addr} {H H' : Hp} (k : Ex H H') (h : MoS M st c H) : MoS M st c H' := h.kp k.kp
theorem MoS.fresh {M : List Addr} {st c p : Addr} {H : Hp} (so : StOk st c H) (h : MoS M st c H) (hp : H p = none) : p ∉ M := fun hm => by
  obtain ⟨u, hu⟩ := h p hm (st_fresh so hp)
  rw [hp] at hu
  cases hu
local macro_rules | `(tactic| exists "mok") => `(tactic| (refine MoS.kp (by assumption) ?_; exists "mok"))
local macro_rules | `(tactic| exists "mok") => `(tactic| (refine MoS.ex (by assumption) ?_; exists "mok"))
local macro_rules | `(tactic| exists "mok") => `(tactic| assumption)
theorem sx_ex {M : List Addr} {H H' : Hp} {s : Sx} {v : V} (k : Ex H H') (h : s.In M H v) : s.In M H' v := Sx.In.kp k.kp h
theorem kp_sub2 {M : List Addr} {st c : Addr} {H H' : Hp} (k : Kp [st, c] H H') (h1 : st ∈ M) (h2 : c ∈ M) : Kp M H H' := Kp.sub k (fun x hx => by
  simp only [List.mem_cons, List.not_mem_nil, or_false] at hx
  rcases hx with rfl | rfl
  · exact h1
  · exact h2)
theorem sx_kp {M : List Addr} {st c : Addr} {H H' : Hp} {s : Sx} {v : V} (k : Kp [st, c] H H') (h1 : st ∈ M) (h2 : c ∈ M) (h : s.In M H v) : s.In M H' v := Sx.In.kp (kp_sub2 k h1 h2) h
local macro_rules | `(tactic| subst "sx") => `(tactic| (refine sx_kp (by assumption) (by assumption) (by assumption) ?_; subst "sx"))
local macro_rules | `(tactic| subst "sx") => `(tactic| (refine sx_ex (by assumption) ?_; subst "sx"))
local macro_rules | `(tactic| subst "sx") => `(tactic| assumption)
/-- a statement without branches that a part F of a core may do -/
structure Sx.Pl (F : Fr) (D S : Nat) (k : Int) (s : Sx) : Prop where
  fit : s.fit F
  rule : s.rule
  cnt : s.cnt = 0
  dep : s.dep ≤ D
  sz : s.sz ≤ S
  wk : s.wk ≤ k
theorem Sx.Pl.wid {F : Fr} {D S D' S' : Nat} {k k' : Int} {s : Sx} (h : s.Pl F D S k) (a : D ≤ D') (b : S ≤ S') (c : k ≤ k') : s.Pl F D' S' k' := ⟨h.fit, h.rule, h.cnt, Nat.le_trans h.dep a, Nat.le_trans h.sz b, Int.le_trans h.wk c⟩
theorem Sx.Pl.mono {F F' : Fr} {D S : Nat} {k : Int} {s : Sx} (h : s.Pl F D S k) (l : F.le F') : s.Pl F' D S k := ⟨h.fit.mono l, h.rule, h.cnt, h.dep, h.sz, h.wk⟩
def sp_sx (D S : Nat) (k : Int) : Sp := fun vs H Q _ => ∃ (F : Fr) (M : List Addr) (st c e : Addr), vs = [.ref st, .ref e] ∧ st ∈ M ∧ c ∈ M ∧ StOk st c H ∧ MoS M st c H ∧ EnvOk F.W F.R st c e H ∧ ∀ (s : Sx) (v : V) (H' : Hp), s.In M H' v → s.Pl F D S k → Kp [st, c] H H' → StOk st c H' → Q v H'
theorem c_sx {D S : Nat} {k : Int} {F : Fr} {M : List Addr} {st c e : Addr} {H : Hp} {Q : VK} {E : XK} (m1 : st ∈ M) (m2 : c ∈ M) (h1 : StOk st c H) (h2 : MoS M st c H) (h3 : EnvOk F.W F.R st c e H) (q : ∀ (s : Sx) (v : V) (H' : Hp), s.In M H' v → s.Pl F D S k → Kp [st, c] H H' → StOk st c H' → Q v H') : sp_sx D S k [.ref st, .ref e] H Q E :=
  ⟨F, M, st, c, e, rfl, m1, m2, h1, h2, h3, q⟩
set_option hygiene false in
local macro_rules | `(tactic| subst "i_c_expr") => `(tactic| intro t x Hn iv ok dp ke so)
local macro_rules | `(tactic| injection "own") => `(tactic| (refine c_expr (W := ?W) (R := ?R) (c := ?c) (k := 0) rfl (by decide) ?a ?b ?_; (case a => subst "st_ok"); (case b => subst "env"); subst "i_c_expr"))
local macro_rules | `(tactic| injection "own") => `(tactic| (refine c_expr (W := ?W) (R := ?R) (c := ?c) (k := 1) rfl (by decide) ?a ?b ?_; (case a => subst "st_ok"); (case b => subst "env"); subst "i_c_expr"))
local macro_rules | `(tactic| injection "own") => `(tactic| (refine c_expr (W := ?W) (R := ?R) (c := ?c) (k := 2) rfl (by decide) ?a ?b ?_; (case a => subst "st_ok"); (case b => subst "env"); subst "i_c_expr"))
theorem ok_set (T : Glo K w mg) (D : Dn K mg "_law_set" s__law_set p__law_set) (G__law_target : Cal P w K mg base "_law_target" 4 p__law_target sp_target) (G__law_expression : Cal P w K mg base "_law_expression" 7 p__law_expression (sp_expr 3)) :
    Cal P w K mg base "_law_set" 8 p__law_set (sp_sx 1 1 1) := by
  refine D.ok sc__law_set (fun vs H Q E h => ?_) (fun f cdv A outer s H vs Q E hr h => ?_)
  · obtain ⟨_, _, _, _, _, rfl, _⟩ := h
    rfl
  obtain ⟨F, M, st, c, e, rfl, m1, m2, so, mo, en, q⟩ := h
  refine ⟨_, (pss_one (ps_ret (pe_tup (pa_cons pe_str (pa_cons (pe_cal G__law_target (hr.mono (by (first | subst "lev" | fail))) rfl (pa_cons (pv 0) (pa_cons (pv 1) pa_nil))) (pa_cons (pe_cal G__law_expression (hr.mono (by (first | subst "lev" | fail))) rfl (pa_cons (pv 0) (pa_cons (pv 1) (pa_cons pe_int pa_nil)))) pa_nil)))))), ?_⟩
  try dsimp only [cxOf, Cx.nox]
  repeat' (first | specialize "st" | fail)
  rename_i t1 H1 iv1 ok1 k1 s1 H2 k2
  exact q (.set t1 t) _ _ ⟨_, _, _, rfl, hn, by (first | subst "tm" | fail), by (first | subst "tm" | fail)⟩ ⟨⟨ok1, by omega, ok, by omega⟩, trivial, rfl, by simp [Sx.dep], by simp [Sx.sz], by simp [Sx.wk]⟩ (by (first | subst "kp" | fail)) (by (first | subst "st_ok" | fail))
set_option hygiene false in
local macro_rules | `(tactic| subst "i_c_sx") => `(tactic| intro sx v Hn sv sk ke so)
local macro_rules | `(tactic| injection "own") => `(tactic| (refine c_sx (F := ?F) (M := ?M) (c := ?c) ?m1 ?m2 ?a ?b ?d ?_; (case m1 => assumption); (case m2 => assumption); (case a => subst "st_ok"); (case b => exists "mok"); (case d => subst "env"); subst "i_c_sx"))
theorem ok_simple (T : Glo K w mg) (D : Dn K mg "_law_simple" s__law_simple p__law_simple) (G__law_draw : Cal P w K mg base "_law_draw" 1 p__law_draw sp_draw) (G__law_pick : Cal P w K mg base "_law_pick" 2 p__law_pick (sp_pick K))
    (G__law_expression : Cal P w K mg base "_law_expression" 7 p__law_expression (sp_expr 3)) (G__law_set : Cal P w K mg base "_law_set" 8 p__law_set (sp_sx 1 1 1)) :
    Cal P w K mg base "_law_simple" 9 p__law_simple (sp_sx 3 5 7) := by
  refine D.ok sc__law_simple (fun vs H Q E h => ?_) (fun f cdv A outer s H vs Q E hr h => ?_)
  · obtain ⟨_, _, _, _, _, rfl, _⟩ := h
    rfl
  obtain ⟨F, M, st, c, e, rfl, m1, m2, so, mo, en, q⟩ := h
  refine ⟨_, (pss_cons (ps_set (i := 2) sc__law_simple.nd rfl (by first | exact Or.inl rfl | exact Or.inr rfl) (pe_cal G__law_draw (hr.mono (by (first | subst "lev" | fail))) rfl (pa_cons (pv 0) (pa_cons pe_int pa_nil)))) (pss_cons (ps_if (pt_cmpR (op_eqA (hu64 hr)) (pv 2) pe_int (nomark _)) (pss_one (ps_ret (pe_tup (pa_cons pe_str pa_nil)))) pss_nil) (pss_cons (ps_if (PW.pt (pw_and (pt_cmpR (op_eqA (hu64 hr)) (pv 2) pe_int (nomark _)) (pw_and1 (pt_cmpR (op_eqA (hu64 hr)) (pe_cal G__law_draw (hr.mono (by (first | subst "lev" | fail))) rfl (pa_cons (pv 0) (pa_cons pe_int pa_nil))) pe_int (nomark _))))) (pss_one (ps_ret (pe_tup (pa_cons pe_str pa_nil)))) pss_nil) (pss_cons (ps_if (pt_cmpR (op_eqA (hu64 hr)) (pv 2) pe_int (nomark _)) (pss_one (ps_ret (pe_tup (pa_cons pe_str (pa_cons (pe_cal G__law_expression (hr.mono (by (first | subst "lev" | fail))) rfl (pa_cons (pv 0) (pa_cons (pv 1) (pa_cons pe_int pa_nil)))) (pa_cons (pe_cal G__law_set (hr.mono (by (first | subst "lev" | fail))) rfl (pa_cons (pv 0) (pa_cons (pv 1) pa_nil))) (pa_cons (pe_tup (pa_cons pe_str (pa_cons (pe_lst (pa_cons (pe_cal G__law_set (hr.mono (by (first | subst "lev" | fail))) rfl (pa_cons (pv 0) (pa_cons (pv 1) pa_nil))) (pa_cons (pe_cal G__law_set (hr.mono (by (first | subst "lev" | fail))) rfl (pa_cons (pv 0) (pa_cons (pv 1) pa_nil))) pa_nil))) pa_nil))) pa_nil))))))) pss_nil) (pss_cons (ps_if (pt_cmpR (op_eqA (hu64 hr)) (pv 2) pe_int (nomark _)) (pss_cons (ps_set (i := 3) sc__law_simple.nd rfl (by first | exact Or.inl rfl | exact Or.inr rfl) (pe_tup (pa_cons pe_str (pa_cons (pe_cal G__law_pick (hr.mono (by (first | subst "lev" | fail))) rfl (pa_cons (pv 0) (pa_cons (pe_dget (hu_of hr) (pv 1) pe_str (fun _ _ => rfl)) pa_nil))) pa_nil)))) (pss_cons (ps_set (i := 4) sc__law_simple.nd rfl (by first | exact Or.inl rfl | exact Or.inr rfl) (pe_tup (pa_cons pe_str (pa_cons (pv 3) (pa_cons (pe_tup (pa_cons pe_str (pa_cons (pv 3) (pa_cons (pe_tup (pa_cons pe_str (pa_cons (pe_op op_addA pe_int (pe_cal G__law_draw (hr.mono (by (first | subst "lev" | fail))) rfl (pa_cons (pv 0) (pa_cons pe_int pa_nil)))) pa_nil))) pa_nil)))) pa_nil))))) (pss_one (ps_ret (pe_tup (pa_cons pe_str (pa_cons (pe_tup (pa_cons pe_str (pa_cons (pv 3) (pa_cons (pe_tup (pa_cons pe_str (pa_cons (pe_cal G__law_draw (hr.mono (by (first | subst "lev" | fail))) rfl (pa_cons (pv 0) (pa_cons pe_int pa_nil))) pa_nil))) pa_nil)))) (pa_cons (pe_cal G__law_draw (hr.mono (by (first | subst "lev" | fail))) rfl (pa_cons (pv 0) (pa_cons pe_int pa_nil))) (pa_cons (pv 4) pa_nil))))))))) pss_nil) (pss_one (ps_ret (pe_cal G__law_set (hr.mono (by (first | subst "lev" | fail))) rfl (pa_cons (pv 0) (pa_cons (pv 1) pa_nil)))))))))), ?_⟩
  try dsimp only [cxOf, Cx.nox]
  have en0 := en
  obtain ⟨kvs, ca, ra, sa, cells, reads, spans, h1, h2, h3, h4, h5, h6, h7, h8, h9, h10, l0, l1, l2, l3, l4, z1, z2, z3, z4⟩ := en
  repeat' (first | specialize "st" | fail)
  case refine_2.refine_1 => exact q .skip _ _ ⟨_, rfl, hn⟩ ⟨trivial, trivial, rfl, by decide, by decide, by decide⟩ (by (first | subst "kp" | fail)) (by (first | subst "st_ok" | fail))
  case refine_2.refine_2.refine_1.refine_1 => exact q .stop _ _ ⟨_, rfl, hn⟩ ⟨trivial, trivial, rfl, by decide, by decide, by decide⟩ (by (first | subst "kp" | fail)) (by (first | subst "st_ok" | fail))
  case refine_2.refine_2.refine_1.refine_2.refine_2.refine_2 => exact q sx _ _ sv (sk.wid (by decide) (by decide) (by decide)) (by (first | subst "kp" | fail)) (by (first | subst "st_ok" | fail))
  case refine_2.refine_2.refine_2.refine_2.refine_2 => exact q sx _ _ sv (sk.wid (by decide) (by decide) (by decide)) (by (first | subst "kp" | fail)) (by (first | subst "st_ok" | fail))
  case' refine_2.refine_2.refine_1.refine_2.refine_1 => rename_i s1 v1 H1 i1 k1 e1 y1 s2 v2 H2 i2 k2 e2 y2 H3 e3 p3 H4 hp3 e4 hn3 p4 H5 hp4 e5 hn4
  case' refine_2.refine_2.refine_2.refine_1 => rename_i s1 v1 H1 i1 k1 e1 y1 s2 v2 H2 i2 k2 e2 y2 H3 e3 p3 H4 hp3 e4 hn3 p4 H5 hp4 e5 hn4
  case refine_2.refine_2.refine_1.refine_2.refine_1 | refine_2.refine_2.refine_2.refine_1 =>
    have m3 : p3 ∉ M := MoS.fresh so (by (first | exists "mok" | fail)) hp3
    exact q (.ife t s1 (.seq (.cons s2 (.cons sx .nil)))) _ _ ⟨_, _, _, _, rfl, hn, by (first | subst "tm" | fail), by (first | subst "sx" | fail), ⟨_, p3, _, rfl, by (first | exists "lift" | fail), by (first | exists "lift" | fail), m3, _, _, rfl, by (first | subst "sx" | fail), _, _, rfl, by (first | subst "sx" | fail), rfl⟩⟩ ⟨⟨ok, by omega, k1.fit, k2.fit, sk.fit, trivial⟩, ⟨k1.rule, k2.rule, sk.rule, trivial⟩, by simp [Sx.cnt, Ss.cnt, k1.cnt, k2.cnt, sk.cnt], by have a := k1.dep; have b := k2.dep; have d := sk.dep; simp only [Sx.dep, Ss.dep]; omega, by have a := k1.sz; have b := k2.sz; have d := sk.sz; simp only [Sx.sz, Ss.sz]; omega, by have a := k1.wk; have b := k2.wk; have d := sk.wk; simp only [Sx.wk, Ss.wk]; omega⟩ (by (first | subst "kp" | fail)) (by (first | subst "st_ok" | fail))
  all_goals rename_i y1 p5 H8 hp5 e8 hn5 d1 H7 a1 a2 e7 y7 p4 H6 hp4 e6 hn4 p3 H5 hp3 e5 hn3 p2 H4 hp2 e4 hn2 d0 H3 b1 b2 e3 y3 p1 H2 hp1 e2 hn1 p0 H1 hp0 e1 hn0 H0 e0
  all_goals (obtain ⟨k, hk, rfl⟩ := pk_int (by assumption : (cells.map V.int)[_]? = some _))
  all_goals have hb := h8 k hk
  all_goals exact q (.rep (.bin .lt (.cell k) (.num d0)) dn (.set (.cell k) (.bin .add (.cell k) (.num (1 + d1))))) _ _ ⟨p, .ref p0, .ref p2, rfl, hn, ⟨p0, .ref p5, .ref p1, rfl, by (first | exists "lift" | fail), ⟨p5, rfl, by (first | exists "lift" | fail)⟩, ⟨p1, rfl, by (first | exists "lift" | fail)⟩⟩,
    ⟨p2, .ref p5, .ref p3, rfl, by (first | exists "lift" | fail), ⟨p5, rfl, by (first | exists "lift" | fail)⟩, ⟨p3, .ref p5, .ref p4, rfl, by (first | exists "lift" | fail), ⟨p5, rfl, by (first | exists "lift" | fail)⟩, ⟨p4, rfl, by (first | exists "lift" | fail)⟩⟩⟩⟩ ⟨⟨⟨hb.2, by omega, by omega⟩, by simp [Tm.deep], by omega, by omega, hb.1, by simp [Tm.deep], ⟨hb.2, by omega, by omega⟩, by simp [Tm.deep]⟩, trivial, rfl, by simp [Sx.dep], by simp [Sx.sz], by simp only [Sx.wk]; omega⟩ (by (first | subst "kp" | fail)) (by (first | subst "st_ok" | fail))
abbrev s__law_more_cells : Stmt := topS 28
theorem sc__law_more_cells : FnScope ["world", "many"] ["world", "many"] (defScope s__law_more_cells) := ⟨rfl, rfl, rfl, by decide +kernel, rfl, by decide +kernel, by decide +kernel⟩
abbrev p__law_more_cells : List Str := ["world", "many"]
theorem r_dput {td ty tv : TE} (q : tv σ H fun v H1 => td σ H1 fun x H2 => ty σ H2 fun y H3 => ∃ a H4, x = .ref a ∧ DPut H3 a y v H4 ∧ nx σ H4) : sDPut td ty tv ⟨nx, rt, bk, ct⟩ σ H := q
theorem q_dput {p : Addr} {kvs : List (Key × V)} {z : Str} {B : Hp → Prop} (h : H p = some (.dK kvs)) (hl : kvs.length ≤ 1000) (q : B (upd H p (.dK (putK kvs (Sum.inr z) v)))) : ∃ a H', V.ref p = .ref a ∧ DPut H a (.str z) v H' ∧ B H' :=
  ⟨p, _, rfl, DPut.k (k := Sum.inr z) h (sl1000' (by omega)), q⟩
/-- the world of a core under construction -/
structure Wd where
  threads : Int
  left : Int
  items : Int
  cells : Int
  alts : Bool
  loops : Bool
  chs : List Str
structure WIn (wa ch : Addr) (d : Wd) (H : Hp) : Prop where
  ex : ∃ kvs : List (Key × V), H wa = some (.dK kvs) ∧ kvs.length ≤ 20 ∧ valV kvs (Sum.inr "threads") = some (.int d.threads) ∧ valV kvs (Sum.inr "left") = some (.int d.left) ∧ valV kvs (Sum.inr "items") = some (.int d.items) ∧ valV kvs (Sum.inr "cells") = some (.int d.cells) ∧
    valV kvs (Sum.inr "alts") = some (.bl d.alts) ∧ valV kvs (Sum.inr "loops") = some (.bl d.loops) ∧ valV kvs (Sum.inr "channels") = some (.ref ch)
  hc : H ch = some (.lst (d.chs.map V.str))
  ne : wa ≠ ch
theorem WIn.kp {M : List Addr} {wa ch : Addr} {d : Wd} {H H' : Hp} (k : Kp M H H') (m1 : wa ∉ M) (m2 : ch ∉ M) (h : WIn wa ch d H) : WIn wa ch d H' := by
  obtain ⟨⟨kvs, a, b⟩, c, n⟩ := h
  exact ⟨⟨kvs, k.out _ _ m1 a, b⟩, k.out _ _ m2 c, n⟩
theorem WIn.exx {wa ch : Addr} {d : Wd} {H H' : Hp} (k : Ex H H') (h : WIn wa ch d H) : WIn wa ch d H' := h.kp (M := []) k.kp (by simp) (by simp)
theorem putK_len {kvs : List (Key × V)} {k : Key} {v x : V} (h : valV kvs k = some x) : (putK kvs k v).length = kvs.length := by
  unfold putK
  have : (kvs.any fun kv => decide (kv.1 = k)) = true := by
    unfold valV at h
    obtain ⟨kv, hk, _⟩ := Option.map_eq_some_iff.mp h
    have hs := List.find?_some hk
    exact List.any_eq_true.mpr ⟨kv, List.mem_of_find?_eq_some hk, hs⟩
  rw [if_pos this, List.length_map]
theorem vput_ne {kvs : List (Key × V)} {a b : Str} {v x : V} (h : valV kvs (Sum.inr b) = some x) (n : decide (b = a) = false) : valV (putK kvs (Sum.inr a) v) (Sum.inr b) = some x := by
  rw [valV_put, if_neg (fun e => of_decide_eq_false n (Sum.inr.inj e))]
  exact h
theorem vput_eq {kvs : List (Key × V)} {a : Str} {v : V} : valV (putK kvs (Sum.inr a) v) (Sum.inr a) = some v := by
  rw [valV_put, if_pos rfl]
def sp_more : Sp := fun vs H Q _ => ∃ (wa ch : Addr) (d : Wd) (many : Int), vs = [.ref wa, .int many] ∧ WIn wa ch d H ∧ ∀ H', Kp [wa] H H' → WIn wa ch { d with cells := d.cells + many } H' → Q (.int d.cells) H'
theorem ok_more (T : Glo K w mg) (D : Dn K mg "_law_more_cells" s__law_more_cells p__law_more_cells) : Cal P w K mg base "_law_more_cells" 1 p__law_more_cells sp_more := by
  refine D.ok sc__law_more_cells (fun vs H Q E h => ?_) (fun f cdv A outer s H vs Q E hr h => ?_)
  · obtain ⟨_, _, _, _, rfl, _⟩ := h
    rfl
  obtain ⟨wa, ch, d, many, rfl, ⟨⟨kvs, h1, h2, h3, h4, h5, h6, h7, h8, h9⟩, hch, hne⟩, q⟩ := h
  refine ⟨_, (pss_cons (ps_dput (hu_of hr) (pv 0) pe_str (pe_op op_addA (pe_dget (hu_of hr) (pv 0) pe_str (fun _ _ => rfl)) (pv 1)) rfl) (pss_one (ps_ret (pe_op op_sub (pe_dget (hu_of hr) (pv 0) pe_str (fun _ _ => rfl)) (pv 1))))), ?_⟩
  try dsimp only [cxOf, Cx.nox]
  repeat' (first | specialize "st" | fail)
  repeat' (first | specialize "st" | fail)
  refine q_dput h1 (by omega) ?_
  generalize hq : upd H wa _ = H2
  have hw := at_new hq
  have hv : valV (putK kvs (Sum.inr "cells") (.int (d.cells + many))) (Sum.inr "cells") = some (.int (d.cells + many)) := vput_eq
  repeat' (first | specialize "st" | fail)
  rw [show d.cells + many - many = d.cells by omega]
  refine q H2 (Kp.set (by simp) (fun xs e => by rw [h1] at e; cases e) hq) ⟨⟨_, hw, by rw [putK_len h6]; exact h2, vput_ne h3 (by decide +kernel), vput_ne h4 (by decide +kernel), vput_ne h5 (by decide +kernel), hv, vput_ne h7 (by decide +kernel), vput_ne h8 (by decide +kernel), vput_ne h9 (by decide +kernel)⟩, ?_, hne⟩
  rw [← hq, upd_ne (Ne.symm hne)]
  exact hch
abbrev s__law_env : Stmt := topS 29
theorem sc__law_env : FnScope ["state", "world", "first", "env", "size"] ["state", "world"] (defScope s__law_env) := ⟨rfl, rfl, rfl, by decide +kernel, rfl, by decide +kernel, by decide +kernel⟩
abbrev p__law_env : List Str := ["state", "world"]
theorem c_more {wa ch : Addr} {d : Wd} {many : Int} {H : Hp} {Q : VK} {E : XK} (h : WIn wa ch d H) (q : ∀ H', Kp [wa] H H' → WIn wa ch { d with cells := d.cells + many } H' → Q (.int d.cells) H') : sp_more [.ref wa, .int many] H Q E := ⟨wa, ch, d, many, rfl, h, q⟩
theorem WIn.get {wa ch : Addr} {d : Wd} {H : Hp} (h : WIn wa ch d H) : ∃ kvs : List (Key × V), H wa = some (.dK kvs) ∧ valV kvs (Sum.inr "threads") = some (.int d.threads) ∧ valV kvs (Sum.inr "left") = some (.int d.left) ∧ valV kvs (Sum.inr "items") = some (.int d.items) ∧ valV kvs (Sum.inr "cells") = some (.int d.cells) ∧
    valV kvs (Sum.inr "alts") = some (.bl d.alts) ∧ valV kvs (Sum.inr "loops") = some (.bl d.loops) ∧ valV kvs (Sum.inr "channels") = some (.ref ch) := by
  obtain ⟨⟨kvs, h1, h2, h3, h4, h5, h6, h7, h8, h9⟩, _, _⟩ := h
  exact ⟨kvs, h1, h3, h4, h5, h6, h7, h8, h9⟩
/-- an env: its objects and what they hold -/
structure Ea where
  e : Addr
  ca : Addr
  ra : Addr
  sa : Addr
  ga : Addr
  ta : Addr
def Ea.all (a : Ea) : List Addr := [a.e, a.ca, a.ra, a.sa, a.ga, a.ta]
structure Ed where
  cells : List Int
  reads : List Int
  spans : List (Int × Int)
  gives : List Int
  takes : List Int
def Spans (H : Hp) (vs : List V) (ps : List (Int × Int)) : Prop := Paired (fun v (p : Int × Int) => ∃ q, v = V.ref q ∧ H q = some (.tup [.int p.1, .int p.2])) vs ps
structure EIn (a : Ea) (d : Ed) (H : Hp) : Prop where
  ex : ∃ kvs : List (Key × V), H a.e = some (.dK kvs) ∧ kvs.length ≤ 20 ∧ valV kvs (Sum.inr "cells") = some (.ref a.ca) ∧ valV kvs (Sum.inr "reads") = some (.ref a.ra) ∧ valV kvs (Sum.inr "spans") = some (.ref a.sa) ∧ valV kvs (Sum.inr "gives") = some (.ref a.ga) ∧ valV kvs (Sum.inr "takes") = some (.ref a.ta)
  hc : H a.ca = some (.lst (d.cells.map V.int))
  hr : H a.ra = some (.lst (d.reads.map V.int))
  hg : H a.ga = some (.lst (d.gives.map V.int))
  ht : H a.ta = some (.lst (d.takes.map V.int))
  hs : ∃ vs, H a.sa = some (.lst vs) ∧ Spans H vs d.spans
def Ed.span (d : Ed) (x : Int) : Prop := ∃ p ∈ d.spans, p.1 ≤ x ∧ x < p.1 + p.2
/-- what a part over an env and over counters may touch -/
def Ed.fr (d : Ed) (cs : List Int) : Fr := ⟨fun k => k ∈ d.cells ∨ d.span k ∨ k ∈ cs, fun k => k ∈ d.reads ∨ d.span k ∨ k ∈ cs, fun c => c ∈ d.gives, fun c => c ∈ d.takes⟩
structure Ed.ok (d : Ed) : Prop where
  cr : ∀ k ∈ d.cells, k ∈ d.reads
  sp : ∀ p ∈ d.spans, 0 < p.2 ∧ p.2 < 5
  c0 : 0 < d.cells.length
  c1 : d.cells.length < 1000
  r1 : d.reads.length < 1000
  s1 : d.spans.length < 1000
theorem EIn.kp {M : List Addr} {a : Ea} {d : Ed} {H H' : Hp} (k : Kp M H H') (m : ∀ x ∈ a.all, x ∉ M) (h : EIn a d H) : EIn a d H' := by
  obtain ⟨⟨kvs, h1, h2⟩, h3, h4, h5, h6, vs, h7, h8⟩ := h
  have m' : ∀ x, x ∈ [a.e, a.ca, a.ra, a.sa, a.ga, a.ta] → x ∉ M := m
  exact ⟨⟨kvs, k.out _ _ (m' _ (by simp)) h1, h2⟩, k.out _ _ (m' _ (by simp)) h3, k.out _ _ (m' _ (by simp)) h4, k.out _ _ (m' _ (by simp)) h5, k.out _ _ (m' _ (by simp)) h6, vs, k.out _ _ (m' _ (by simp)) h7, Paired.mapP h8 fun _ _ ⟨q, e, z⟩ => ⟨q, e, k.tup _ _ z⟩⟩
theorem EIn.env {M : List Addr} {a : Ea} {d : Ed} {H : Hp} {cs : List Int} (h : EIn a d H) (o : d.ok) (m : ∀ x ∈ a.all, x ∉ M) : EnvS (d.fr cs).W (d.fr cs).R M a.e H := by
  obtain ⟨⟨kvs, h1, h2, h3, h4, h5, _⟩, hc, hr, _, _, vs, hs, hp⟩ := h
  have m' : ∀ x, x ∈ [a.e, a.ca, a.ra, a.sa, a.ga, a.ta] → x ∉ M := m
  have hr0 : 0 < d.reads.length := by
    cases hz : d.reads with
    | nil =>
      cases hy : d.cells with
      | nil => have := o.c0; rw [hy] at this; simp at this
      | cons y ys => have := o.cr y (by rw [hy]; simp); rw [hz] at this; simp at this
    | cons x xs => simp
  refine ⟨kvs, a.ca, a.ra, a.sa, d.cells, d.reads, vs, h1, h3, h4, h5, hc, hr, hs, fun k hk => ⟨.inl hk, .inl (o.cr k hk)⟩, fun k hk => .inl hk, fun v hv => ?_, o.c0, hr0, o.c1, o.r1, by rw [Paired.length hp]; exact o.s1, m' _ (by simp), m' _ (by simp), m' _ (by simp), m' _ (by simp)⟩
  obtain ⟨i, hi, e⟩ := List.getElem_of_mem hv
  have hx : vs[i]? = some v := by rw [List.getElem?_eq_getElem hi, e]
  have key : ∀ {xs : List V} {ys : List (Int × Int)} {i : Nat} {x : V}, Spans H xs ys → xs[i]? = some x → ∃ y, y ∈ ys ∧ ∃ q, x = V.ref q ∧ H q = some (.tup [.int y.1, .int y.2]) := by
    intro xs ys i x h
    induction h generalizing i with
    | nil => intro e; simp at e
    | cons a t ih =>
      intro e
      cases i with
      | zero => simp at e; subst e; exact ⟨_, List.mem_cons_self .., a⟩
      | succ i =>
        obtain ⟨y, hy, z⟩ := ih (by simpa using e)
        exact ⟨y, List.mem_cons_of_mem _ hy, z⟩
  obtain ⟨y, hy, q, e1, e2⟩ := key hp hx
  have := o.sp y hy
  exact ⟨q, y.1, y.2, e1, e2, this.1, this.2, fun i p1 p2 => ⟨.inr (.inl ⟨y, hy, p1, p2⟩), .inr (.inl ⟨y, hy, p1, p2⟩)⟩⟩
theorem kp_newC {M : List Addr} {p : Addr} {H H1 H2 H3 : Hp} (a : Kp M H H1) (e : Ex H1 H2) (b : Kp [p] H2 H3) (hp : H p = none) : Kp M H H3 :=
  ⟨fun x xs h => b.tup _ _ (e _ _ (a.tup _ _ h)), fun x u n h => b.out _ _ (by simp only [List.mem_singleton]; exact ne_of_none h hp) (e _ _ (a.out _ _ n h))⟩
theorem kp_wa {st c wa : Addr} {H H' : Hp} (k : Kp [wa] H H') : Kp [st, c, wa] H H' := Kp.sub k (fun x hx => by
  rw [List.mem_singleton.mp hx]
  simp)
theorem kp_w {st c wa : Addr} {H H' : Hp} (k : Kp [st, c] H H') : Kp [st, c, wa] H H' := Kp.sub k (fun x hx => by
  simp only [List.mem_cons, List.not_mem_nil, or_false] at hx ⊢
  rcases hx with h | h <;> simp [h])
theorem st_out {M : List Addr} {st c : Addr} {H H' : Hp} (k : Kp M H H') (h : StOk st c H) (n1 : st ∉ M) (n2 : c ∉ M) : StOk st c H' := by
  obtain ⟨⟨ns, s, a, b, d⟩, n⟩ := h
  exact ⟨⟨ns, s, k.out _ _ n1 a, k.out _ _ n2 b, d⟩, n⟩
/-- a new env over new cells: from n to m -/
structure Ed.fresh (d : Ed) (n m : Int) : Prop where
  cells : d.cells = [n, n + 1]
  reads : d.reads = [n, n + 1]
  spans : ∀ p ∈ d.spans, n + 2 ≤ p.1 ∧ 0 < p.2 ∧ p.2 < 5 ∧ p.1 + p.2 ≤ m
  sl : d.spans.length ≤ 1
  gives : d.gives = []
  takes : d.takes = []
  lo : n + 2 ≤ m
  hi : m ≤ n + 6
  h33 : m = n + 2 ∨ m ≤ 33
def sp_env : Sp := fun vs H Q _ => ∃ (st c wa ch : Addr) (d : Wd), vs = [.ref st, .ref wa] ∧ StOk st c H ∧ WIn wa ch d H ∧ wa ∉ [st, c] ∧ ch ∉ [st, c] ∧ 0 ≤ d.cells ∧ d.cells ≤ 2000 ∧
  ∀ (a : Ea) (ed : Ed) (m : Int) (H' : Hp), (∀ x ∈ a.all, H x = none) → a.all.Nodup → EIn a ed H' → ed.fresh d.cells m → Kp [st, c, wa] H H' → StOk st c H' → WIn wa ch { d with cells := m } H' → Q (.ref a.e) H'
theorem ok_env (T : Glo K w mg) (D : Dn K mg "_law_env" s__law_env p__law_env) (G__law_draw : Cal P w K mg base "_law_draw" 1 p__law_draw sp_draw) (G__law_more_cells : Cal P w K mg base "_law_more_cells" 1 p__law_more_cells sp_more) : Cal P w K mg base "_law_env" 2 p__law_env sp_env := by
  refine D.ok sc__law_env (fun vs H Q E h => ?_) (fun f cdv A outer s H vs Q E hr h => ?_)
  · obtain ⟨_, _, _, _, _, rfl, _⟩ := h
    rfl
  obtain ⟨st, c, wa, ch, d, rfl, so, wi, nw, nc, d0, d1, q⟩ := h
  refine ⟨_, (pss_cons (ps_set (i := 2) sc__law_env.nd rfl (by first | exact Or.inl rfl | exact Or.inr rfl) (pe_cal G__law_more_cells (hr.mono (by (first | subst "lev" | fail))) rfl (pa_cons (pv 1) (pa_cons pe_int pa_nil)))) (pss_cons (ps_set (i := 3) sc__law_env.nd rfl (by first | exact Or.inl rfl | exact Or.inr rfl) (pe_disp (pps_cons pe_str (pe_lst (pa_cons (pv 2) (pa_cons (pe_op op_addA (pv 2) pe_int) pa_nil))) (pps_cons pe_str (pe_lst (pa_cons (pv 2) (pa_cons (pe_op op_addA (pv 2) pe_int) pa_nil))) (pps_cons pe_str (pe_lst pa_nil) (pps_cons pe_str (pe_lst pa_nil) (pps_cons pe_str (pe_lst pa_nil) pps_nil))))) rfl rfl (by simp) (by decide))) (pss_cons (ps_if (PW.pt (pw_and (pt_cmpR op_lt (pe_dget (hu_of hr) (pv 1) pe_str (fun _ _ => rfl)) pe_int (nomark _)) (pw_and1 (pt_cmpR (op_eqA (hu64 hr)) (pe_cal G__law_draw (hr.mono (by (first | subst "lev" | fail))) rfl (pa_cons (pv 0) (pa_cons pe_int pa_nil))) pe_int (nomark _))))) (pss_cons (ps_set (i := 4) sc__law_env.nd rfl (by first | exact Or.inl rfl | exact Or.inr rfl) (pe_op op_addA pe_int (pe_cal G__law_draw (hr.mono (by (first | subst "lev" | fail))) rfl (pa_cons (pv 0) (pa_cons pe_int pa_nil))))) (pss_one (ps_dput (hu_of hr) (pv 3) pe_str (pe_lst (pa_cons (pe_tup (pa_cons (pe_cal G__law_more_cells (hr.mono (by (first | subst "lev" | fail))) rfl (pa_cons (pv 1) (pa_cons (pv 4) pa_nil))) (pa_cons (pv 4) pa_nil))) pa_nil)) rfl))) pss_nil) (pss_one (ps_ret (pv 3)))))), ?_⟩
  try dsimp only [cxOf, Cx.nox]
  repeat' (first | specialize "st" | fail)
  refine c_more wi (fun H1 k1 w1 => ?_)
  repeat' (first | specialize "st" | fail)
  rename_i Hd ea0 pc Hc hpc ec hnc pr Hr hpr er hnr ps Hs hps es hns pg Hg hpg eg hng
  have E1 : True ∧ Ex H1 Hn := ⟨trivial, by (first | subst "ex" | fail)⟩
  have so1 : StOk st c H1 := st_out k1 so (by simp only [List.mem_singleton]; exact fun z => nw (by rw [← z]; simp)) (by simp only [List.mem_singleton]; exact fun z => nw (by rw [← z]; simp))
  have w2 := w1.exx E1.2
  have nd : ∀ x, H1 x = none → x ∉ [st, c, wa, ch] ∧ H x = none := fun x hx => by
    have a := st_fresh so1 hx
    obtain ⟨⟨wk, hk, _⟩, hch, _⟩ := w1
    have b := ne_of_none hk hx
    have e := ne_of_none hch hx
    simp only [List.mem_cons, List.not_mem_nil, or_false, not_or] at a ⊢
    exact ⟨⟨a.1, a.2, b.symm, e.symm⟩, free_backK k1 (by simp only [List.mem_singleton]; exact b.symm) hx⟩
  have f0 := nd dp hdp
  have f1 := nd pc (free_back ea0 hpc)
  have f2 := nd pr (free_back (ea0.trans ec) hpr)
  have f3 := nd ps (free_back ((ea0.trans ec).trans er) hps)
  have f4 := nd pg (free_back (((ea0.trans ec).trans er).trans es) hpg)
  have f5 := nd p (free_back ((((ea0.trans ec).trans er).trans es).trans eg) hp)
  refine q_disp [(Sum.inr "cells", .ref pc), (Sum.inr "reads", .ref pr), (Sum.inr "spans", .ref ps), (Sum.inr "gives", .ref pg), (Sum.inr "takes", .ref p)] (by (first | exists "lift" | fail)) rfl (by show ([Sum.inr "cells", Sum.inr "reads", Sum.inr "spans", Sum.inr "gives", Sum.inr "takes"] : List Key).Nodup; decide +kernel) (by show 5 ≤ 15; decide) ?_
  intro H5 k5 h5
  have n01 : dp ≠ pc := ne_of_none hdn hpc
  have n02 : dp ≠ pr := ne_of_none (ec _ _ hdn) hpr
  have n03 : dp ≠ ps := ne_of_none (er _ _ (ec _ _ hdn)) hps
  have n04 : dp ≠ pg := ne_of_none (es _ _ (er _ _ (ec _ _ hdn))) hpg
  have n05 : dp ≠ p := ne_of_none (eg _ _ (es _ _ (er _ _ (ec _ _ hdn)))) hp
  have n12 : pc ≠ pr := ne_of_none hnc hpr
  have n13 : pc ≠ ps := ne_of_none (er _ _ hnc) hps
  have n14 : pc ≠ pg := ne_of_none (es _ _ (er _ _ hnc)) hpg
  have n15 : pc ≠ p := ne_of_none (eg _ _ (es _ _ (er _ _ hnc))) hp
  have n23 : pr ≠ ps := ne_of_none hnr hps
  have n24 : pr ≠ pg := ne_of_none (es _ _ hnr) hpg
  have n25 : pr ≠ p := ne_of_none (eg _ _ (es _ _ hnr)) hp
  have n34 : ps ≠ pg := ne_of_none hns hpg
  have n35 : ps ≠ p := ne_of_none (eg _ _ hns) hp
  have n45 : pg ≠ p := ne_of_none hng hp
  have fr : ∀ x ∈ (Ea.mk dp pc pr ps pg p).all, x ∉ [st, c, wa, ch] ∧ H x = none := by
    intro x hx
    simp only [Ea.all, List.mem_cons, List.not_mem_nil, or_false] at hx
    rcases hx with rfl | rfl | rfl | rfl | rfl | rfl <;> assumption
  have nodup : (Ea.mk dp pc pr ps pg p).all.Nodup := by
    simp [Ea.all, n01, n02, n03, n04, n05, n12, n13, n14, n15, n23, n24, n25, n34, n35, n45]
  have ein : EIn ⟨dp, pc, pr, ps, pg, p⟩ ⟨[d.cells, d.cells + 1], [d.cells, d.cells + 1], [], [], []⟩ H5 :=
    ⟨⟨_, h5, by show 5 ≤ 20; decide, rfl, rfl, rfl, rfl, rfl⟩, k5.out _ _ (by simpa using n01.symm) (by show Hn pc = some (.lst [.int d.cells, .int (d.cells + 1)]); (first | exists "lift" | fail)), k5.out _ _ (by simpa using n02.symm) (by show Hn pr = some (.lst [.int d.cells, .int (d.cells + 1)]); (first | exists "lift" | fail)), k5.out _ _ (by simpa using n04.symm) (by show Hn pg = some (.lst []); (first | exists "lift" | fail)), k5.out _ _ (by simpa using n05.symm) (by show Hn p = some (.lst []); (first | exists "lift" | fail)), [], k5.out _ _ (by simpa using n03.symm) (by (first | exists "lift" | fail)), .nil⟩
  have f0' := f0.1
  simp only [List.mem_cons, List.not_mem_nil, or_false, not_or] at f0'
  have so5 : StOk st c H5 := st_out k5 (st_ex E1.2 so1) (by simpa using Ne.symm f0'.1) (by simpa using Ne.symm f0'.2.1)
  have w5 := w2.kp k5 (by simpa using Ne.symm f0'.2.2.1) (by simpa using Ne.symm f0'.2.2.2)
  obtain ⟨wk, hwk, _, _, _, hwc, _⟩ := w5.get
  have kk5 : Kp [st, c, wa] H H5 := kp_newC (kp_wa k1) E1.2 k5 f0.2
  have fr2 : ∀ x ∈ (Ea.mk dp pc pr ps pg p).all, x ∉ [st, c] := fun x hx z => (fr x hx).1 (by
    simp only [List.mem_cons, List.not_mem_nil, or_false] at z ⊢
    rcases z with z | z <;> simp [z])
  have fr0 : Ed.fresh ⟨[d.cells, d.cells + 1], [d.cells, d.cells + 1], [], [], []⟩ d.cells (d.cells + 2) := ⟨rfl, rfl, (fun _ h => by cases h), Nat.zero_le _, rfl, rfl, by omega, by omega, .inl rfl⟩
  repeat' (first | specialize "st" | fail)
  case refine_2.refine_2 =>
    exact q ⟨dp, pc, pr, ps, pg, p⟩ _ (d.cells + 2) H5 (fun x hx => (fr x hx).2) nodup ein fr0 kk5 so5 w5
  case refine_2.refine_1.refine_2 =>
    exact q ⟨dp, pc, pr, ps, pg, p⟩ _ (d.cells + 2) Hn (fun x hx => (fr x hx).2) nodup (ein.kp ke fr2) fr0 (kk5.trans (kp_w ke)) so (w5.kp ke nw nc)
  have k6 : Kp [st, c] H5 Hn := by (first | subst "kp" | fail)
  have ein2 := ein.kp k6 fr2
  have w6 := w5.kp k6 nw nc
  have kk6 : Kp [st, c, wa] H Hn := kk5.trans (kp_w k6)
  obtain ⟨po, rfl⟩ : ∃ po, po = p := ⟨p, rfl⟩
  repeat' (first | specialize "st" | fail)
  refine c_more w6 (fun H7 k7 w7 => ?_)
  repeat' (first | specialize "st" | fail)
  rename_i pt Ht hpt et hnt
  have fr3 : ∀ x ∈ (Ea.mk dp pc pr ps pg po).all, x ∉ [wa] := fun x hx z => (fr x hx).1 (by
    rw [List.mem_singleton.mp z]
    simp)
  have kk7 : Kp [st, c, wa] H H7 := kk6.trans (kp_wa k7)
  have so7 : StOk st c H7 := st_out k7 so (by simp only [List.mem_singleton]; exact fun z => nw (by rw [← z]; simp)) (by simp only [List.mem_singleton]; exact fun z => nw (by rw [← z]; simp))
  have ein7 := ein2.kp k7 fr3
  have hp7 : H7 p = none := free_back et hp
  have pm : p ∉ [st, c, wa] := by
    have a := st_fresh so7 hp7
    obtain ⟨⟨wk, hk, _⟩, _, _⟩ := w7
    have b := ne_of_none hk hp7
    simp only [List.mem_cons, List.not_mem_nil, or_false, not_or] at a ⊢
    exact ⟨a.1, a.2, b.symm⟩
  have hp0 : H p = none := free_backK kk7 pm hp7
  obtain ⟨⟨kv7, a1, a2⟩, a3, a4, a5, a6, _⟩ := ein7
  have q0 : dp ≠ p := ne_of_none a1 hp7
  have q1 : pc ≠ p := ne_of_none a3 hp7
  have q2 : pr ≠ p := ne_of_none a4 hp7
  have q4 : pg ≠ p := ne_of_none a5 hp7
  have q5 : po ≠ p := ne_of_none a6 hp7
  obtain ⟨⟨kvs, g1, g2, g3, g4, g5, g6, g7⟩, gc, gr, gg, gt, gs⟩ := ((ein2.kp k7 fr3).kp (M := []) et.kp (fun _ _ => by simp)).kp (M := []) ke.kp (fun _ _ => by simp)
  refine q_dput g1 (by omega) ?_
  generalize hq : upd Hn dp _ = H9
  have hd9 := at_new hq
  have hsp : valV (putK kvs (Sum.inr "spans") (.ref p)) (Sum.inr "spans") = some (.ref p) := vput_eq
  have k9 : Kp [dp] Hn H9 := Kp.set (by simp) (fun xs e => by rw [g1] at e; cases e) hq
  have o9 : ∀ x u, x ≠ dp → Hn x = some u → H9 x = some u := fun x u n h => k9.out _ _ (by simpa using n) h
  have so9 : StOk st c H9 := st_out k9 (st_ex ke (st_ex et so7)) (by simpa using Ne.symm f0'.1) (by simpa using Ne.symm f0'.2.1)
  have w9 := ((w7.exx et).exx ke).kp k9 (by simpa using Ne.symm f0'.2.2.1) (by simpa using Ne.symm f0'.2.2.2)
  repeat' (first | specialize "st" | fail)
  refine q ⟨dp, pc, pr, p, pg, po⟩ ⟨[d.cells, d.cells + 1], [d.cells, d.cells + 1], [(d.cells + 2, 1 + dn)], [], []⟩ (d.cells + 2 + (1 + dn)) H9 ?_ ?_ ⟨⟨_, hd9, by rw [putK_len g5]; exact g2, vput_ne g3 (by decide +kernel), vput_ne g4 (by decide +kernel), hsp, vput_ne g6 (by decide +kernel), vput_ne g7 (by decide +kernel)⟩, o9 _ _ n01.symm gc, o9 _ _ n02.symm gr, o9 _ _ n04.symm gg, o9 _ _ n05.symm gt, [.ref pt], o9 _ _ q0.symm hn, .cons ⟨pt, rfl, k9.tup _ _ (ke _ _ hnt)⟩ .nil⟩ ⟨rfl, rfl, ?_, by simp, rfl, rfl, by omega, by omega, .inr (by have h30 : d.cells + 2 < 30 := (by assumption); omega)⟩ (kp_newC kk7 (et.trans ke) k9 f0.2) so9 ?_
  · intro x hx
    simp only [Ea.all, List.mem_cons, List.not_mem_nil, or_false] at hx
    rcases hx with rfl | rfl | rfl | rfl | rfl | rfl
    · exact f0.2
    · exact f1.2
    · exact f2.2
    · exact hp0
    · exact f4.2
    · exact f5.2
  · simp [Ea.all, n01, n02, q0, n04, n05, n12, q1, n14, n15, q2, n24, n25, q4.symm, q5.symm, n45]
  · intro k hk
    rw [List.mem_singleton.mp hk]
    refine ⟨?_, ?_, ?_, ?_⟩ <;> dsimp only <;> omega
  · exact w9
abbrev s__law_alt : Stmt := topS 30
theorem sc__law_alt : FnScope ["state", "env", "c", "rows", "other", "guard", "row"] ["state", "env", "c"] (defScope s__law_alt) := ⟨rfl, rfl, rfl, by decide +kernel, rfl, by decide +kernel, by decide +kernel⟩
abbrev p__law_alt : List Str := ["state", "env", "c"]
theorem As.in_at {M : List Addr} {H : Hp} : ∀ {rs : As} {xs : List V} {i : Nat} {x : V}, rs.In M H xs → xs[i]? = some x → ∃ q u c y z, x = .ref q ∧ H q = some (.tup [u, .int c, y, z]) ∧ rs.chs[i]? = some c
  | .nil, _, _, _, h, e => by cases h; simp at e
  | .cons _ c _ _ r, _, i, x, ⟨q, u, x0, y, ys, e0, h, g, a, b, t⟩, e => by
    subst e0
    cases i with
    | zero =>
      simp at e
      subst e
      exact ⟨q, u, c, x0, y, rfl, h, rfl⟩
    | succ i =>
      obtain ⟨q, u, c, y, z, e1, e2, e3⟩ := As.in_at (i := i) t (by simpa using e)
      exact ⟨q, u, c, y, z, e1, e2, by simpa [As.chs] using e3⟩
theorem As.chs_len {M : List Addr} {H : Hp} : ∀ {rs : As} {xs : List V}, rs.In M H xs → rs.chs.length = xs.length
  | .nil, _, h => by cases h; rfl
  | .cons _ c _ _ r, _, ⟨q, u, x0, y, ys, e0, h, g, a, b, t⟩ => by
    subst e0
    simp only [As.chs, List.length_cons, As.chs_len t]
theorem as_ex {M : List Addr} {H H' : Hp} {s : As} {v : List V} (k : Ex H H') (h : s.In M H v) : s.In M H' v := As.In.kp k.kp h
theorem as_kp {M : List Addr} {st c : Addr} {H H' : Hp} {s : As} {v : List V} (k : Kp [st, c] H H') (h1 : st ∈ M) (h2 : c ∈ M) (h : s.In M H v) : s.In M H' v := As.In.kp (kp_sub2 k h1 h2) h
local macro_rules | `(tactic| subst "as") => `(tactic| (refine as_kp (by assumption) (by assumption) (by assumption) ?_; subst "as"))
local macro_rules | `(tactic| subst "as") => `(tactic| (refine as_ex (by assumption) ?_; subst "as"))
local macro_rules | `(tactic| subst "as") => `(tactic| assumption)
structure As.ok (F : Fr) (n : Nat) (rs : As) : Prop where
  fit : rs.fit F
  rule : rs.rule
  nd : rs.chs.Nodup
  cnt : rs.cnt = 0
  dep : rs.dep ≤ 3
  sz : rs.sz ≤ 5 * n
  wk : rs.wk ≤ 7
  cons : ∃ g c t s r, rs = .cons g c t s r
theorem As.ok.one {F : Fr} {g : Option Tm} {k : Int} {t : Tm} {s : Sx} (hg : gFit F.R g) (hk : F.T k) (ht : t.aim F.W F.R) (hd : t.deep ≤ 5) (hs : s.Pl F 3 5 7) : (As.cons g k t s .nil).ok F 1 :=
  ⟨⟨hg, hk, ht, hd, hs.fit, trivial⟩, ⟨hs.rule, trivial⟩, by simp [As.chs], by simp [As.cnt, hs.cnt], by have := hs.dep; simp only [As.dep]; omega, by have := hs.sz; simp only [As.sz]; omega, by have := hs.wk; simp only [As.wk]; omega, ⟨_, _, _, _, _, rfl⟩⟩
theorem As.ok.up {F : Fr} {n m : Nat} {rs : As} (h : rs.ok F n) (l : n ≤ m) : rs.ok F m := ⟨h.fit, h.rule, h.nd, h.cnt, h.dep, by have := h.sz; omega, h.wk, h.cons⟩
theorem As.ok.app {F : Fr} {n m : Nat} {a b : As} (h : a.ok F n) (g : b.ok F m) (d : ∀ x ∈ a.chs, x ∉ b.chs) : (a.app b).ok F (n + m) :=
  ⟨As.app_fit.mpr ⟨h.fit, g.fit⟩, As.app_rule.mpr ⟨h.rule, g.rule⟩, by rw [As.app_chs, List.nodup_append]; exact ⟨h.nd, g.nd, fun x hx y hy e => d x hx (e ▸ hy)⟩, by rw [As.app_cnt, h.cnt, g.cnt], by rw [As.app_dep]; have := h.dep; have := g.dep; omega, by rw [As.app_sz]; have := h.sz; have := g.sz; omega, by rw [As.app_wk]; have := h.wk; have := g.wk; omega, by
    obtain ⟨x, c, t, s, r, rfl⟩ := h.cons
    exact ⟨_, _, _, _, _, rfl⟩⟩
theorem As.ok.pl {F : Fr} {n : Nat} {rs : As} (h : rs.ok F n) (l : n ≤ 25) : (Sx.alt rs).Pl F 4 126 9 :=
  ⟨h.fit, ⟨h.nd, h.rule⟩, h.cnt, by have := h.dep; simp only [Sx.dep]; omega, by have := h.sz; simp only [Sx.sz]; omega, by have := h.wk; simp only [Sx.wk]; omega⟩
def sp_alt : Sp := fun vs H Q _ => ∃ (a : Ea) (ed : Ed) (cs : List Int) (M : List Addr) (st c : Addr) (ch : Int), vs = [.ref st, .ref a.e, .int ch] ∧ st ∈ M ∧ c ∈ M ∧ StOk st c H ∧ MoS M st c H ∧ EIn a ed H ∧ ed.ok ∧ (∀ x ∈ a.all, x ∉ M) ∧ ch ∈ ed.takes ∧ ed.takes.length ≤ 24 ∧
  ∀ (rs : As) (v : V) (H' : Hp), (Sx.alt rs).In M H' v → (Sx.alt rs).Pl (ed.fr cs) 4 126 9 → (∃ g k t s r, rs = .cons g k t s r) → Kp [st, c] H H' → StOk st c H' → Q v H'
theorem ok_alt (T : Glo K w mg) (D : Dn K mg "_law_alt" s__law_alt p__law_alt) (G__law_draw : Cal P w K mg base "_law_draw" 1 p__law_draw sp_draw) (G__law_target : Cal P w K mg base "_law_target" 4 p__law_target sp_target)
    (G__law_expression : Cal P w K mg base "_law_expression" 7 p__law_expression (sp_expr 3)) (G__law_simple : Cal P w K mg base "_law_simple" 9 p__law_simple (sp_sx 3 5 7)) :
    Cal P w K mg base "_law_alt" 10 p__law_alt sp_alt := by
  refine D.ok sc__law_alt (fun vs H Q E h => ?_) (fun f cdv A outer s H vs Q E hr h => ?_)
  · obtain ⟨_, _, _, _, _, _, _, rfl, _⟩ := h
    rfl
  obtain ⟨a, ed, cs, M, st, c, ch, rfl, m1, m2, so, mo, ei, eo, ma, hc, tl, q⟩ := h
  refine ⟨_, (pss_cons (ps_set (i := 3) sc__law_alt.nd rfl (by first | exact Or.inl rfl | exact Or.inr rfl) (pe_lst (pa_cons (pe_tup (pa_cons pe_non (pa_cons (pv 2) (pa_cons (pe_cal G__law_target (hr.mono (by (first | subst "lev" | fail))) rfl (pa_cons (pv 0) (pa_cons (pv 1) pa_nil))) (pa_cons (pe_cal G__law_simple (hr.mono (by (first | subst "lev" | fail))) rfl (pa_cons (pv 0) (pa_cons (pv 1) pa_nil))) pa_nil))))) pa_nil))) (pss_cons (ps_for PassesOwn.never rfl (pi_list (pe_dget (hu_of hr) (pv 1) pe_str (fun _ _ => rfl))) (pg_name (i := 4) sc__law_alt.nd rfl (by first | exact Or.inl rfl | exact Or.inr rfl)) (pss_one (ps_if (PW.pt (pw_and (pt_cmpR (op_eqA (hu64 hr)) (pe_callB call_lenA rfl T.n_len (by decide +kernel) (pa_cons (pe_lc (own := [("row", 6)]) rfl sc__law_alt.nd (pi_list (pv 3)) (blkOk_by (N := ["state", "env", "c", "rows", "other", "guard", "row"]) (sc := defScope s__law_alt) (by decide +kernel)) (fun _ _ _ _ _ => (pg_name (i := 6) sc__law_alt.nd rfl (by first | exact Or.inl rfl | exact Or.inr rfl))) (fun _ _ _ _ _ => (pts_one (pt_cmpR (op_eqK (K := K) rfl (hu64 hr)) (pe_ix (ix_seqK (K := K) rfl) (pv 6) pe_int (fun _ _ => rfl)) (pv 4) (nomark _)))) (fun _ _ _ _ _ => (pv 6))) pa_nil)) pe_int (nomark _)) (pw_and1 (pt_cmpR (op_eqA (hu64 hr)) (pe_cal G__law_draw (hr.mono (by (first | subst "lev" | fail))) rfl (pa_cons (pv 0) (pa_cons pe_int pa_nil))) pe_int (nomark _))))) (pss_cons (ps_set (i := 5) sc__law_alt.nd rfl (by first | exact Or.inl rfl | exact Or.inr rfl) (pe_ifExp (pt_cmpR (op_eqA (hu64 hr)) (pe_cal G__law_draw (hr.mono (by (first | subst "lev" | fail))) rfl (pa_cons (pv 0) (pa_cons pe_int pa_nil))) pe_int (nomark _)) pe_non (pe_cal G__law_expression (hr.mono (by (first | subst "lev" | fail))) rfl (pa_cons (pv 0) (pa_cons (pv 1) (pa_cons pe_int pa_nil)))))) (pss_cons (ps_set (i := 6) sc__law_alt.nd rfl (by first | exact Or.inl rfl | exact Or.inr rfl) (pe_tup (pa_cons (pv 5) (pa_cons (pv 4) (pa_cons (pe_cal G__law_target (hr.mono (by (first | subst "lev" | fail))) rfl (pa_cons (pv 0) (pa_cons (pv 1) pa_nil))) (pa_cons (pe_cal G__law_simple (hr.mono (by (first | subst "lev" | fail))) rfl (pa_cons (pv 0) (pa_cons (pv 1) pa_nil))) pa_nil)))))) (pss_one (ps_set (i := 3) sc__law_alt.nd rfl (by first | exact Or.inl rfl | exact Or.inr rfl) (pe_ifExp (pt_cmpR (op_eqA (hu64 hr)) (pe_cal G__law_draw (hr.mono (by (first | subst "lev" | fail))) rfl (pa_cons (pv 0) (pa_cons pe_int pa_nil))) pe_int (nomark _)) (pe_op op_addA (pv 3) (pe_lst (pa_cons (pv 6) pa_nil))) (pe_op op_addA (pe_lst (pa_cons (pv 6) pa_nil)) (pv 3))))))) pss_nil))) (pss_one (ps_ret (pe_tup (pa_cons pe_str (pa_cons (pv 3) pa_nil))))))), ?_⟩
  try dsimp only [cxOf, Cx.nox]
  have ms : ∀ x, x ∈ [st, c] → x ∈ M := fun x hx => by
    simp only [List.mem_cons, List.not_mem_nil, or_false] at hx
    rcases hx with rfl | rfl <;> assumption
  have mb : ∀ x ∈ a.all, x ∉ [st, c] := fun x hx z => ma x hx (ms x z)
  have en : EnvOk (ed.fr cs).W (ed.fr cs).R st c a.e H := ei.env eo mb
  obtain ⟨⟨kvs, g1, g2, g3, g4, g5, g6, g7⟩, gc, gr, gg, gt, gs⟩ := id ei
  have mt : a.ta ∉ [st, c] := mb _ (by simp [Ea.all])
  have me : a.e ∉ [st, c] := mb _ (by simp [Ea.all])
  repeat' (first | specialize "st" | fail)
  rename_i v0 H0 k0 s0 H1 k1 p1 H2 hp1 e1 hn1
  have mp : p ∉ M := MoS.fresh so (by (first | exists "mok" | fail)) (free_back e1 hp)
  refine w_list (xs := ed.takes.map V.int) (fun i σ H' => ∃ (p : Addr) (rs : As) (xs : List V) (x1 x2 x3 : Option V), σ = [some (.ref st), some (.ref a.e), some (.int ch), some (.ref p), x1, x2, x3] ∧ Kp [st, c] H H' ∧ StOk st c H' ∧ H' p = some (.lst xs) ∧ p ∉ M ∧ rs.In M H' xs ∧ rs.ok (ed.fr cs) (i + 1)) ?_ ?_ ?_ ?_
  · exact ⟨p, .cons none ch t sx .nil, _, _, _, _, rfl, by (first | subst "kpx" | fail), by (first | subst "st_ok" | fail), hn, mp, ⟨p1, .non, v0, v, [], rfl, by (first | exists "lift" | fail), rfl, by (first | subst "tm" | fail), by (first | subst "sx" | fail), rfl⟩, As.ok.one trivial hc ok (by omega) sk⟩
  · rintro i σ H' _ ⟨_, _, _, _, _, _, rfl, k, _⟩
    exact sql (k.out _ _ mt gt)
  · rintro i x σ H' hx ⟨p, rs, xs, x1, x2, x3, rfl, k, so, hpo, mp, hrs, okr⟩
    rw [List.getElem?_map] at hx
    obtain ⟨o, ho, rfl⟩ := Option.map_eq_some_iff.mp hx
    have hT : o ∈ ed.takes := List.mem_of_getElem? ho
    have hi : i < 24 := by
      have := (List.getElem?_eq_some_iff.mp ho).1
      omega
    have hl : xs.length ≤ 130 := Nat.le_trans (As.in_len hrs) (Nat.le_trans okr.sz (by omega))
    have en' : EnvOk (ed.fr cs).W (ed.fr cs).R st c a.e H' := env_kp k en
    have mo' : MoS M st c H' := mo.kp k
    have np : p ∉ [st, c] := fun z => mp (ms _ z)
    repeat' (first | specialize "st" | fail)
    intro L hL
    refine lc_list (xs := xs) (fun i H2 => Ex H' H2 ∧ ∃ acc, H2 L = some (.lst acc) ∧ acc.length ≤ i ∧ (acc = [] → ∀ k ∈ rs.chs.take i, k ≠ o)) ?_ ?_ ?_ ?_
    · exact ⟨Ex.mk hL rfl, [], upd_same, Nat.le_refl _, fun _ k h => by simp at h⟩
    · rintro j H2 _ ⟨e, _⟩
      exact sql (e _ _ hpo)
    · rintro j x H2 hx ⟨e, acc, ha, hal, hno⟩
      obtain ⟨q0, u, c1, y, z, rfl, hq, hc1⟩ := As.in_at hrs hx
      have hj : j < xs.length := (List.getElem?_eq_some_iff.mp hx).1
      refine ⟨rfl, ?_⟩
      repeat' (first | specialize "st" | fail)
      · refine ⟨acc, ha, sl1000' (by omega), ?_, acc ++ [.ref q0], upd_same, by rw [List.length_append]; exact Nat.add_le_add_right hal 1, fun z => by simp at z⟩
        intro b u hb
        rw [upd_ne (ne_of_none hb hL)]
        exact e _ _ hb
      · refine ⟨e, acc, ha, by omega, fun z k hk => ?_⟩
        rw [List.take_add_one, hc1] at hk
        rcases List.mem_append.mp hk with hk | hk
        · exact hno z k hk
        · rw [List.mem_singleton.mp hk]
          assumption
    · rintro H2 ⟨e, acc, ha, hal, hno⟩
      rw [← As.chs_len hrs, List.take_length] at hno
      have hl2 : acc.length ≤ 1000 := by omega
      have hcl := okr.cons
      obtain ⟨po, rfl⟩ : ∃ x, x = p := ⟨_, rfl⟩
      clear mo ei gs gc gr gg
      repeat' (first | specialize "st" | fail)
      · rename_i z1 d1 A1 b1 b2 k1 s1 z2 d2 A2 b3 b4 k2 s2 z3 v1 A3 k3 s3 A4 k4 s4 p1 A5 hp1 e1 hn1 A6 k5 z4 p2 A7 hp2 e2 hn2
        have mn : p ∉ M := MoS.fresh (st := st) (c := c) (H := A7) (by (first | subst "st_ok" | fail)) (by (first | exists "mok" | fail)) hp
        have za : acc = [] := List.eq_nil_of_length_eq_zero (by omega)
        exact ⟨p, rs.app (.cons none o t sx .nil), _, _, _, _, rfl, by (first | subst "kpx" | fail), by (first | subst "st_ok" | fail), hn, mn, As.app_in (by (first | subst "as" | fail)) ⟨p1, .non, v1, v, [], rfl, by (first | exists "lift" | fail), rfl, by (first | subst "tm" | fail), by (first | subst "sx" | fail), rfl⟩, okr.app (As.ok.one (g := none) trivial hT ok (by omega) sk) (fun y hy z => hno za y hy (List.mem_singleton.mp z))⟩
      · rename_i z1 d1 A1 b1 b2 k1 s1 z2 d2 A2 b3 b4 k2 s2 z3 v1 A3 k3 s3 A4 k4 s4 p1 A5 hp1 e1 hn1 A6 k5 z4 p2 A7 hp2 e2 hn2
        have mn : p ∉ M := MoS.fresh (st := st) (c := c) (H := A7) (by (first | subst "st_ok" | fail)) (by (first | exists "mok" | fail)) hp
        have za : acc = [] := List.eq_nil_of_length_eq_zero (by omega)
        exact ⟨p, .cons none o t sx rs, _, _, _, _, rfl, by (first | subst "kpx" | fail), by (first | subst "st_ok" | fail), hn, mn, ⟨p1, .non, v1, v, xs, rfl, by (first | exists "lift" | fail), rfl, by (first | subst "tm" | fail), by (first | subst "sx" | fail), by (first | subst "as" | fail)⟩, As.ok.up ((As.ok.one (g := none) trivial hT ok (by omega) sk).app okr (fun y hy z => hno za y z (List.mem_singleton.mp hy))) (by omega)⟩
      · rename_i z1 d1 A1 b1 b2 k1 s1 z2 d2 A2 b3 b4 k2 s2 z3 tg Ag ivg okg kg sg v1 A3 k3 s3 A4 k4 s4 p1 A5 hp1 e1 hn1 A6 k5 z4 p2 A7 hp2 e2 hn2
        have mn : p ∉ M := MoS.fresh (st := st) (c := c) (H := A7) (by (first | subst "st_ok" | fail)) (by (first | exists "mok" | fail)) hp
        have za : acc = [] := List.eq_nil_of_length_eq_zero (by omega)
        exact ⟨p, rs.app (.cons (some tg) o t sx .nil), _, _, _, _, rfl, by (first | subst "kpx" | fail), by (first | subst "st_ok" | fail), hn, mn, As.app_in (by (first | subst "as" | fail)) ⟨p1, x, v1, v, [], rfl, by (first | exists "lift" | fail), by (first | subst "tm" | fail), by (first | subst "tm" | fail), by (first | subst "sx" | fail), rfl⟩, okr.app (As.ok.one (g := (some tg)) ⟨okg, by omega⟩ hT ok (by omega) sk) (fun y hy z => hno za y hy (List.mem_singleton.mp z))⟩
      · rename_i z1 d1 A1 b1 b2 k1 s1 z2 d2 A2 b3 b4 k2 s2 z3 tg Ag ivg okg kg sg v1 A3 k3 s3 A4 k4 s4 p1 A5 hp1 e1 hn1 A6 k5 z4 p2 A7 hp2 e2 hn2
        have mn : p ∉ M := MoS.fresh (st := st) (c := c) (H := A7) (by (first | subst "st_ok" | fail)) (by (first | exists "mok" | fail)) hp
        have za : acc = [] := List.eq_nil_of_length_eq_zero (by omega)
        exact ⟨p, .cons (some tg) o t sx rs, _, _, _, _, rfl, by (first | subst "kpx" | fail), by (first | subst "st_ok" | fail), hn, mn, ⟨p1, x, v1, v, xs, rfl, by (first | exists "lift" | fail), by (first | subst "tm" | fail), by (first | subst "tm" | fail), by (first | subst "sx" | fail), by (first | subst "as" | fail)⟩, As.ok.up ((As.ok.one (g := (some tg)) ⟨okg, by omega⟩ hT ok (by omega) sk).app okr (fun y hy z => hno za y z (List.mem_singleton.mp hy))) (by omega)⟩
      · exact ⟨po, rs, xs, _, _, _, rfl, by (first | subst "kpx" | fail), by (first | subst "st_ok" | fail), by (first | exists "lift" | fail), mp, by (first | subst "as" | fail), okr.up (by omega)⟩
      · exact ⟨po, rs, xs, _, _, _, rfl, by (first | subst "kpx" | fail), by (first | subst "st_ok" | fail), by (first | exists "lift" | fail), mp, by (first | subst "as" | fail), okr.up (by omega)⟩
  · rintro σ H' ⟨p, rs, xs, x1, x2, x3, rfl, k, so, hp, mp, hrs, ok⟩
    obtain ⟨pp, rfl⟩ : ∃ x, x = p := ⟨_, rfl⟩
    repeat' (first | specialize "st" | fail)
    rw [List.length_map] at ok
    exact q rs _ _ ⟨p, pp, xs, rfl, by assumption, by (first | exists "lift" | fail), mp, by (first | subst "as" | fail)⟩ (ok.pl (by omega)) ok.cons (by (first | subst "kp" | fail)) (by (first | subst "st_ok" | fail))
/-! ### frames of the generator: M holds st, c, world, channels and what is under construction -/
abbrev Mw (st c wa ch : Addr) : List Addr := [st, c, wa, ch]
theorem subm_n {M : List Addr} : ∀ x, x ∈ ([] : List Addr) → x ∈ M := fun _ h => absurd h List.not_mem_nil
theorem subm_c {M N : List Addr} {a : Addr} (h : a ∈ M) (t : ∀ x, x ∈ N → x ∈ M) : ∀ x, x ∈ a :: N → x ∈ M := fun x hx => by
  rcases List.mem_cons.mp hx with rfl | hx
  · exact h
  · exact t x hx
theorem MoS.al {M : List Addr} {st c : Addr} {H H' : Hp} (a : Al H H') (h : MoS M st c H) : MoS M st c H' := fun x hx n => by
  obtain ⟨u, hu⟩ := h x hx n
  cases h1 : H' x with
  | none => exact absurd h1 (a x (fsome hu))
  | some o => exact ⟨o, rfl⟩
theorem WIn.al {wa ch : Addr} {d : Wd} {H : Hp} (h : WIn wa ch d H) : H wa ≠ none ∧ H ch ≠ none := by
  obtain ⟨⟨kvs, a, _⟩, b, _⟩ := h
  exact ⟨fsome a, fsome b⟩
theorem al_mw {st c wa ch : Addr} {d : Wd} {H H' : Hp} (k : Kp (Mw st c wa ch) H H') (so : StOk st c H') (wi : WIn wa ch d H') : Al H H' := al_kp k fun x hx => by
  obtain ⟨⟨ns, z, a, b, _⟩, _⟩ := so
  simp only [List.mem_cons, List.not_mem_nil, or_false] at hx
  rcases hx with rfl | rfl | rfl | rfl
  · exact fsome a
  · exact fsome b
  · exact wi.al.1
  · exact wi.al.2
theorem al_one {p : Addr} {H H' : Hp} (k : Kp [p] H H') (h : H' p ≠ none) : Al H H' := al_kp k fun x hx => by rw [List.mem_singleton.mp hx]; exact h
theorem MoS.cons {M : List Addr} {st c p : Addr} {H : Hp} (h : MoS M st c H) (hp : H p ≠ none) : MoS (p :: M) st c H := fun x hx n => by
  rcases List.mem_cons.mp hx with rfl | hx
  · cases h1 : H x with
    | none => exact absurd h1 hp
    | some o => exact ⟨o, rfl⟩
  · exact h x hx n
theorem sx_sub {M N : List Addr} {H H' : Hp} {s : Sx} {v : V} (k : Kp N H H') (n : ∀ x, x ∈ N → x ∈ M) (h : s.In M H v) : s.In M H' v := Sx.In.kp (Kp.sub k n) h
theorem ss_sub {M N : List Addr} {H H' : Hp} {s : Ss} {v : List V} (k : Kp N H H') (n : ∀ x, x ∈ N → x ∈ M) (h : s.In M H v) : s.In M H' v := Ss.In.kp (Kp.sub k n) h
theorem as_sub {M N : List Addr} {H H' : Hp} {s : As} {v : List V} (k : Kp N H H') (n : ∀ x, x ∈ N → x ∈ M) (h : s.In M H v) : s.In M H' v := As.In.kp (Kp.sub k n) h
theorem ps_sub {M N : List Addr} {H H' : Hp} {s : Ps} {v : List V} (k : Kp N H H') (n : ∀ x, x ∈ N → x ∈ M) (h : s.In M H v) : s.In M H' v := Ps.In.kp (Kp.sub k n) h
theorem env_ksub {W R : Int → Prop} {M N : List Addr} {e : Addr} {H H' : Hp} (k : Kp N H H') (n : ∀ x, x ∈ N → x ∈ M) (h : EnvS W R M e H) : EnvS W R M e H' := env_kp (Kp.sub k n) h
theorem EIn.exx {a : Ea} {d : Ed} {H H' : Hp} (k : Ex H H') (h : EIn a d H) : EIn a d H' := h.kp (M := []) k.kp (fun _ _ => by simp)
/-- nothing of the env is in M -/
abbrev Ea.out (a : Ea) (M : List Addr) : Prop := ∀ x ∈ a.all, x ∉ M
theorem EIn.ksub {a : Ea} {d : Ed} {M N : List Addr} {H H' : Hp} (k : Kp N H H') (o : a.out M) (n : ∀ x, x ∈ N → x ∈ M) (h : EIn a d H) : EIn a d H' := h.kp k (fun x hx z => o x hx (n x z))
theorem EIn.live {a : Ea} {d : Ed} {H : Hp} (h : EIn a d H) : ∀ x ∈ a.all, H x ≠ none := by
  obtain ⟨⟨kvs, h1, _⟩, h3, h4, h5, h6, vs, h7, _⟩ := h
  intro x hx
  have hx' : x ∈ [a.e, a.ca, a.ra, a.sa, a.ga, a.ta] := hx
  simp only [List.mem_cons, List.not_mem_nil, or_false] at hx'
  rcases hx' with rfl | rfl | rfl | rfl | rfl | rfl
  · exact fsome h1
  · exact fsome h3
  · exact fsome h4
  · exact fsome h7
  · exact fsome h5
  · exact fsome h6
theorem EIn.more {a : Ea} {d : Ed} {M : List Addr} {p : Addr} {H : Hp} (h : EIn a d H) (o : a.out M) (hp : H p = none) : a.out (p :: M) := fun x hx z => by
  rcases List.mem_cons.mp z with rfl | z
  · exact h.live _ hx hp
  · exact o x hx z
theorem Ea.out.sub {a : Ea} {M N : List Addr} (o : a.out M) (n : ∀ x, x ∈ N → x ∈ M) : a.out N := fun x hx z => o x hx (n x z)
mutual
theorem Sx.In.less {M N : List Addr} (n : ∀ x, x ∈ N → x ∈ M) {H : Hp} : ∀ {s : Sx} {v : V}, s.In M H v → s.In N H v
  | .skip, _, h => h
  | .stop, _, h => h
  | .set _ _, _, h => h
  | .give _ _, _, h => h
  | .take _ _, _, h => h
  | .ife _ _ _, _, ⟨p, x, y, z, e, h, a, b, c⟩ => ⟨p, x, y, z, e, h, a, Sx.In.less n b, Sx.In.less n c⟩
  | .rep _ _ _, _, ⟨p, x, y, e, h, a, b⟩ => ⟨p, x, y, e, h, a, Sx.In.less n b⟩
  | .seq _, _, ⟨p, l, xs, e, h, hl, m, a⟩ => ⟨p, l, xs, e, h, hl, fun z => m (n _ z), Ss.In.less n a⟩
  | .par _, _, ⟨p, l, xs, e, h, hl, m, a⟩ => ⟨p, l, xs, e, h, hl, fun z => m (n _ z), Ps.In.less n a⟩
  | .alt _, _, ⟨p, l, xs, e, h, hl, m, a⟩ => ⟨p, l, xs, e, h, hl, fun z => m (n _ z), As.In.less n a⟩
theorem Ss.In.less {M N : List Addr} (n : ∀ x, x ∈ N → x ∈ M) {H : Hp} : ∀ {s : Ss} {v : List V}, s.In M H v → s.In N H v
  | .nil, _, h => h
  | .cons _ _, _, ⟨x, ys, e, a, b⟩ => ⟨x, ys, e, Sx.In.less n a, Ss.In.less n b⟩
theorem Ps.In.less {M N : List Addr} (n : ∀ x, x ∈ N → x ∈ M) {H : Hp} : ∀ {s : Ps} {v : List V}, s.In M H v → s.In N H v
  | .nil, _, h => h
  | .cons _ _ _, _, ⟨q, x, ys, e, h, a, b⟩ => ⟨q, x, ys, e, h, Sx.In.less n a, Ps.In.less n b⟩
theorem As.In.less {M N : List Addr} (n : ∀ x, x ∈ N → x ∈ M) {H : Hp} : ∀ {s : As} {v : List V}, s.In M H v → s.In N H v
  | .nil, _, h => h
  | .cons _ _ _ _ _, _, ⟨q, u, x, y, ys, e, h, g, a, b, c⟩ => ⟨q, u, x, y, ys, e, h, g, a, Sx.In.less n b, As.In.less n c⟩
end
local macro_rules | `(tactic| subst "mem") => `(tactic| (refine List.mem_cons_of_mem _ ?_; subst "mem"))
local macro_rules | `(tactic| subst "mem") => `(tactic| exact List.mem_cons_self ..)
local macro_rules | `(tactic| subst "mem") => `(tactic| assumption)
local macro_rules | `(tactic| subst "subm") => `(tactic| (refine subm_c ?a ?t; (case a => subst "mem"); (case t => subst "subm")))
local macro_rules | `(tactic| subst "subm") => `(tactic| exact subm_n)
local macro_rules | `(tactic| subst "win") => `(tactic| (refine WIn.kp (by assumption) (by (first | exists "nin" | fail)) (by (first | exists "nin" | fail)) ?_; subst "win"))
local macro_rules | `(tactic| subst "win") => `(tactic| (refine WIn.exx (by assumption) ?_; subst "win"))
local macro_rules | `(tactic| subst "win") => `(tactic| assumption)
theorem WIn.al1 {wa ch : Addr} {d : Wd} {H : Hp} (h : WIn wa ch d H) : H wa ≠ none := h.al.1
local macro_rules | `(tactic| subst "alo") => `(tactic| exact WIn.al1 (by assumption))
local macro_rules | `(tactic| subst "alo") => `(tactic| exact fsome (by assumption))
theorem moS_mw {M : List Addr} {st c wa ch : Addr} {d : Wd} {H H' : Hp} (k : Kp (Mw st c wa ch) H H') (so : StOk st c H') (wi : WIn wa ch d H') (h : MoS M st c H) : MoS M st c H' := h.al (al_mw k so wi)
local macro_rules | `(tactic| exists "mok") => `(tactic| (refine MoS.cons ?_ (by (first | subst "alo" | fail)); exists "mok"))
local macro_rules | `(tactic| exists "mok") => `(tactic| (refine MoS.al (al_one (by assumption) (by (first | subst "alo" | fail))) ?_; exists "mok"))
local macro_rules | `(tactic| exists "mok") => `(tactic| (refine moS_mw (by assumption) (by assumption) (by assumption) ?_; exists "mok"))
local macro_rules | `(tactic| exists "mok") => `(tactic| (refine MoS.kp (by assumption) ?_; exists "mok"))
local macro_rules | `(tactic| exists "mok") => `(tactic| (refine MoS.ex (by assumption) ?_; exists "mok"))
local macro_rules | `(tactic| exists "mok") => `(tactic| assumption)
local macro_rules | `(tactic| exists "nm") => `(tactic| (refine MoS.fresh (st := ?st) (c := ?c) (H := ?hh) ?a ?b ?e; (case e => assumption); (case a => subst "st_ok"); (case b => exists "mok")))
local macro_rules | `(tactic| exists "nm") => `(tactic| assumption)
local macro_rules | `(tactic| subst "sx") => `(tactic| (refine sx_sub (by assumption) (by (first | subst "subm" | fail)) ?_; subst "sx"))
local macro_rules | `(tactic| subst "sx") => `(tactic| (refine sx_ex (by assumption) ?_; subst "sx"))
local macro_rules | `(tactic| subst "sx") => `(tactic| assumption)
local macro_rules | `(tactic| subst "ss") => `(tactic| (refine ss_sub (by assumption) (by (first | subst "subm" | fail)) ?_; subst "ss"))
local macro_rules | `(tactic| subst "ss") => `(tactic| (refine ss_sub (Ex.kp (M := []) (by assumption)) (by (first | subst "subm" | fail)) ?_; subst "ss"))
local macro_rules | `(tactic| subst "ss") => `(tactic| assumption)
local macro_rules | `(tactic| subst "ps") => `(tactic| (refine ps_sub (by assumption) (by (first | subst "subm" | fail)) ?_; subst "ps"))
local macro_rules | `(tactic| subst "ps") => `(tactic| (refine ps_sub (Ex.kp (M := []) (by assumption)) (by (first | subst "subm" | fail)) ?_; subst "ps"))
local macro_rules | `(tactic| subst "ps") => `(tactic| assumption)
local macro_rules | `(tactic| subst "as") => `(tactic| (refine as_sub (by assumption) (by (first | subst "subm" | fail)) ?_; subst "as"))
local macro_rules | `(tactic| subst "as") => `(tactic| (refine as_ex (by assumption) ?_; subst "as"))
local macro_rules | `(tactic| subst "as") => `(tactic| assumption)
local macro_rules | `(tactic| subst "envm") => `(tactic| (refine env_ksub (by assumption) (by (first | subst "subm" | fail)) ?_; subst "envm"))
local macro_rules | `(tactic| subst "envm") => `(tactic| (refine env_ex (by assumption) ?_; subst "envm"))
local macro_rules | `(tactic| subst "envm") => `(tactic| assumption)
local macro_rules | `(tactic| subst "ein") => `(tactic| (refine EIn.ksub (by assumption) (by assumption) (by (first | subst "subm" | fail)) ?_; subst "ein"))
local macro_rules | `(tactic| subst "ein") => `(tactic| (refine EIn.exx (by assumption) ?_; subst "ein"))
local macro_rules | `(tactic| subst "ein") => `(tactic| assumption)
theorem EIn.env2 {M : List Addr} {a : Ea} {d : Ed} {H : Hp} {cs : List Int} {st c : Addr} (h : EIn a d H) (o : d.ok) (m : a.out M) (m1 : st ∈ M) (m2 : c ∈ M) : EnvOk (d.fr cs).W (d.fr cs).R st c a.e H := h.env o (m.sub (subm_c m1 (subm_c m2 subm_n)))
local macro_rules | `(tactic| injection "own") => `(tactic| (refine c_sx (F := ?F) (M := ?M) (c := ?c) ?m1 ?m2 ?a ?b ?d ?_; (case b => exists "mok"); (case m1 => subst "mem"); (case m2 => subst "mem"); (case a => subst "st_ok"); (case d => subst "env"); subst "i_c_sx"))
set_option hygiene false in
local macro_rules | `(tactic| subst "i_c_more") => `(tactic| intro Hn kw wi)
local macro_rules | `(tactic| injection "own") => `(tactic| (refine c_more (ch := ?ch) (d := ?d) ?h ?_; (case h => subst "win"); subst "i_c_more"))
/-! reading and writing the world -/
section
variable {wa ch : Addr} {d : Wd} {H : Hp} {B : V → Prop} {C : Hp → Prop} {z : Int} {b : Bool}
theorem q_wgI {s : Str} {v : V} (h : WIn wa ch d H) (g : ∀ {kvs : List (Key × V)}, valV kvs (Sum.inr "threads") = some (.int d.threads) → valV kvs (Sum.inr "left") = some (.int d.left) → valV kvs (Sum.inr "items") = some (.int d.items) → valV kvs (Sum.inr "cells") = some (.int d.cells) → valV kvs (Sum.inr "alts") = some (.bl d.alts) → valV kvs (Sum.inr "loops") = some (.bl d.loops) → valV kvs (Sum.inr "channels") = some (.ref ch) → valV kvs (Sum.inr s) = some v) (q : B v) : ∃ a v', V.ref wa = .ref a ∧ DGet H a (.str s) (some v') ∧ B v' := by
  obtain ⟨kvs, h0, h1, h2, h3, h4, h5, h6, h7⟩ := h.get
  exact q_dget h0 (g h1 h2 h3 h4 h5 h6 h7) q
theorem q_wgThreads (h : WIn wa ch d H) (q : B (.int d.threads)) : ∃ a v', V.ref wa = .ref a ∧ DGet H a (.str "threads") (some v') ∧ B v' := q_wgI h (fun a _ _ _ _ _ _ => a) q
theorem q_wgLeft (h : WIn wa ch d H) (q : B (.int d.left)) : ∃ a v', V.ref wa = .ref a ∧ DGet H a (.str "left") (some v') ∧ B v' := q_wgI h (fun _ a _ _ _ _ _ => a) q
theorem q_wgItems (h : WIn wa ch d H) (q : B (.int d.items)) : ∃ a v', V.ref wa = .ref a ∧ DGet H a (.str "items") (some v') ∧ B v' := q_wgI h (fun _ _ a _ _ _ _ => a) q
theorem q_wgCells (h : WIn wa ch d H) (q : B (.int d.cells)) : ∃ a v', V.ref wa = .ref a ∧ DGet H a (.str "cells") (some v') ∧ B v' := q_wgI h (fun _ _ _ a _ _ _ => a) q
theorem q_wgAlts (h : WIn wa ch d H) (e : d.alts = b) (q : B (.bl b)) : ∃ a v', V.ref wa = .ref a ∧ DGet H a (.str "alts") (some v') ∧ B v' := q_wgI h (fun _ _ _ _ a _ _ => e ▸ a) q
theorem q_wgLoops (h : WIn wa ch d H) (e : d.loops = b) (q : B (.bl b)) : ∃ a v', V.ref wa = .ref a ∧ DGet H a (.str "loops") (some v') ∧ B v' := q_wgI h (fun _ _ _ _ _ a _ => e ▸ a) q
theorem q_wgChannels (h : WIn wa ch d H) (q : B (.ref ch)) : ∃ a v', V.ref wa = .ref a ∧ DGet H a (.str "channels") (some v') ∧ B v' := q_wgI h (fun _ _ _ _ _ _ a => a) q
theorem q_wpItems (h : WIn wa ch d H) (q : ∀ Hn, Kp [wa] H Hn → WIn wa ch { d with items := z } Hn → C Hn) : ∃ a H', V.ref wa = .ref a ∧ DPut H a (.str "items") (.int z) H' ∧ C H' := by
  obtain ⟨⟨kvs, h0, l, h1, h2, h3, h4, h5, h6, h7⟩, hc, ne⟩ := h
  have hp : valV (putK kvs (Sum.inr "items") (.int z)) (Sum.inr "items") = some (.int z) := vput_eq
  exact q_dputS h0 (by omega) fun Hn k u => q Hn k ⟨⟨_, u, by rw [putK_len h3]; exact l, vput_ne h1 (by decide +kernel), vput_ne h2 (by decide +kernel), hp, vput_ne h4 (by decide +kernel), vput_ne h5 (by decide +kernel), vput_ne h6 (by decide +kernel), vput_ne h7 (by decide +kernel)⟩, k.out _ _ (by simpa using Ne.symm ne) hc, ne⟩
theorem q_wpThreads (h : WIn wa ch d H) (q : ∀ Hn, Kp [wa] H Hn → WIn wa ch { d with threads := z } Hn → C Hn) : ∃ a H', V.ref wa = .ref a ∧ DPut H a (.str "threads") (.int z) H' ∧ C H' := by
  obtain ⟨⟨kvs, h0, l, h1, h2, h3, h4, h5, h6, h7⟩, hc, ne⟩ := h
  have hp : valV (putK kvs (Sum.inr "threads") (.int z)) (Sum.inr "threads") = some (.int z) := vput_eq
  exact q_dputS h0 (by omega) fun Hn k u => q Hn k ⟨⟨_, u, by rw [putK_len h1]; exact l, hp, vput_ne h2 (by decide +kernel), vput_ne h3 (by decide +kernel), vput_ne h4 (by decide +kernel), vput_ne h5 (by decide +kernel), vput_ne h6 (by decide +kernel), vput_ne h7 (by decide +kernel)⟩, k.out _ _ (by simpa using Ne.symm ne) hc, ne⟩
theorem q_wpLeft (h : WIn wa ch d H) (q : ∀ Hn, Kp [wa] H Hn → WIn wa ch { d with left := z } Hn → C Hn) : ∃ a H', V.ref wa = .ref a ∧ DPut H a (.str "left") (.int z) H' ∧ C H' := by
  obtain ⟨⟨kvs, h0, l, h1, h2, h3, h4, h5, h6, h7⟩, hc, ne⟩ := h
  have hp : valV (putK kvs (Sum.inr "left") (.int z)) (Sum.inr "left") = some (.int z) := vput_eq
  exact q_dputS h0 (by omega) fun Hn k u => q Hn k ⟨⟨_, u, by rw [putK_len h2]; exact l, vput_ne h1 (by decide +kernel), hp, vput_ne h3 (by decide +kernel), vput_ne h4 (by decide +kernel), vput_ne h5 (by decide +kernel), vput_ne h6 (by decide +kernel), vput_ne h7 (by decide +kernel)⟩, k.out _ _ (by simpa using Ne.symm ne) hc, ne⟩
end
set_option hygiene false in
local macro_rules | `(tactic| subst "i_wput") => `(tactic| intro Hn kw wi)
local macro_rules | `(tactic| injection "own") => `(tactic| ((with_reducible refine q_wpLeft (ch := ?ch) (d := ?d) ?h ?_); (case h => subst "win"); subst "i_wput"))
local macro_rules | `(tactic| injection "own") => `(tactic| ((with_reducible refine q_wpThreads (ch := ?ch) (d := ?d) ?h ?_); (case h => subst "win"); subst "i_wput"))
local macro_rules | `(tactic| injection "own") => `(tactic| ((with_reducible refine q_wpItems (ch := ?ch) (d := ?d) ?h ?_); (case h => subst "win"); subst "i_wput"))
local macro_rules | `(tactic| injection "own") => `(tactic| ((with_reducible refine q_wgChannels (ch := ?ch) (d := ?d) ?h ?_); (case h => subst "win")))
local macro_rules | `(tactic| injection "own") => `(tactic| ((with_reducible refine q_wgLoops (ch := ?ch) (d := ?d) (b := ?b) ?h ?e ?_); (case h => subst "win"); (case e => assumption)))
local macro_rules | `(tactic| injection "own") => `(tactic| ((with_reducible refine q_wgAlts (ch := ?ch) (d := ?d) (b := ?b) ?h ?e ?_); (case h => subst "win"); (case e => assumption)))
local macro_rules | `(tactic| injection "own") => `(tactic| ((with_reducible refine q_wgCells (ch := ?ch) (d := ?d) ?h ?_); (case h => subst "win")))
local macro_rules | `(tactic| injection "own") => `(tactic| ((with_reducible refine q_wgItems (ch := ?ch) (d := ?d) ?h ?_); (case h => subst "win")))
local macro_rules | `(tactic| injection "own") => `(tactic| ((with_reducible refine q_wgLeft (ch := ?ch) (d := ?d) ?h ?_); (case h => subst "win")))
local macro_rules | `(tactic| injection "own") => `(tactic| ((with_reducible refine q_wgThreads (ch := ?ch) (d := ?d) ?h ?_); (case h => subst "win")))
abbrev s__law_wrapped : Stmt := topS 31
theorem sc__law_wrapped : FnScope ["state", "env", "world", "part", "turn", "counter", "turns"] ["state", "env", "world", "part"] (defScope s__law_wrapped) := ⟨rfl, rfl, rfl, by decide +kernel, rfl, by decide +kernel, by decide +kernel⟩
abbrev p__law_wrapped : List Str := ["state", "env", "world", "part"]
/-- what wraps a part -/
structure Wrap (F0 : Fr) (lo hi : Int) (loops : Bool) (p s : Sx) : Prop where
  fit : ∀ F : Fr, F0.le F → (∀ k, lo ≤ k → k < hi → F.W k ∧ F.R k) → p.fit F → s.fit F
  rule : p.rule → s.rule
  cnt : s.cnt = p.cnt
  num : ∀ t, p.num t → s.num t
  dep : s.dep ≤ p.dep + 4
  sz : s.sz ≤ p.sz + 7
  wk : 0 ≤ p.wk → s.wk ≤ (if loops = true then 2 * p.wk + 11 else p.wk + 2)
def sp_wrap : Sp := fun vs H Q _ => ∃ (a : Ea) (ed : Ed) (cs : List Int) (M : List Addr) (st c wa ch : Addr) (d : Wd) (p : Sx) (pt : V), vs = [.ref st, .ref a.e, .ref wa, pt] ∧ (∀ x, x ∈ Mw st c wa ch → x ∈ M) ∧ MoS M st c H ∧ StOk st c H ∧ WIn wa ch d H ∧ wa ∉ [st, c] ∧ ch ∉ [st, c] ∧ EIn a ed H ∧ ed.ok ∧ a.out M ∧ p.In M H pt ∧
  ∀ (s : Sx) (v : V) (m : Int) (H' : Hp), d.cells ≤ m → (m = d.cells ∨ m = d.cells + 1 ∧ d.cells ≤ 37) → s.In M H' v → Wrap (ed.fr cs) d.cells m d.loops p s → Kp (Mw st c wa ch) H H' → StOk st c H' → WIn wa ch { d with cells := m } H' → Q v H'
theorem Wrap.refl {F0 : Fr} {lo : Int} {l : Bool} {p : Sx} : Wrap F0 lo lo l p p := ⟨fun _ _ _ h => h, fun h => h, rfl, fun _ h => h, by omega, by omega, fun h => by split <;> omega⟩
theorem Wrap.if1 {F0 : Fr} {lo : Int} {l : Bool} {p s : Sx} {e : Tm} (he : e.fit F0.R) (de : e.deep ≤ 5) (hs : s.Pl F0 1 1 1) : Wrap F0 lo lo l p (.ife e p s) :=
  ⟨fun F le _ h => ⟨he.mono le.r, de, h, hs.fit.mono le⟩, fun h => ⟨h, hs.rule⟩, by simp only [Sx.cnt, hs.cnt]; omega, fun t h => ⟨h, Sx.num0 hs.cnt _⟩, by have := hs.dep; simp only [Sx.dep]; omega, by have := hs.sz; simp only [Sx.sz]; omega, fun h => by have := hs.wk; simp only [Sx.wk]; split <;> omega⟩
theorem Wrap.if2 {F0 : Fr} {lo : Int} {l : Bool} {p s : Sx} {e : Tm} (he : e.fit F0.R) (de : e.deep ≤ 5) (hs : s.Pl F0 1 1 1) : Wrap F0 lo lo l p (.ife e s p) :=
  ⟨fun F le _ h => ⟨he.mono le.r, de, hs.fit.mono le, h⟩, fun h => ⟨hs.rule, h⟩, by simp only [Sx.cnt, hs.cnt]; omega, fun t h => ⟨Sx.num0 hs.cnt _, by rw [hs.cnt]; simpa using h⟩, by have := hs.dep; simp only [Sx.dep]; omega, by have := hs.sz; simp only [Sx.sz]; omega, fun h => by have := hs.wk; simp only [Sx.wk]; split <;> omega⟩
def turns (x : Int) (p : Sx) : Sx := .seq (.cons (.set (.cell x) (.num 0)) (.cons (.rep (.bin .lt (.cell x) (.num 2)) 2 (.seq (.cons p (.cons (.set (.cell x) (.bin .add (.cell x) (.num 1))) .nil)))) .nil))
theorem Wrap.rep {F0 : Fr} {x : Int} {p : Sx} : Wrap F0 x (x + 1) true p (turns x p) := by
  refine ⟨fun F le hn h => ?_, fun h => ⟨trivial, ⟨h, trivial, trivial⟩, trivial⟩, by simp [turns, Sx.cnt, Ss.cnt], fun t h => ⟨trivial, ⟨?_, trivial, trivial⟩, trivial⟩, by simp only [turns, Sx.dep, Ss.dep]; omega, by simp only [turns, Sx.sz, Ss.sz]; omega, fun h => by simp only [turns, Sx.wk, Ss.wk, if_pos]; omega⟩
  · obtain ⟨w, r⟩ := hn x (Int.le_refl x) (by omega)
    exact ⟨⟨w, by simp [Tm.deep], ⟨by decide, by decide⟩, by simp [Tm.deep]⟩, ⟨⟨r, by decide, by decide⟩, by simp [Tm.deep], by decide, by decide, h, ⟨w, by simp [Tm.deep], ⟨r, by decide, by decide⟩, by simp [Tm.deep]⟩, trivial⟩, trivial⟩
  · simpa [Sx.cnt] using h
section
variable {M : List Addr} {H : Hp} {p l : Addr} {x y z v : V} {xs : List V}
theorem tmi_num {k : Int} (h : H p = some (.tup [.str "num", .int k])) : (Tm.num k).In H (.ref p) := ⟨p, rfl, h⟩
theorem tmi_cell {k : Int} (h : H p = some (.tup [.str "cell", .int k])) : (Tm.cell k).In H (.ref p) := ⟨p, rfl, h⟩
theorem tmi_bin {o : Op} {a b : Tm} (h : H p = some (.tup [.str o.str, x, y])) (ha : a.In H x) (hb : b.In H y) : (Tm.bin o a b).In H (.ref p) := ⟨p, x, y, rfl, h, ha, hb⟩
theorem sxi_skip (h : H p = some (.tup [.str "skip"])) : Sx.skip.In M H (.ref p) := ⟨p, rfl, h⟩
theorem sxi_set {a b : Tm} (h : H p = some (.tup [.str "set", x, y])) (ha : a.In H x) (hb : b.In H y) : (Sx.set a b).In M H (.ref p) := ⟨p, x, y, rfl, h, ha, hb⟩
theorem sxi_give {k : Int} {b : Tm} (h : H p = some (.tup [.str "give", .int k, y])) (hb : b.In H y) : (Sx.give k b).In M H (.ref p) := ⟨p, y, rfl, h, hb⟩
theorem sxi_take {k : Int} {b : Tm} (h : H p = some (.tup [.str "take", .int k, y])) (hb : b.In H y) : (Sx.take k b).In M H (.ref p) := ⟨p, y, rfl, h, hb⟩
theorem sxi_ife {e : Tm} {a b : Sx} (h : H p = some (.tup [.str "if", x, y, z])) (he : e.In H x) (ha : a.In M H y) (hb : b.In M H z) : (Sx.ife e a b).In M H (.ref p) := ⟨p, x, y, z, rfl, h, he, ha, hb⟩
theorem sxi_rep {e : Tm} {n : Int} {a : Sx} (h : H p = some (.tup [.str "repeat", x, .int n, y])) (he : e.In H x) (ha : a.In M H y) : (Sx.rep e n a).In M H (.ref p) := ⟨p, x, y, rfl, h, he, ha⟩
theorem sxi_seq {ss : Ss} (h : H p = some (.tup [.str "seq", .ref l])) (hl : H l = some (.lst xs)) (m : l ∉ M) (hs : ss.In M H xs) : (Sx.seq ss).In M H (.ref p) := ⟨p, l, xs, rfl, h, hl, m, hs⟩
theorem sxi_par {ss : Ps} (h : H p = some (.tup [.str "par", .ref l])) (hl : H l = some (.lst xs)) (m : l ∉ M) (hs : ss.In M H xs) : (Sx.par ss).In M H (.ref p) := ⟨p, l, xs, rfl, h, hl, m, hs⟩
theorem sxi_alt {ss : As} (h : H p = some (.tup [.str "alt", .ref l])) (hl : H l = some (.lst xs)) (m : l ∉ M) (hs : ss.In M H xs) : (Sx.alt ss).In M H (.ref p) := ⟨p, l, xs, rfl, h, hl, m, hs⟩
theorem ssi_nil : Ss.nil.In M H [] := rfl
theorem ssi_cons {s : Sx} {r : Ss} (h : s.In M H x) (hr : r.In M H xs) : (Ss.cons s r).In M H (x :: xs) := ⟨x, xs, rfl, h, hr⟩
end
local macro_rules | `(tactic| subst "tmc") => `(tactic| subst "tm")
local macro_rules | `(tactic| subst "tmc") => `(tactic| ((with_reducible refine tmi_bin (x := ?x) (y := ?y) ?h ?a ?b); (case h => exists "lift"); (case a => subst "tmc"); (case b => subst "tmc")))
local macro_rules | `(tactic| subst "tmc") => `(tactic| (with_reducible refine tmi_cell ?_; exists "lift"))
local macro_rules | `(tactic| subst "tmc") => `(tactic| (with_reducible refine tmi_num ?_; exists "lift"))
local macro_rules | `(tactic| subst "sxc") => `(tactic| subst "sx")
local macro_rules | `(tactic| subst "sxc") => `(tactic| ((with_reducible refine sxi_seq (l := ?l) (xs := ?xs) ?h ?hl ?m ?a); (case h => exists "lift"); (case hl => exists "lift"); (case m => exists "nm"); (case a => subst "ssc")))
local macro_rules | `(tactic| subst "sxc") => `(tactic| ((with_reducible refine sxi_rep (x := ?x) (y := ?y) ?h ?e ?a); (case h => exists "lift"); (case e => subst "tmc"); (case a => subst "sxc")))
local macro_rules | `(tactic| subst "sxc") => `(tactic| ((with_reducible refine sxi_ife (x := ?x) (y := ?y) (z := ?z) ?h ?e ?a ?b); (case h => exists "lift"); (case e => subst "tmc"); (case a => subst "sxc"); (case b => subst "sxc")))
local macro_rules | `(tactic| subst "sxc") => `(tactic| ((with_reducible refine sxi_take (y := ?y) ?h ?b); (case h => exists "lift"); (case b => subst "tmc")))
local macro_rules | `(tactic| subst "sxc") => `(tactic| ((with_reducible refine sxi_give (y := ?y) ?h ?b); (case h => exists "lift"); (case b => subst "tmc")))
local macro_rules | `(tactic| subst "sxc") => `(tactic| ((with_reducible refine sxi_set (x := ?x) (y := ?y) ?h ?a ?b); (case h => exists "lift"); (case a => subst "tmc"); (case b => subst "tmc")))
local macro_rules | `(tactic| subst "sxc") => `(tactic| (with_reducible refine sxi_skip ?_; exists "lift"))
local macro_rules | `(tactic| subst "ssc") => `(tactic| ((with_reducible refine ssi_cons ?a ?b); (case a => subst "sxc"); (case b => subst "ssc")))
local macro_rules | `(tactic| subst "ssc") => `(tactic| with_reducible exact ssi_nil)
theorem ok_wrapped (T : Glo K w mg) (D : Dn K mg "_law_wrapped" s__law_wrapped p__law_wrapped) (G__law_draw : Cal P w K mg base "_law_draw" 1 p__law_draw sp_draw) (G__law_more_cells : Cal P w K mg base "_law_more_cells" 1 p__law_more_cells sp_more)
    (G__law_expression : Cal P w K mg base "_law_expression" 7 p__law_expression (sp_expr 3)) (G__law_set : Cal P w K mg base "_law_set" 8 p__law_set (sp_sx 1 1 1)) :
    Cal P w K mg base "_law_wrapped" 9 p__law_wrapped sp_wrap := by
  refine D.ok sc__law_wrapped (fun vs H Q E h => ?_) (fun f cdv A outer s H vs Q E hr h => ?_)
  · obtain ⟨_, _, _, _, _, _, _, _, _, _, _, rfl, _⟩ := h
    rfl
  obtain ⟨a, ed, cs, M, st, c, wa, ch, d, p0, pt, rfl, ms, mo, so, wi, nw, nc, ei, eo, ma, hp0, q⟩ := h
  refine ⟨_, (pss_cons (ps_set (i := 4) sc__law_wrapped.nd rfl (by first | exact Or.inl rfl | exact Or.inr rfl) (pe_cal G__law_draw (hr.mono (by (first | subst "lev" | fail))) rfl (pa_cons (pv 0) (pa_cons pe_int pa_nil)))) (pss_cons (ps_if (pt_cmpR (op_eqA (hu64 hr)) (pv 4) pe_int (nomark _)) (pss_one (ps_ret (pe_tup (pa_cons pe_str (pa_cons (pe_cal G__law_expression (hr.mono (by (first | subst "lev" | fail))) rfl (pa_cons (pv 0) (pa_cons (pv 1) (pa_cons pe_int pa_nil)))) (pa_cons (pv 3) (pa_cons (pe_cal G__law_set (hr.mono (by (first | subst "lev" | fail))) rfl (pa_cons (pv 0) (pa_cons (pv 1) pa_nil))) pa_nil))))))) pss_nil) (pss_cons (ps_if (pt_cmpR (op_eqA (hu64 hr)) (pv 4) pe_int (nomark _)) (pss_one (ps_ret (pe_tup (pa_cons pe_str (pa_cons (pe_tup (pa_cons pe_str (pa_cons (pe_tup (pa_cons pe_str (pa_cons pe_int pa_nil))) (pa_cons (pe_cal G__law_expression (hr.mono (by (first | subst "lev" | fail))) rfl (pa_cons (pv 0) (pa_cons (pv 1) (pa_cons pe_int pa_nil)))) pa_nil)))) (pa_cons (pe_cal G__law_set (hr.mono (by (first | subst "lev" | fail))) rfl (pa_cons (pv 0) (pa_cons (pv 1) pa_nil))) (pa_cons (pv 3) pa_nil))))))) pss_nil) (pss_cons (ps_if (PW.pt (pw_and (pt_cmpR op_lt (pv 4) pe_int (nomark _)) (pw_and (pt_val (pe_dget (hu_of hr) (pv 2) pe_str (fun _ _ => rfl))) (pw_and1 (pt_cmpR op_le (pe_dget (hu_of hr) (pv 2) pe_str (fun _ _ => rfl)) pe_int (nomark _)))))) (pss_cons (ps_set (i := 5) sc__law_wrapped.nd rfl (by first | exact Or.inl rfl | exact Or.inr rfl) (pe_tup (pa_cons pe_str (pa_cons (pe_cal G__law_more_cells (hr.mono (by (first | subst "lev" | fail))) rfl (pa_cons (pv 2) (pa_cons pe_int pa_nil))) pa_nil)))) (pss_cons (ps_set (i := 6) sc__law_wrapped.nd rfl (by first | exact Or.inl rfl | exact Or.inr rfl) (pe_tup (pa_cons pe_str (pa_cons (pe_tup (pa_cons pe_str (pa_cons (pv 5) (pa_cons (pe_tup (pa_cons pe_str (pa_cons pe_int pa_nil))) pa_nil)))) (pa_cons pe_int (pa_cons (pe_tup (pa_cons pe_str (pa_cons (pe_lst (pa_cons (pv 3) (pa_cons (pe_tup (pa_cons pe_str (pa_cons (pv 5) (pa_cons (pe_tup (pa_cons pe_str (pa_cons (pv 5) (pa_cons (pe_tup (pa_cons pe_str (pa_cons pe_int pa_nil))) pa_nil)))) pa_nil)))) pa_nil))) pa_nil))) pa_nil)))))) (pss_one (ps_ret (pe_tup (pa_cons pe_str (pa_cons (pe_lst (pa_cons (pe_tup (pa_cons pe_str (pa_cons (pv 5) (pa_cons (pe_tup (pa_cons pe_str (pa_cons pe_int pa_nil))) pa_nil)))) (pa_cons (pv 6) pa_nil))) pa_nil))))))) pss_nil) (pss_one (ps_ret (pv 3))))))), ?_⟩
  try dsimp only [cxOf, Cx.nox]
  have m1 : st ∈ M := ms _ (by simp)
  have m2 : c ∈ M := ms _ (by simp)
  have m3 : wa ∈ M := ms _ (by simp)
  have m4 : ch ∈ M := ms _ (by simp)
  have en : EnvOk (ed.fr cs).W (ed.fr cs).R st c a.e H := ei.env2 eo ma m1 m2
  rcases Bool.eq_false_or_eq_true d.loops with hlo | hlo
  · (repeat' (first | specialize "st" | fail))
    · exact q (.ife t p0 sx) _ d.cells _ (by omega) (.inl rfl) (by (first | subst "sxc" | fail)) (Wrap.if1 ok (by omega) sk) (by (first | subst "kpx" | fail)) (by (first | subst "st_ok" | fail)) (by (first | subst "win" | fail))
    · exact q (.ife (.bin .lt (.num 1) t) sx p0) _ d.cells _ (by omega) (.inl rfl) (by (first | subst "sxc" | fail)) (Wrap.if2 ⟨⟨by decide, by decide⟩, ok⟩ (by simp only [Tm.deep]; omega) sk) (by (first | subst "kpx" | fail)) (by (first | subst "st_ok" | fail)) (by (first | subst "win" | fail))
    · exact q (turns d.cells p0) _ (d.cells + 1) _ (by omega) (.inr ⟨rfl, by omega⟩) (by unfold turns; (first | subst "sxc" | fail)) (by rw [hlo]; exact Wrap.rep) (by (first | subst "kpx" | fail)) (by (first | subst "st_ok" | fail)) (by (first | subst "win" | fail))
    · exact q p0 _ d.cells _ (by omega) (.inl rfl) (by (first | subst "sxc" | fail)) Wrap.refl (by (first | subst "kpx" | fail)) (by (first | subst "st_ok" | fail)) (by (first | subst "win" | fail))
    · exact q p0 _ d.cells _ (by omega) (.inl rfl) (by (first | subst "sxc" | fail)) Wrap.refl (by (first | subst "kpx" | fail)) (by (first | subst "st_ok" | fail)) (by (first | subst "win" | fail))
  · (repeat' (first | specialize "st" | fail))
    · exact q (.ife t p0 sx) _ d.cells _ (by omega) (.inl rfl) (by (first | subst "sxc" | fail)) (Wrap.if1 ok (by omega) sk) (by (first | subst "kpx" | fail)) (by (first | subst "st_ok" | fail)) (by (first | subst "win" | fail))
    · exact q (.ife (.bin .lt (.num 1) t) sx p0) _ d.cells _ (by omega) (.inl rfl) (by (first | subst "sxc" | fail)) (Wrap.if2 ⟨⟨by decide, by decide⟩, ok⟩ (by simp only [Tm.deep]; omega) sk) (by (first | subst "kpx" | fail)) (by (first | subst "st_ok" | fail)) (by (first | subst "win" | fail))
    · exact q p0 _ d.cells _ (by omega) (.inl rfl) (by (first | subst "sxc" | fail)) Wrap.refl (by (first | subst "kpx" | fail)) (by (first | subst "st_ok" | fail)) (by (first | subst "win" | fail))
    · exact q p0 _ d.cells _ (by omega) (.inl rfl) (by (first | subst "sxc" | fail)) Wrap.refl (by (first | subst "kpx" | fail)) (by (first | subst "st_ok" | fail)) (by (first | subst "win" | fail))
/-! ### items of a script -/
inductive Itm
  | gt (gv : Bool) (c : Int) (z : Bool)
  | loop (many : Int) (ps : List (Bool × Int)) (x : Int)
  | nest
def gtS (gv : Bool) : Str := if gv = true then "give" else "take"
def zS (z : Bool) : Str := if z = true then "" else "loop"
abbrev Pts (H : Hp) (xs : List V) (ps : List (Bool × Int)) : Prop := Paired (fun v (p : Bool × Int) => ∃ q, v = V.ref q ∧ H q = some (.tup [.str (gtS p.1), .int p.2, .str ""])) xs ps
def Itm.In (M : List Addr) (H : Hp) : Itm → V → Prop
  | .gt gv c z, v => ∃ p, v = .ref p ∧ H p = some (.tup [.str (gtS gv), .int c, .str (zS z)])
  | .loop many ps x, v => ∃ p l xs, v = .ref p ∧ H p = some (.tup [.str "loop", .int many, .ref l, .int x]) ∧ H l = some (.lst xs) ∧ l ∉ M ∧ Pts H xs ps
  | .nest, v => ∃ p, v = .ref p ∧ H p = some (.tup [.str "nest"])
abbrev Its (M : List Addr) (H : Hp) (xs : List V) (its : List Itm) : Prop := Paired (fun v it => Itm.In M H it v) xs its
theorem Pts.up {M : List Addr} {H H' : Hp} (k : Kp M H H') {xs : List V} {ps : List (Bool × Int)} (h : Pts H xs ps) : Pts H' xs ps := Paired.mapP h fun _ _ ⟨q, e, z⟩ => ⟨q, e, k.tup _ _ z⟩
theorem Itm.In.ksub {M N : List Addr} {H H' : Hp} (k : Kp N H H') (n : ∀ x, x ∈ N → x ∈ M) : ∀ {it : Itm} {v : V}, it.In M H v → it.In M H' v
  | .gt _ _ _, _, ⟨p, e, h⟩ => ⟨p, e, k.tup _ _ h⟩
  | .loop _ _ _, _, ⟨p, l, xs, e, h, hl, m, a⟩ => ⟨p, l, xs, e, k.tup _ _ h, k.out _ _ (fun z => m (n _ z)) hl, m, Pts.up k a⟩
  | .nest, _, ⟨p, e, h⟩ => ⟨p, e, k.tup _ _ h⟩
theorem Itm.In.more {M : List Addr} {H : Hp} {p : Addr} (hp : H p = none) : ∀ {it : Itm} {v : V}, it.In M H v → it.In (p :: M) H v
  | .gt _ _ _, _, h => h
  | .loop _ _ _, _, ⟨q, l, xs, e, h, hl, m, a⟩ => ⟨q, l, xs, e, h, hl, fun z => by
    rcases List.mem_cons.mp z with rfl | z
    · rw [hp] at hl; cases hl
    · exact m z, a⟩
  | .nest, _, h => h
theorem Itm.In.less {M N : List Addr} {H : Hp} (n : ∀ x, x ∈ N → x ∈ M) : ∀ {it : Itm} {v : V}, it.In M H v → it.In N H v
  | .gt _ _ _, _, h => h
  | .loop _ _ _, _, ⟨q, l, xs, e, h, hl, m, a⟩ => ⟨q, l, xs, e, h, hl, fun z => m (n _ z), a⟩
  | .nest, _, h => h
theorem its_ksub {M N : List Addr} {H H' : Hp} {xs : List V} {its : List Itm} (k : Kp N H H') (n : ∀ x, x ∈ N → x ∈ M) (h : Its M H xs its) : Its M H' xs its := Paired.mapP h fun _ _ q => q.ksub k n
theorem its_ex {M : List Addr} {H H' : Hp} {xs : List V} {its : List Itm} (k : Ex H H') (h : Its M H xs its) : Its M H' xs its := its_ksub (k.kp (M := [])) subm_n h
theorem its_more {M : List Addr} {H : Hp} {p : Addr} {xs : List V} {its : List Itm} (hp : H p = none) (h : Its M H xs its) : Its (p :: M) H xs its := Paired.mapP h fun _ _ q => q.more hp
theorem pair_at {α β : Type} {F : α → β → Prop} : ∀ {xs : List α} {ys : List β} {i : Nat} {x : α}, Paired F xs ys → xs[i]? = some x → ∃ y, ys[i]? = some y ∧ F x y
  | _, _, 0, _, .cons h _, e => ⟨_, rfl, by simp at e; subst e; exact h⟩
  | _, _, i + 1, _, .cons _ t, e => by
    obtain ⟨y, a, b⟩ := pair_at (i := i) t (by simpa using e)
    exact ⟨y, by simpa using a, b⟩
  | _, _, _, _, .nil, e => by simp at e
theorem pair_app {α β : Type} {F : α → β → Prop} : ∀ {xs ys : List α} {us vs : List β}, Paired F xs us → Paired F ys vs → Paired F (xs ++ ys) (us ++ vs)
  | _, _, _, _, .nil, h => h
  | _, _, _, _, .cons a t, h => .cons a (pair_app t h)
local macro_rules | `(tactic| subst "its") => `(tactic| (refine its_ksub (by assumption) (by (first | subst "subm" | fail)) ?_; subst "its"))
local macro_rules | `(tactic| subst "its") => `(tactic| (refine its_ex (by assumption) ?_; subst "its"))
local macro_rules | `(tactic| subst "its") => `(tactic| assumption)
/-- an item over an env and counters -/
def Itm.fits (ed : Ed) (cs : List Int) : Itm → Prop
  | .gt gv c _ => (gv = true → c ∈ ed.gives) ∧ (gv = false → c ∈ ed.takes)
  | .loop many ps x => 0 ≤ many ∧ many ≤ 3 ∧ x ∈ cs ∧ ps.length ≤ 1000 ∧ ∀ p ∈ ps, (p.1 = true → p.2 ∈ ed.gives) ∧ (p.1 = false → p.2 ∈ ed.takes)
  | .nest => True
/-- q = 1: the parts of a loop; q = 2: no nest; q = 3: any -/
def Itm.alw (q : Nat) : Itm → Prop
  | .gt _ _ z => z = true → 2 ≤ q
  | .loop _ _ _ => 2 ≤ q
  | .nest => 3 ≤ q
structure Wd.ok (d : Wd) : Prop where
  lf0 : 0 ≤ d.left
  it0 : 0 ≤ d.items
  ce0 : 0 ≤ d.cells
  pot : d.cells + 9 * d.left + d.items ≤ 400
  c24 : d.chs.length ≤ 24
  c61 : d.cells + 2 * d.left ≤ 61
  l11 : d.left ≤ 11
/-- how the world goes on: k branches -/
structure Evo (d d' : Wd) (k : Nat) : Prop where
  th : d'.threads = d.threads + k
  lf : d'.left = d.left - k
  lf0 : 0 ≤ d'.left
  it : d'.items ≤ d.items
  it0 : 0 ≤ d'.items
  ce : d.cells ≤ d'.cells
  pot : d'.cells + 9 * d'.left + d'.items ≤ d.cells + 9 * d.left + d.items
  al : d'.alts = d.alts
  lo : d'.loops = d.loops
  ch : ∃ j, d'.chs = d.chs ++ List.replicate j ("inner" : Str)
  c24 : d'.chs.length ≤ 24
  c61 : d'.cells + 2 * d'.left ≤ 61
theorem Evo.refl {d : Wd} (h : d.ok) : Evo d d 0 := ⟨by omega, by omega, h.lf0, Int.le_refl _, h.it0, Int.le_refl _, Int.le_refl _, rfl, rfl, ⟨0, by simp⟩, h.c24, h.c61⟩
theorem Evo.trans {d d1 d2 : Wd} {j k : Nat} (a : Evo d d1 j) (b : Evo d1 d2 k) : Evo d d2 (j + k) := by
  obtain ⟨m, em⟩ := a.ch
  obtain ⟨n, en⟩ := b.ch
  have h1 := a.th
  have h2 := b.th
  have h3 := a.lf
  have h4 := b.lf
  have h5 := a.it
  have h6 := b.it
  have h7 := a.ce
  have h8 := b.ce
  have h9 := a.pot
  have h10 := b.pot
  exact ⟨by omega, by omega, b.lf0, by omega, b.it0, by omega, by omega, b.al.trans a.al, b.lo.trans a.lo, ⟨m + n, by rw [en, em, List.append_assoc, List.replicate_append_replicate]⟩, b.c24, b.c61⟩
theorem Evo.wok {d d' : Wd} {k : Nat} (h : Evo d d' k) (o : d.ok) : d'.ok := ⟨h.lf0, h.it0, by have := h.ce; have := o.ce0; omega, by have := h.pot; have := o.pot; omega, h.c24, h.c61, by have := h.lf; have := o.l11; omega⟩
theorem Evo.chl {d d' : Wd} {k : Nat} (h : Evo d d' k) : d.chs.length ≤ d'.chs.length := by
  obtain ⟨m, em⟩ := h.ch
  rw [em, List.length_append]
  omega
theorem Evo.item {d : Wd} (h : d.ok) (p : 0 < d.items) : Evo d { d with items := d.items - 1 } 0 := by
  have := h.pot
  have := h.lf0
  have := h.it0
  refine ⟨?_, ?_, h.lf0, ?_, ?_, Int.le_refl _, ?_, rfl, rfl, ⟨0, by simp⟩, h.c24, h.c61⟩ <;> dsimp only <;> omega
/-- what came new lies in F -/
structure Rg (d d' : Wd) (F : Fr) : Prop where
  c : ∀ k, d.cells ≤ k → k < d'.cells → F.W k ∧ F.R k
  h : ∀ c : Int, (d.chs.length : Int) ≤ c → c < d'.chs.length → F.G c ∧ F.T c
theorem Rg.left {d d1 d2 : Wd} {k : Nat} {F : Fr} (e : Evo d1 d2 k) (r : Rg d d2 F) : Rg d d1 F := ⟨fun k a b => r.c k a (by have := e.ce; omega), fun c a b => r.h c a (by have := e.chl; omega)⟩
theorem Rg.right {d d1 d2 : Wd} {k : Nat} {F : Fr} (e : Evo d d1 k) (r : Rg d d2 F) : Rg d1 d2 F := ⟨fun k a b => r.c k (by have := e.ce; omega) b, fun c a b => r.h c (by have := e.chl; omega) b⟩
def wkb (q : Nat) (l : Bool) (i f : Int) : Int := if q ≤ 1 then 16 * i else if q = 2 ∨ l = false then 64 * i + 9 * f else 128 * i + 18 * f
def depb (q : Nat) (l : Int) : Int := if q ≤ 1 then 4 else 4 * l + 14
theorem depb_mono {q : Nat} {l m : Int} (h : l ≤ m) : depb q l ≤ depb q m := by
  unfold depb
  split <;> omega
theorem depb_4 {q : Nat} {l : Int} (h : 0 ≤ l) : 4 ≤ depb q l := by
  unfold depb
  split <;> omega
theorem depb_q {q : Nat} {l : Int} (h : 2 ≤ q) : depb q l = 4 * l + 14 := by
  unfold depb
  rw [if_neg (by omega)]
/-- the statements that items give -/
structure ItOut (q : Nat) (F0 : Fr) (d d' : Wd) (ss : Ss) : Prop where
  c0 : q ≤ 1 → ss.cnt = 0
  evo : Evo d d' ss.cnt
  fit : ∀ F, F0.le F → Rg d d' F → ss.fit F
  rule : ss.rule
  num : ss.num d.threads
  dep : (ss.dep : Int) ≤ depb q d.left
  sz : (ss.sz : Int) ≤ 140 * (d.items - d'.items) + 7 * (d.left - d'.left)
  wk0 : 0 ≤ ss.wk
  wk : ss.wk ≤ wkb q d.loops (d.items - d'.items) (d.left - d'.left)
theorem wkb_add {q : Nat} {l : Bool} {i j f g : Int} : wkb q l (i + j) (f + g) = wkb q l i f + wkb q l j g := by
  unfold wkb
  split
  · omega
  · split <;> omega
theorem ItOut.refl {q : Nat} {F0 : Fr} {d : Wd} (h : d.ok) : ItOut q F0 d d .nil := ⟨fun _ => rfl, Evo.refl h, fun _ _ _ => trivial, trivial, trivial, by have := @depb_4 q d.left h.lf0; simp only [Ss.dep]; omega, by simp [Ss.sz], by simp [Ss.wk], by
  simp only [Ss.wk, wkb, Int.sub_self]
  split
  · omega
  · split <;> omega⟩
theorem ItOut.trans {q : Nat} {F0 : Fr} {d d1 d2 : Wd} {a b : Ss} (x : ItOut q F0 d d1 a) (y : ItOut q F0 d1 d2 b) : ItOut q F0 d d2 (a.app b) := by
  have e1 := x.evo
  have e2 := y.evo
  refine ⟨fun z => by rw [Ss.app_cnt, x.c0 z, y.c0 z], ?_, fun F l r => Ss.app_fit.mpr ⟨x.fit F l (r.left e2), y.fit F l (r.right e1)⟩, Ss.app_rule.mpr ⟨x.rule, y.rule⟩, Ss.app_num.mpr ⟨x.num, ?_⟩, ?_, ?_, ?_, ?_⟩
  · rw [Ss.app_cnt]
    exact e1.trans e2
  · rw [← e1.th]
    exact y.num
  · have := x.dep
    have := y.dep
    have := e1.lf
    have := @depb_mono q d1.left d.left (by omega)
    rw [Ss.app_dep]
    omega
  · have := x.sz
    have := y.sz
    rw [Ss.app_sz]
    omega
  · have := x.wk0
    have := y.wk0
    rw [Ss.app_wk]
    omega
  · have h1 := x.wk
    have h2 := y.wk
    rw [e1.lo] at h2
    have h3 := @wkb_add q d.loops (d.items - d1.items) (d1.items - d2.items) (d.left - d1.left) (d1.left - d2.left)
    rw [show d.items - d1.items + (d1.items - d2.items) = d.items - d2.items by omega, show d.left - d1.left + (d1.left - d2.left) = d.left - d2.left by omega] at h3
    rw [Ss.app_wk, h3]
    omega
/-- what one item gives, behind a simple statement -/
structure MOut (q : Nat) (F0 : Fr) (d d' : Wd) (ss : Ss) : Prop where
  c0 : q ≤ 1 → ss.cnt = 0
  evo : Evo d d' ss.cnt
  fit : ∀ F, F0.le F → Rg d d' F → ss.fit F
  rule : ss.rule
  num : ss.num d.threads
  dep : (ss.dep : Int) ≤ depb q d.left
  sz : (ss.sz : Int) ≤ 135 + 140 * (d.items - d'.items) + 7 * (d.left - d'.left)
  wk0 : 0 ≤ ss.wk
  wk : ss.wk ≤ (if q ≤ 1 then 9 else 57) + wkb q d.loops (d.items - d'.items) (d.left - d'.left)
/-- none or one simple statement -/
structure Pre (F0 : Fr) (ss : Ss) : Prop where
  fit : ss.fit F0
  rule : ss.rule
  cnt : ss.cnt = 0
  dep : ss.dep ≤ 3
  sz : ss.sz ≤ 5
  wk0 : 0 ≤ ss.wk
  wk : ss.wk ≤ 7
mutual
theorem Sx.wk0 {F : Fr} : ∀ {s : Sx}, s.fit F → 0 ≤ s.wk
  | .skip, _ => by simp [Sx.wk]
  | .stop, _ => by simp [Sx.wk]
  | .set _ _, _ => by simp [Sx.wk]
  | .give _ _, _ => by simp [Sx.wk]
  | .take _ _, _ => by simp [Sx.wk]
  | .ife _ a b, h => by
    have h1 := Sx.wk0 h.2.2.1
    simp only [Sx.wk]
    omega
  | .rep _ n a, h => by
    have h1 := Sx.wk0 h.2.2.2.2
    have h2 : 0 ≤ n * (a.wk + 1) := Int.mul_nonneg h.2.2.1 (by omega)
    simp only [Sx.wk]
    omega
  | .seq ss, h => by
    have h1 := Ss.wk0 (s := ss) h
    simp only [Sx.wk]
    omega
  | .par ss, h => by
    have h1 := Ps.wk0 (s := ss) h
    simp only [Sx.wk]
    omega
  | .alt ss, h => by
    have h1 := As.wk0 (a := ss)
    simp only [Sx.wk]
    omega
theorem Ss.wk0 {F : Fr} : ∀ {s : Ss}, s.fit F → 0 ≤ s.wk
  | .nil, _ => by simp [Ss.wk]
  | .cons a b, h => by
    have h1 := Sx.wk0 h.1
    have h2 := Ss.wk0 h.2
    simp only [Ss.wk]
    omega
theorem Ps.wk0 {F : Fr} : ∀ {s : Ps}, s.fit F → 0 ≤ s.wk
  | .nil, _ => by simp [Ps.wk]
  | .cons _ a b, h => by
    have h1 := Sx.wk0 h.1
    have h2 := Ps.wk0 h.2
    simp only [Ps.wk]
    omega
end
theorem Pre.nil {F0 : Fr} : Pre F0 .nil := ⟨trivial, trivial, rfl, by decide, by decide, by decide, by decide⟩
theorem Pre.one {F0 : Fr} {s : Sx} (h : s.Pl F0 3 5 7) : Pre F0 (.cons s .nil) := ⟨⟨h.fit, trivial⟩, ⟨h.rule, trivial⟩, by simp [Ss.cnt, h.cnt], by have := h.dep; simp only [Ss.dep]; omega, by have := h.sz; simp only [Ss.sz]; omega, by have := Sx.wk0 h.fit; simp only [Ss.wk]; omega, by have := h.wk; simp only [Ss.wk]; omega⟩
theorem MOut.step {q : Nat} {F0 : Fr} {d d2 : Wd} {p m : Ss} (o : d.ok) (hi : 0 < d.items) (hp : Pre F0 p) (h : MOut q F0 { d with items := d.items - 1 } d2 m) : ItOut q F0 d d2 (p.app m) := by
  have e1 := Evo.item o hi
  have e2 := h.evo
  refine ⟨fun z => by rw [Ss.app_cnt, hp.cnt, h.c0 z], ?_, fun F l r => Ss.app_fit.mpr ⟨hp.fit.mono l, h.fit F l (r.right e1)⟩, Ss.app_rule.mpr ⟨hp.rule, h.rule⟩, Ss.app_num.mpr ⟨Ss.num0 hp.cnt _, ?_⟩, ?_, ?_, ?_, ?_⟩
  · rw [Ss.app_cnt, hp.cnt]
    exact e1.trans e2
  · rw [hp.cnt]
    simpa using h.num
  · have h1 := h.dep
    have := hp.dep
    have := @depb_4 q d.left o.lf0
    dsimp only at h1
    rw [Ss.app_dep]
    omega
  · have h1 := h.sz
    have := hp.sz
    dsimp only at h1
    rw [Ss.app_sz]
    omega
  · have := h.wk0
    have := hp.wk0
    rw [Ss.app_wk]
    omega
  · have h1 := h.wk
    have h2 := hp.wk
    dsimp only at h1
    have h3 := @wkb_add q d.loops 1 (d.items - 1 - d2.items) 0 (d.left - d2.left)
    rw [show 1 + (d.items - 1 - d2.items) = d.items - d2.items by omega, Int.zero_add] at h3
    rw [Ss.app_wk, h3]
    have h4 : 7 + (if q ≤ 1 then 9 else 57) ≤ wkb q d.loops 1 0 := by
      unfold wkb
      split
      · decide
      · split <;> decide
    omega
/-- a par that a part gives -/
structure ParOut (dp : Int) (F0 : Fr) (d d' : Wd) (s : Sx) : Prop where
  evo : Evo d d' s.cnt
  fit : ∀ F, F0.le F → Rg d d' F → s.fit F
  rule : s.rule
  num : s.num d.threads
  dep : (s.dep : Int) ≤ 4 * d.left + 8
  sz : (s.sz : Int) ≤ 1 + 140 * (d.items - d'.items) + 7 * (d.left - d'.left)
  wk0 : 0 ≤ s.wk
  wk : s.wk ≤ 1 + wkb (if dp = 0 then 2 else 3) d.loops (d.items - d'.items) (d.left - d'.left)
/-- an env within a world -/
structure EdB (ed : Ed) (d : Wd) : Prop where
  ok : ed.ok
  cn : ed.cells.Nodup
  cb : ∀ k ∈ ed.cells, 0 ≤ k ∧ k < d.cells
  gn : ed.gives.Nodup
  gb : ∀ c ∈ ed.gives, 0 ≤ c ∧ c < (d.chs.length : Int)
  tn : ed.takes.Nodup
  tb : ∀ c ∈ ed.takes, 0 ≤ c ∧ c < (d.chs.length : Int)
  cl : (ed.cells.length : Int) + d.left ≤ 20
  gl : ed.gives.length ≤ 24
  tl : ed.takes.length ≤ 24
theorem EdB.evo {ed : Ed} {d d' : Wd} {k : Nat} (h : EdB ed d) (e : Evo d d' k) : EdB ed d' := ⟨h.ok, h.cn, fun k hk => ⟨(h.cb k hk).1, by have := (h.cb k hk).2; have := e.ce; omega⟩, h.gn, fun c hc => ⟨(h.gb c hc).1, by have := (h.gb c hc).2; have := e.chl; omega⟩, h.tn, fun c hc => ⟨(h.tb c hc).1, by have := (h.tb c hc).2; have := e.chl; omega⟩, by have := h.cl; have := e.lf; omega, h.gl, h.tl⟩
def sp_par (n : Nat) : Sp := fun vs H Q _ => ∃ (a : Ea) (ed : Ed) (M : List Addr) (st c wa ch : Addr) (d : Wd) (dp : Int), vs = [.ref st, .ref a.e, .ref wa, .int dp] ∧ (∀ x, x ∈ Mw st c wa ch → x ∈ M) ∧ MoS M st c H ∧ StOk st c H ∧ WIn wa ch d H ∧ wa ∉ [st, c] ∧ ch ∉ [st, c] ∧ EIn a ed H ∧ a.out M ∧ EdB ed d ∧ d.ok ∧ d.left ≤ 2 * n + 1 ∧ (dp = 0 ∨ dp = 1) ∧
  ∀ (s : Sx) (v : V) (d' : Wd) (H' : Hp), s.In M H' v → ParOut dp (ed.fr []) d d' s → Kp (Mw st c wa ch) H H' → StOk st c H' → WIn wa ch d' H' → Q v H'
def sp_items (q n : Nat) : Sp := fun vs H Q _ => ∃ (a : Ea) (ed : Ed) (cs : List Int) (M : List Addr) (st c wa ch il : Addr) (d : Wd) (xs : List V) (its : List Itm), vs = [.ref st, .ref a.e, .ref wa, .ref il] ∧ (∀ x, x ∈ Mw st c wa ch → x ∈ M) ∧ MoS M st c H ∧ StOk st c H ∧ WIn wa ch d H ∧ wa ∉ [st, c] ∧ ch ∉ [st, c] ∧ EIn a ed H ∧ a.out M ∧ EdB ed d ∧ d.ok ∧ d.left ≤ 2 * n + 1 ∧
  H il = some (.lst xs) ∧ il ∉ M ∧ Its M H xs its ∧ (∀ it ∈ its, it.fits ed cs ∧ it.alw q) ∧
  ∀ (ss : Ss) (l : Addr) (ys : List V) (d' : Wd) (H' : Hp), H' l = some (.lst ys) → l ∉ M → ss.In M H' ys → ItOut q (ed.fr cs) d d' ss → Kp (Mw st c wa ch) H H' → StOk st c H' → WIn wa ch d' H' → Q (.ref l) H'
/-! the statements of one item -/
theorem Fr.nil_le {ed : Ed} {cs : List Int} : (ed.fr []).le (ed.fr cs) := ⟨fun k h => h.elim .inl fun h => h.elim (fun h => .inr (.inl h)) (fun h => by cases h), fun k h => h.elim .inl fun h => h.elim (fun h => .inr (.inl h)) (fun h => by cases h), fun _ h => h, fun _ h => h⟩
theorem wkb_nn {q : Nat} {l : Bool} {i f : Int} (hi : 0 ≤ i) (hf : 0 ≤ f) : 0 ≤ wkb q l i f := by
  unfold wkb
  split
  · omega
  · split <;> omega
/-- a statement without branches -/
theorem MOut.plain {q : Nat} {F0 : Fr} {d : Wd} {s : Sx} {D S : Nat} {k : Int} (o : d.ok) (h : s.Pl F0 D S k) (hD : D ≤ 4) (hS : S ≤ 135) (hk : k ≤ 9) : MOut q F0 d d (.cons s .nil) := by
  have h0 := h.cnt
  have := @depb_4 q d.left o.lf0
  have h1 := h.dep
  have h2 := h.sz
  have h3 := h.wk
  have h4 := Sx.wk0 h.fit
  have h5 := @wkb_nn q d.loops (d.items - d.items) (d.left - d.left) (by omega) (by omega)
  refine ⟨fun _ => by simp only [Ss.cnt, h0], by simp only [Ss.cnt, h0]; exact Evo.refl o, fun F l _ => ⟨h.fit.mono l, trivial⟩, ⟨h.rule, trivial⟩, ⟨Sx.num0 h0 _, trivial⟩, by simp only [Ss.dep]; omega, by simp only [Ss.sz]; omega, by simp only [Ss.wk]; omega, ?_⟩
  simp only [Ss.wk]
  split <;> omega
/-- an alt whose first row ends in a par -/
theorem MOut.alt {q : Nat} {F0 F1 : Fr} {d d' : Wd} {g : Option Tm} {c : Int} {t : Tm} {s s0 : Sx} {r : As} (hq : 2 ≤ q) (hF : F1.le F0) (ha : (Sx.alt (.cons g c t s0 r)).Pl F0 4 126 9) (h : ParOut 0 F1 d d' s) (o : d.ok) : MOut q F0 d d' (.cons (.alt (.cons g c t s r)) .nil) := by
  obtain ⟨af, ar, ac, ad, as, aw⟩ := ha
  have e0 := h.evo
  have hc : s0.cnt + r.cnt = 0 := ac
  have h1 := h.dep
  have h2 := h.sz
  have h3 := h.wk
  have h4 := h.wk0
  have l1 := e0.lf
  have l2 := e0.it
  have l3 := o.lf0
  have w0 := As.wk0 (a := r)
  simp only [Sx.dep, As.dep, Sx.sz, As.sz, Sx.wk, As.wk] at ad as aw
  have hb : (1 : Int) + wkb (if (0 : Int) = 0 then 2 else 3) d.loops (d.items - d'.items) (d.left - d'.left) ≤ 1 + wkb q d.loops (d.items - d'.items) (d.left - d'.left) := by
    unfold wkb
    rw [if_pos rfl, if_neg (by omega), if_pos (.inl rfl), if_neg (by omega)]
    split <;> omega
  refine ⟨fun z => absurd z (by omega), by simp only [Ss.cnt, Sx.cnt, As.cnt]; rw [show s.cnt + r.cnt + 0 = s.cnt by omega]; exact e0, fun F l rg => ⟨⟨(af.1).mono l.r, l.t _ af.2.1, af.2.2.1.mono l.r l.w, af.2.2.2.1, h.fit F (hF.trans l) rg, af.2.2.2.2.2.mono l⟩, trivial⟩, ⟨⟨ar.1, h.rule, ar.2.2⟩, trivial⟩, ⟨⟨h.num, As.num0 (by omega) _⟩, trivial⟩, ?_, ?_, ?_, ?_⟩
  · simp only [Ss.dep, Sx.dep, As.dep]
    rw [depb_q hq]
    omega
  · simp only [Ss.sz, Sx.sz, As.sz]
    omega
  · simp only [Ss.wk, Sx.wk, As.wk]
    omega
  · simp only [Ss.wk, Sx.wk, As.wk]
    rw [if_neg (by omega)]
    omega
/-- a wrapped par -/
theorem ItOut.wrap {q : Nat} {F0 F1 : Fr} {d d' : Wd} {m : Int} {p s : Sx} {pre : Ss} (hq : 3 ≤ q) (hF : F1.le F0) (o : d.ok) (hi : 0 < d.items) (hp : Pre F0 pre) (h : ParOut 0 F1 { d with items := d.items - 1 } d' p) (hw : Wrap F0 d'.cells m d'.loops p s) (m0 : d'.cells ≤ m) (m1 : m = d'.cells ∨ m = d'.cells + 1 ∧ d'.cells ≤ 37) : ItOut q F0 d { d' with cells := m } (pre.app (.cons s .nil)) := by
  have e0 := h.evo
  have h1 := h.dep
  have h2 := h.sz
  have h3 := h.wk
  have h5 := hw.dep
  have h6 := hw.sz
  have h7 := hw.wk h.wk0
  have l1 := e0.lf
  have l2 := e0.it
  have l4 := e0.ce
  have l3 := o.lf0
  have p0 := hp.cnt
  have pd := hp.dep
  have ps := hp.sz
  have pw := hp.wk
  have pw0 := hp.wk0
  have hc := hw.cnt
  have ec := e0.chl
  rw [e0.lo] at h7
  dsimp only at h1 h2 h3 h7 l1 l2 l4 ec
  have wf : ∀ F, F0.le F → Rg d { d' with cells := m } F → s.fit F := fun F l rg => hw.fit F l (fun k a b => rg.c k (by omega) b) (h.fit F (hF.trans l) ⟨fun k a b => rg.c k a (by show k < m; omega), fun c a b => rg.h c a b⟩)
  have w0 : 0 ≤ s.wk := by
    have hz : s.fit ⟨fun _ => True, fun _ => True, fun _ => True, fun _ => True⟩ := wf _ ⟨fun _ _ => trivial, fun _ _ => trivial, fun _ _ => trivial, fun _ _ => trivial⟩ ⟨fun _ _ _ => ⟨trivial, trivial⟩, fun _ _ _ => ⟨trivial, trivial⟩⟩
    exact Sx.wk0 hz
  refine ⟨fun z => absurd z (by omega), ⟨?_, ?_, e0.lf0, ?_, e0.it0, ?_, ?_, e0.al, e0.lo, e0.ch, e0.c24, ?_⟩, fun F l rg => Ss.app_fit.mpr ⟨hp.fit.mono l, wf F l rg, trivial⟩, Ss.app_rule.mpr ⟨hp.rule, hw.rule h.rule, trivial⟩, Ss.app_num.mpr ⟨Ss.num0 p0 _, ?_, trivial⟩, ?_, ?_, ?_, ?_⟩
  · have := e0.th
    dsimp only at this
    simp only [Ss.app_cnt, Ss.cnt, p0, hc]
    omega
  · simp only [Ss.app_cnt, Ss.cnt, p0, hc]
    omega
  · show d'.items ≤ d.items
    omega
  · show d.cells ≤ m
    omega
  · have := e0.pot
    dsimp only at this
    show m + 9 * d'.left + d'.items ≤ _
    omega
  · have := e0.c61
    have := o.l11
    show m + 2 * d'.left ≤ 61
    omega
  · rw [p0]
    simpa using hw.num _ h.num
  · rw [Ss.app_dep, depb_q (by omega)]
    simp only [Ss.dep]
    omega
  · rw [Ss.app_sz]
    simp only [Ss.sz]
    omega
  · rw [Ss.app_wk]
    simp only [Ss.wk]
    omega
  · rw [Ss.app_wk]
    simp only [Ss.wk]
    unfold wkb at h3 ⊢
    rw [if_pos rfl, if_neg (by omega), if_pos (.inl rfl)] at h3
    rw [if_neg (by omega)]
    cases hl : d.loops
    · rw [hl, if_neg (by decide)] at h7
      rw [if_pos (.inr rfl)]
      omega
    · rw [hl, if_pos rfl] at h7
      rw [if_neg (by rintro (z | z); omega; cases z)]
      omega
/-- a loop over its parts -/
theorem MOut.loop {q : Nat} {F0 : Fr} {d d' : Wd} {x m n : Int} {ss : Ss} (hq : 2 ≤ q) (h : ItOut 1 F0 d d' ss) (c0 : ss.cnt = 0) (o : d.ok) (hw : F0.W x) (hr : F0.R x) (n0 : 0 ≤ m) (n1 : m ≤ 3) (k0 : m ≤ n) (k1 : n ≤ m + 1) :
    MOut q F0 d d' (.cons (.set (.cell x) (.num 0)) (.cons (.rep (.bin .lt (.cell x) (.num m)) n (.seq (ss.app (.cons (.set (.cell x) (.bin .add (.cell x) (.num 1))) .nil)))) .nil)) := by
  have e0 := h.evo
  have h1 := h.dep
  have h2 := h.sz
  have h3 := h.wk
  have h4 := h.wk0
  have l1 := e0.lf
  have l2 := e0.it
  have l3 := o.lf0
  rw [c0] at l1
  unfold wkb at h3
  rw [if_pos (Nat.le_refl 1)] at h3
  refine ⟨fun z => absurd z (by omega), ?_, fun F l rg => ⟨⟨l.w _ hw, by simp [Tm.deep], ⟨by decide, by decide⟩, by simp [Tm.deep]⟩, ⟨⟨l.r _ hr, ⟨n0, by omega⟩⟩, by simp [Tm.deep], by omega, by omega, Ss.app_fit.mpr ⟨h.fit F l rg, ⟨l.w _ hw, by simp [Tm.deep], ⟨l.r _ hr, by decide, by decide⟩, by simp [Tm.deep]⟩, trivial⟩⟩, trivial⟩, ⟨trivial, Ss.app_rule.mpr ⟨h.rule, trivial, trivial⟩, trivial⟩, ⟨trivial, Ss.app_num.mpr ⟨Ss.num0 c0 _, trivial, trivial⟩, trivial⟩, ?_, ?_, ?_, ?_⟩
  · simp only [Ss.cnt, Sx.cnt, Ss.app_cnt, c0]
    rw [c0] at e0
    exact e0
  · simp only [Ss.dep, Sx.dep, Ss.app_dep]
    rw [depb_q hq]
    unfold depb at h1
    rw [if_pos (Nat.le_refl 1)] at h1
    omega
  · simp only [Ss.sz, Sx.sz, Ss.app_sz]
    omega
  · simp only [Ss.wk, Sx.wk, Ss.app_wk]
    have : 0 ≤ n * (ss.wk + (1 + 0) + 1 + 1) := Int.mul_nonneg (by omega) (by omega)
    omega
  · simp only [Ss.wk, Sx.wk, Ss.app_wk]
    have hn : n * (ss.wk + (1 + 0) + 1 + 1) ≤ 4 * (ss.wk + 3) := by
      have : n * (ss.wk + (1 + 0) + 1 + 1) ≤ 4 * (ss.wk + (1 + 0) + 1 + 1) := Int.mul_le_mul_of_nonneg_right (by omega) (by omega)
      omega
    rw [if_neg (by omega)]
    unfold wkb
    rw [if_neg (by omega)]
    split <;> omega
abbrev s__law_items : Stmt := topS 32
theorem sc__law_items : FnScope ["state", "env", "world", "items", "found", "item", "row", "counter", "parts", "inner", "part"] ["state", "env", "world", "items"] (defScope s__law_items) := ⟨rfl, rfl, rfl, by decide +kernel, rfl, by decide +kernel, by decide +kernel⟩
abbrev p__law_items : List Str := ["state", "env", "world", "items"]
theorem ifsj {c : TT} {ts us : TS} {nx bk ct : L2.St → Hp → Prop} {rt : VK} {σ : L2.St} {H : Hp} (R : L2.St → Hp → Prop) (h : ∀ nx' : L2.St → Hp → Prop, (∀ σ' H', R σ' H' → nx' σ' H') → tIfS c ts us ⟨nx', rt, bk, ct⟩ σ H) (q : ∀ σ' H', R σ' H' → nx σ' H') : tIfS c ts us ⟨nx, rt, bk, ct⟩ σ H := h nx q
theorem c_alt {a : Ea} {ed : Ed} {cs : List Int} {M : List Addr} {st c : Addr} {ch : Int} {H : Hp} {Q : VK} {E : XK} (m1 : st ∈ M) (m2 : c ∈ M) (so : StOk st c H) (mo : MoS M st c H) (ei : EIn a ed H) (eo : ed.ok) (ma : a.out M) (hc : ch ∈ ed.takes) (tl : ed.takes.length ≤ 24)
    (q : ∀ (rs : As) (v : V) (H' : Hp), (Sx.alt rs).In M H' v → (Sx.alt rs).Pl (ed.fr cs) 4 126 9 → (∃ g k t s r, rs = .cons g k t s r) → Kp [st, c] H H' → StOk st c H' → Q v H') : sp_alt [.ref st, .ref a.e, .int ch] H Q E := ⟨a, ed, cs, M, st, c, ch, rfl, m1, m2, so, mo, ei, eo, ma, hc, tl, q⟩
theorem c_wrap {a : Ea} {ed : Ed} {cs : List Int} {M : List Addr} {st c wa ch : Addr} {d : Wd} {p : Sx} {pt : V} {H : Hp} {Q : VK} {E : XK} (ms : ∀ x, x ∈ Mw st c wa ch → x ∈ M) (mo : MoS M st c H) (so : StOk st c H) (wi : WIn wa ch d H) (nw : wa ∉ [st, c]) (nc : ch ∉ [st, c]) (ei : EIn a ed H) (eo : ed.ok) (ma : a.out M) (hp : p.In M H pt)
    (q : ∀ (s : Sx) (v : V) (m : Int) (H' : Hp), d.cells ≤ m → (m = d.cells ∨ m = d.cells + 1 ∧ d.cells ≤ 37) → s.In M H' v → Wrap (ed.fr cs) d.cells m d.loops p s → Kp (Mw st c wa ch) H H' → StOk st c H' → WIn wa ch { d with cells := m } H' → Q v H') : sp_wrap [.ref st, .ref a.e, .ref wa, pt] H Q E := ⟨a, ed, cs, M, st, c, wa, ch, d, p, pt, rfl, ms, mo, so, wi, nw, nc, ei, eo, ma, hp, q⟩
theorem c_par {n : Nat} {a : Ea} {ed : Ed} {M : List Addr} {st c wa ch : Addr} {d : Wd} {dp : Int} {H : Hp} {Q : VK} {E : XK} (ms : ∀ x, x ∈ Mw st c wa ch → x ∈ M) (mo : MoS M st c H) (so : StOk st c H) (wi : WIn wa ch d H) (nw : wa ∉ [st, c]) (nc : ch ∉ [st, c]) (ei : EIn a ed H) (ma : a.out M) (eb : EdB ed d) (o : d.ok) (hl : d.left ≤ 2 * n + 1) (hd : dp = 0 ∨ dp = 1)
    (q : ∀ (s : Sx) (v : V) (d' : Wd) (H' : Hp), s.In M H' v → ParOut dp (ed.fr []) d d' s → Kp (Mw st c wa ch) H H' → StOk st c H' → WIn wa ch d' H' → Q v H') : sp_par n [.ref st, .ref a.e, .ref wa, .int dp] H Q E := ⟨a, ed, M, st, c, wa, ch, d, dp, rfl, ms, mo, so, wi, nw, nc, ei, ma, eb, o, hl, hd, q⟩
theorem c_items {q0 n : Nat} {a : Ea} {ed : Ed} {cs : List Int} {M : List Addr} {st c wa ch il : Addr} {d : Wd} {xs : List V} {its : List Itm} {H : Hp} {Q : VK} {E : XK} (ms : ∀ x, x ∈ Mw st c wa ch → x ∈ M) (mo : MoS M st c H) (so : StOk st c H) (wi : WIn wa ch d H) (nw : wa ∉ [st, c]) (nc : ch ∉ [st, c]) (ei : EIn a ed H) (ma : a.out M) (eb : EdB ed d) (o : d.ok) (hl : d.left ≤ 2 * n + 1)
    (hi : H il = some (.lst xs)) (ni : il ∉ M) (ht : Its M H xs its) (hf : ∀ it ∈ its, it.fits ed cs ∧ it.alw q0)
    (q : ∀ (ss : Ss) (l : Addr) (ys : List V) (d' : Wd) (H' : Hp), H' l = some (.lst ys) → l ∉ M → ss.In M H' ys → ItOut q0 (ed.fr cs) d d' ss → Kp (Mw st c wa ch) H H' → StOk st c H' → WIn wa ch d' H' → Q (.ref l) H') : sp_items q0 n [.ref st, .ref a.e, .ref wa, .ref il] H Q E := ⟨a, ed, cs, M, st, c, wa, ch, il, d, xs, its, rfl, ms, mo, so, wi, nw, nc, ei, ma, eb, o, hl, hi, ni, ht, hf, q⟩
theorem cut_toNw (xs : List V) (c : Nat) : cutV xs none (some (c : Int)) = xs.take c := by
  unfold cutV
  rw [HT.sIx_none, HT.sIx_nat, List.drop_zero, Nat.sub_zero]
  by_cases h2 : c ≤ xs.length
  · rw [Nat.min_eq_left h2]
  · rw [Nat.min_eq_right (by omega), List.take_of_length_le (Nat.le_refl _), List.take_of_length_le (by omega)]
theorem cut_fromNw (xs : List V) (c : Nat) : cutV xs (some (c : Int)) none = xs.drop c := by
  unfold cutV
  rw [HT.sIx_none, HT.sIx_nat]
  by_cases h2 : c ≤ xs.length
  · rw [Nat.min_eq_left h2, List.take_of_length_le (by rw [List.length_drop]; omega)]
  · rw [Nat.min_eq_right (show xs.length ≤ c by omega), List.drop_eq_nil_of_le (as := xs) (i := c) (by omega), List.drop_eq_nil_of_le (as := xs) (i := xs.length) (Nat.le_refl _)]
    simp
section
variable {H : Hp} {Q : VK}
theorem q_cutA {p : Addr} {xs ys : List V} {a c : Option Int} (h : H p = some (.lst xs)) (e : cutV xs a c = ys) (q : ∀ p Hn, H p = none → Ex H Hn → Hn p = some (.lst ys) → Q (.ref p) Hn) : rSlA K (.ref p) a c H Q :=
  .inl ⟨p, xs, rfl, sql h, fun l hl => q l _ hl (Ex.mk hl rfl) (by rw [upd_same, e])⟩
theorem q_cutTo {p : Addr} {xs : List V} {c : Nat} {k : Int} (e : k = (c : Nat)) (h : H p = some (.lst xs)) (q : ∀ p Hn, H p = none → Ex H Hn → Hn p = some (.lst (xs.take c)) → Q (.ref p) Hn) : rSlA K (.ref p) none (some k) H Q := q_cutA h (by rw [e, cut_toNw]) q
theorem q_cutFrom {p : Addr} {xs : List V} {c : Nat} {k : Int} (e : k = (c : Nat)) (h : H p = some (.lst xs)) (q : ∀ p Hn, H p = none → Ex H Hn → Hn p = some (.lst (xs.drop c)) → Q (.ref p) Hn) : rSlA K (.ref p) (some k) none H Q := q_cutA h (by rw [e, cut_fromNw]) q
theorem q_cut3 {p : Addr} {a b c d : V} (h : H p = some (.tup [a, b, c, d])) (q : ∀ p Hn, H p = none → Ex H Hn → Hn p = some (.tup [a, b, c]) → Q (.ref p) Hn) : rSlA K (.ref p) none (some 3) H Q :=
  .inr ⟨p, _, rfl, sqt h, (by
    have e : HT.sIx ([a, b, c, d] : List V).length ([a, b, c, d] : List V).length (some ((3 : Nat) : Int)) = 3 := by rw [HT.sIx_nat]; rfl
    intro z
    have z2 := z.2
    rw [show (3 : Int) = ((3 : Nat) : Int) from rfl, e] at z2
    cases z2), fun l hl => q l _ hl (Ex.mk hl rfl) (by rw [upd_same, show (3 : Int) = ((3 : Nat) : Int) from rfl, cut_toNw]; rfl)⟩
theorem q_catT {a b : Addr} {x : V} {xs ys : List V} (h1 : H a = some (.tup (x :: xs))) (h2 : H b = some (.tup ys)) (hz : xs.length + 1 + ys.length ≤ 100000) (q : ∀ p Hn, Ex H Hn → Hn p = some (.tup (x :: xs ++ ys)) → Q (.ref p) Hn) : rAddA K (.ref a) (.ref b) H Q := by
  refine .inr (.inr (.inr ⟨a, b, x :: xs, ys, rfl, rfl, sqt h1, sqt h2, (fun z => by cases z), sl1000 (by rw [List.length_cons]; exact hz), fun e => ?_, fun _ p hp => q p _ (Ex.mk hp rfl) upd_same⟩))
  subst e
  refine q a H (Ex.refl H) ?_
  rw [List.append_nil]
  exact h1
theorem atI_snoc {xs : List V} {x : V} : atI (xs ++ [x]) (-1) = some x := by
  unfold atI ixN
  rw [if_neg (by decide), if_pos (by rw [List.length_append, List.length_singleton]; omega)]
  show (xs ++ [x])[_]? = _
  rw [List.length_append, List.length_singleton]
  rw [show ((-1 : Int) + ((xs.length + 1 : Nat) : Int)).toNat = xs.length by omega]
  simp
theorem ixN_snoc {n : Nat} : ixN (n + 1) (-1) = some n := by
  unfold ixN
  rw [if_neg (by decide), if_pos (by omega)]
  congr 1
  omega
theorem set_snoc {xs : List V} {x y : V} : (xs ++ [x]).set xs.length y = xs ++ [y] := by simp
end
local macro_rules | `(tactic| subst "kp5") => `(tactic| (refine Kp.trans ?_ (Kp.sub (by assumption) (by (first | subst "subm" | fail))); subst "kp5"))
local macro_rules | `(tactic| subst "kp5") => `(tactic| (refine Kp.trans ?_ (Ex.kp (by assumption)); subst "kp5"))
local macro_rules | `(tactic| subst "kp5") => `(tactic| exact Kp.refl _)
local macro_rules | `(tactic| subst "kp5") => `(tactic| assumption)
set_option hygiene false in
local macro_rules | `(tactic| subst "env") => `(tactic| (refine env_sub (M := M5) (subm_c m51 (subm_c m52 subm_n)) ?h; (case h => subst "envm")))
set_option hygiene false in
local macro_rules | `(tactic| subst "i_c_alt") => `(tactic| intro rs v Hn sv sk rc ke so)
set_option hygiene false in
local macro_rules | `(tactic| injection "own") => `(tactic| (refine c_alt (a := a) (ed := ed) (cs := cs) (M := M5) (c := c) m51 m52 ?a ?b ?d eb.ok ma5 ?e eb.tl ?_; (case a => subst "st_ok"); (case b => exists "mok"); (case d => subst "ein"); (case e => assumption); subst "i_c_alt"))
local macro_rules | `(tactic| injection "own") => `(tactic| ((with_reducible refine q_cut3 (a := ?a) (b := ?b) (c := ?c) (d := ?d) ?h ?_); (case h => exists "lift"); subst "i_new"))
theorem gin_kp {M : List Addr} {H H' : Hp} {g : Option Tm} {v : V} (k : Kp M H H') (h : gIn H g v) : gIn H' g v := gIn.up k.tup h
theorem gin_ex {H H' : Hp} {g : Option Tm} {v : V} (k : Ex H H') (h : gIn H g v) : gIn H' g v := gin_kp (M := []) k.kp h
local macro_rules | `(tactic| subst "gin") => `(tactic| (refine gin_kp (by assumption) ?_; subst "gin"))
local macro_rules | `(tactic| subst "gin") => `(tactic| (refine gin_ex (by assumption) ?_; subst "gin"))
local macro_rules | `(tactic| subst "gin") => `(tactic| assumption)
def sp_itemsQ (Qq : Nat → Prop) (n : Nat) : Sp := fun vs H Q E => ∃ q0, Qq q0 ∧ sp_items q0 n vs H Q E
def Spi (q : Nat) (I P : Sp) (n : Nat) : Prop := 2 ≤ q → (∀ vs H Q E, sp_items 1 n vs H Q E → I vs H Q E) ∧ ∀ vs H Q E, sp_par n vs H Q E → P vs H Q E
/-- the loop over the items: found is fl, over M5 = fl :: M -/
structure ItInv (st c ae wa ch il fl : Addr) (M5 : List Addr) (q : Nat) (F0 : Fr) (d : Wd) (G H : Hp) (σ : L2.St) (H' : Hp) : Prop where
  ex : ∃ (x1 x2 x3 x4 x5 x6 : Option V) (d1 : Wd) (ss : Ss) (ys : List V), σ = [some (.ref st), some (.ref ae), some (.ref wa), some (.ref il), some (.ref fl), x1, x2, x3, x4, x5, x6] ∧ H' fl = some (.lst ys) ∧ ss.In M5 H' ys ∧ ItOut q F0 d d1 ss ∧ WIn wa ch d1 H'
  kM : Kp M5 G H'
  kH : Kp (Mw st c wa ch) H H'
  so : StOk st c H'
  mo : MoS M5 st c H'
theorem ItInv.fin {st c ae wa ch il fl : Addr} {M5 : List Addr} {q : Nat} {F0 : Fr} {d d1 d3 : Wd} {G H H3 : Hp} {ss pre mm : Ss} {ys pv mv : List V} {x1 x2 x3 x4 x5 x6 : Option V} (ho : ItOut q F0 d d1 ss) (hm : ItOut q F0 d1 d3 (pre.app mm))
    (hfl : H3 fl = some (.lst (ys ++ pv ++ mv))) (i1 : ss.In M5 H3 ys) (i2 : pre.In M5 H3 pv) (i3 : mm.In M5 H3 mv) (kM : Kp M5 G H3) (kH : Kp (Mw st c wa ch) H H3) (so : StOk st c H3) (wi : WIn wa ch d3 H3) (mo : MoS M5 st c H3) :
    ItInv st c ae wa ch il fl M5 q F0 d G H [some (.ref st), some (.ref ae), some (.ref wa), some (.ref il), some (.ref fl), x1, x2, x3, x4, x5, x6] H3 :=
  ⟨⟨x1, x2, x3, x4, x5, x6, d3, ss.app (pre.app mm), ys ++ (pv ++ mv), rfl, by rw [← List.append_assoc]; exact hfl, Ss.app_in i1 (Ss.app_in i2 i3), ho.trans hm, wi⟩, kM, kH, so, mo⟩
/-- behind the first statement -/
structure ItMid (st c wa ch fl : Addr) (M5 : List Addr) (F0 : Fr) (d2 : Wd) (H H2 : Hp) (ys : List V) (σ0 σ : L2.St) (H' : Hp) : Prop where
  e : σ = σ0
  ex : ∃ (pre : Ss) (pv : List V), H' fl = some (.lst (ys ++ pv)) ∧ pre.In M5 H' pv ∧ Pre F0 pre ∧ pv.length ≤ 1
  kM : Kp M5 H2 H'
  kH : Kp (Mw st c wa ch) H H'
  so : StOk st c H'
  wi : WIn wa ch d2 H'
  mo : MoS M5 st c H'
theorem ok_items (T : Glo K w mg) (D : Dn K mg "_law_items" s__law_items p__law_items) (L : Nat) (hL : 11 ≤ L) (Qq : Nat → Prop) (n : Nat) {sI sP : Sp} (hS0 : ∀ q0, Qq q0 → Spi q0 sI sP n)
    (G__law_draw : Cal P w K mg base "_law_draw" 1 p__law_draw sp_draw) (G__law_expression : Cal P w K mg base "_law_expression" 7 p__law_expression (sp_expr 3)) (G__law_target : Cal P w K mg base "_law_target" 4 p__law_target sp_target)
    (G__law_simple : Cal P w K mg base "_law_simple" 9 p__law_simple (sp_sx 3 5 7)) (G__law_alt : Cal P w K mg base "_law_alt" 10 p__law_alt sp_alt) (G__law_wrapped : Cal P w K mg base "_law_wrapped" 9 p__law_wrapped sp_wrap)
    (G__law_items : Cal P w K mg base "_law_items" L p__law_items sI) {p__law_par : List Str} (G__law_par : Cal P w K mg base "_law_par" L p__law_par sP) :
    Cal P w K mg base "_law_items" (L + 1) p__law_items (sp_itemsQ Qq n) := by
  refine D.ok sc__law_items (fun vs H Q E h => ?_) (fun f cdv A outer s H vs Q E hr h => ?_)
  · obtain ⟨_, _, _, _, _, _, _, _, _, _, _, _, _, _, rfl, _⟩ := h
    rfl
  obtain ⟨q0, hQ, a, ed, cs, M, st, c, wa, ch, il, d, xs, its, rfl, ms, mo, so, wi, nw, nc, ei, ma, eb, dok, hl, hil, ni, hits, hfit, q⟩ := h
  refine ⟨_, (pss_cons (ps_set (i := 4) sc__law_items.nd rfl (by first | exact Or.inl rfl | exact Or.inr rfl) (pe_lst pa_nil)) (pss_cons (ps_for PassesOwn.never rfl (pi_list (pv 3)) (pg_name (i := 5) sc__law_items.nd rfl (by first | exact Or.inl rfl | exact Or.inr rfl)) (pss_one (ps_if (pt_cmpR op_gt (pe_dget (hu_of hr) (pv 2) pe_str (fun _ _ => rfl)) pe_int (nomark _)) (pss_cons (ps_dput (hu_of hr) (pv 2) pe_str (pe_op op_sub (pe_dget (hu_of hr) (pv 2) pe_str (fun _ _ => rfl)) pe_int) rfl) (pss_cons (ps_if (pt_cmpR (op_eqA (hu64 hr)) (pe_cal G__law_draw (hr.mono (by (first | subst "lev" | fail))) rfl (pa_cons (pv 0) (pa_cons pe_int pa_nil))) pe_int (nomark _)) (pss_one (ps_expr (pe_bm PySem.F.plainAttrs_list PySem.F.slot_list_append PySem.F.type_list_append mt_append (pv 4) (pa_cons (pe_cal G__law_simple (hr.mono (by (first | subst "lev" | fail))) rfl (pa_cons (pv 0) (pa_cons (pv 1) pa_nil))) pa_nil)))) pss_nil) (pss_one (ps_if (pt_cmpR (op_eqA (hu64 hr)) (pe_ix ix_seq (pv 5) pe_int (fun _ _ => rfl)) pe_str (nomark _)) (pss_one (ps_expr (pe_bm PySem.F.plainAttrs_list PySem.F.slot_list_append PySem.F.type_list_append mt_append (pv 4) (pa_cons (pe_tup (pa_cons pe_str (pa_cons (pe_ix ix_seq (pv 5) pe_int (fun _ _ => rfl)) (pa_cons (pe_cal G__law_expression (hr.mono (by (first | subst "lev" | fail))) rfl (pa_cons (pv 0) (pa_cons (pv 1) (pa_cons pe_int pa_nil)))) pa_nil)))) pa_nil)))) (pss_one (ps_if (PW.pt (pw_and (pt_cmpR (op_eqA (hu64 hr)) (pe_ix ix_seq (pv 5) pe_int (fun _ _ => rfl)) pe_str (nomark _)) (pw_and (pt_val (pe_dget (hu_of hr) (pv 2) pe_str (fun _ _ => rfl))) (pw_and1 (pt_cmpR (op_eqA (hu64 hr)) (pe_cal G__law_draw (hr.mono (by (first | subst "lev" | fail))) rfl (pa_cons (pv 0) (pa_cons pe_int pa_nil))) pe_int (nomark _)))))) (pss_cons (ps_expr (pe_bm PySem.F.plainAttrs_list PySem.F.slot_list_append PySem.F.type_list_append mt_append (pv 4) (pa_cons (pe_cal G__law_alt (hr.mono (by (first | subst "lev" | fail))) rfl (pa_cons (pv 0) (pa_cons (pv 1) (pa_cons (pe_ix ix_seq (pv 5) pe_int (fun _ _ => rfl)) pa_nil)))) pa_nil))) (pss_one (ps_if (PW.pt (pw_and (pt_cmpR (op_eqA (hu64 hr)) (pe_ix ix_seq (pv 5) (pe_un un_neg pe_int) (fun _ _ => rfl)) pe_str (nomark _)) (pw_and1 (pt_cmpR (op_eqA (hu64 hr)) (pe_cal G__law_draw (hr.mono (by (first | subst "lev" | fail))) rfl (pa_cons (pv 0) (pa_cons pe_int pa_nil))) pe_int (nomark _))))) (pss_cons (ps_set (i := 6) sc__law_items.nd rfl (by first | exact Or.inl rfl | exact Or.inr rfl) (pe_ix ix_seq (pe_ix ix_seq (pe_ix ix_seq (pv 4) (pe_un un_neg pe_int) (fun _ _ => rfl)) pe_int (fun _ _ => rfl)) pe_int (fun _ _ => rfl))) (pss_one (ps_asg (pe_tup (pa_cons pe_str (pa_cons (pe_op op_addA (pe_lst (pa_cons (pe_op op_addA (pe_slice sl_any (pv 6) po_none (po_some pe_int)) (pe_tup (pa_cons (pe_cal G__law_par (hr.mono (by (first | subst "lev" | fail))) rfl (pa_cons (pv 0) (pa_cons (pv 1) (pa_cons (pv 2) (pa_cons pe_int pa_nil))))) pa_nil))) pa_nil)) (pe_slice sl_any (pe_ix ix_seq (pe_ix ix_seq (pv 4) (pe_un un_neg pe_int) (fun _ _ => rfl)) pe_int (fun _ _ => rfl)) (po_some pe_int) po_none)) pa_nil))) (pg_sub (pv 4) (pe_un un_neg pe_int) set_list)))) pss_nil))) (pss_one (ps_if (pt_cmpR (op_eqA (hu64 hr)) (pe_ix ix_seq (pv 5) pe_int (fun _ _ => rfl)) pe_str (nomark _)) (pss_one (ps_expr (pe_bm PySem.F.plainAttrs_list PySem.F.slot_list_append PySem.F.type_list_append mt_append (pv 4) (pa_cons (pe_tup (pa_cons pe_str (pa_cons (pe_ix ix_seq (pv 5) pe_int (fun _ _ => rfl)) (pa_cons (pe_cal G__law_target (hr.mono (by (first | subst "lev" | fail))) rfl (pa_cons (pv 0) (pa_cons (pv 1) pa_nil))) pa_nil)))) pa_nil)))) (pss_one (ps_if (pt_cmpR (op_eqA (hu64 hr)) (pe_ix ix_seq (pv 5) pe_int (fun _ _ => rfl)) pe_str (nomark _)) (pss_cons (ps_set (i := 7) sc__law_items.nd rfl (by first | exact Or.inl rfl | exact Or.inr rfl) (pe_tup (pa_cons pe_str (pa_cons (pe_ix ix_seq (pv 5) pe_int (fun _ _ => rfl)) pa_nil)))) (pss_cons (ps_setLc (i := 8) (own := [("part", 10)]) (tt := tYes) rfl sc__law_items.nd rfl rfl (sw_true rfl rfl rfl (by decide +kernel)) (pi_list (pe_ix ix_seq (pv 5) pe_int (fun _ _ => rfl))) (blkOk_by (N := ["state", "env", "world", "items", "found", "item", "row", "counter", "parts", "inner", "part"]) (sc := defScope s__law_items) (by decide +kernel)) (fun _ _ _ _ _ => (pg_name (i := 10) sc__law_items.nd rfl (by first | exact Or.inl rfl | exact Or.inr rfl))) (fun _ _ _ _ _ => pts_nil) (fun _ _ _ _ _ => (pe_tup (pa_cons (pe_ix (ix_seqK (K := K) rfl) (pv 10) pe_int (fun _ _ => rfl)) (pa_cons (pe_ix (ix_seqK (K := K) rfl) (pv 10) pe_int (fun _ _ => rfl)) (pa_cons pe_str pa_nil)))))) (pss_cons (ps_set (i := 9) sc__law_items.nd rfl (by first | exact Or.inl rfl | exact Or.inr rfl) (pe_op op_addA (pe_cal G__law_items (hr.mono (by (first | subst "lev" | fail))) rfl (pa_cons (pv 0) (pa_cons (pv 1) (pa_cons (pv 2) (pa_cons (pv 8) pa_nil))))) (pe_lst (pa_cons (pe_tup (pa_cons pe_str (pa_cons (pv 7) (pa_cons (pe_tup (pa_cons pe_str (pa_cons (pv 7) (pa_cons (pe_tup (pa_cons pe_str (pa_cons pe_int pa_nil))) pa_nil)))) pa_nil)))) pa_nil)))) (pss_cons (ps_expr (pe_bm PySem.F.plainAttrs_list PySem.F.slot_list_append PySem.F.type_list_append mt_append (pv 4) (pa_cons (pe_tup (pa_cons pe_str (pa_cons (pv 7) (pa_cons (pe_tup (pa_cons pe_str (pa_cons pe_int pa_nil))) pa_nil)))) pa_nil))) (pss_one (ps_expr (pe_bm PySem.F.plainAttrs_list PySem.F.slot_list_append PySem.F.type_list_append mt_append (pv 4) (pa_cons (pe_tup (pa_cons pe_str (pa_cons (pe_tup (pa_cons pe_str (pa_cons (pv 7) (pa_cons (pe_tup (pa_cons pe_str (pa_cons (pe_ix ix_seq (pv 5) pe_int (fun _ _ => rfl)) pa_nil))) pa_nil)))) (pa_cons (pe_op op_addA (pe_ix ix_seq (pv 5) pe_int (fun _ _ => rfl)) (pe_cal G__law_draw (hr.mono (by (first | subst "lev" | fail))) rfl (pa_cons (pv 0) (pa_cons pe_int pa_nil)))) (pa_cons (pe_tup (pa_cons pe_str (pa_cons (pv 9) pa_nil))) pa_nil))))) pa_nil)))))))) (pss_one (ps_expr (pe_bm PySem.F.plainAttrs_list PySem.F.slot_list_append PySem.F.type_list_append mt_append (pv 4) (pa_cons (pe_cal G__law_wrapped (hr.mono (by (first | subst "lev" | fail))) rfl (pa_cons (pv 0) (pa_cons (pv 1) (pa_cons (pv 2) (pa_cons (pe_cal G__law_par (hr.mono (by (first | subst "lev" | fail))) rfl (pa_cons (pv 0) (pa_cons (pv 1) (pa_cons (pv 2) (pa_cons pe_int pa_nil))))) pa_nil))))) pa_nil)))))))))))))) pss_nil))) (pss_one (ps_ret (pv 4))))), ?_⟩
  try dsimp only [cxOf, Cx.nox]
  repeat' (first | specialize "st" | fail)
  have hS := hS0 q0 hQ
  obtain ⟨fl, rfl⟩ : ∃ x, x = p := ⟨_, rfl⟩
  obtain ⟨M5, e5⟩ : ∃ M5, M5 = fl :: M := ⟨_, rfl⟩
  have nfM : fl ∉ M := mo.fresh so hp
  have nf : fl ∉ Mw st c wa ch := fun z => nfM (ms _ z)
  have nfs : fl ∉ [st, c] := fun z => nf (by
    simp only [List.mem_cons, List.not_mem_nil, or_false] at z ⊢
    rcases z with z | z <;> simp [z])
  have nfw : wa ≠ fl := fun z => nf (by simp [z])
  have nfc : ch ≠ fl := fun z => nf (by simp [z])
  have nfi : il ≠ fl := ne_of_none hil hp
  have m51 : st ∈ M5 := e5 ▸ List.mem_cons_of_mem _ (ms _ (by simp))
  have m52 : c ∈ M5 := e5 ▸ List.mem_cons_of_mem _ (ms _ (by simp))
  have m53 : wa ∈ M5 := e5 ▸ List.mem_cons_of_mem _ (ms _ (by simp))
  have m54 : ch ∈ M5 := e5 ▸ List.mem_cons_of_mem _ (ms _ (by simp))
  have m55 : fl ∈ M5 := e5 ▸ List.mem_cons_self ..
  have ms5 : ∀ x, x ∈ Mw st c wa ch → x ∈ M5 := fun x hx => e5 ▸ List.mem_cons_of_mem _ (ms _ hx)
  have ml5 : ∀ x, x ∈ M → x ∈ M5 := fun x hx => e5 ▸ List.mem_cons_of_mem _ hx
  have ma5 : a.out M5 := e5 ▸ ei.more ma hp
  have mo5 : MoS M5 st c Hn := by
    rw [e5]
    exact (mo.ex ke).cons (fsome hn)
  have ni5 : il ∉ M5 := fun z => by
    rw [e5] at z
    rcases List.mem_cons.mp z with z | z
    · exact nfi z
    · exact ni z
  have hits5 : Its M5 Hn xs its := by
    rw [e5]
    exact its_ksub ke.kp (fun _ h => h) (its_more hp hits)
  have ei5 : EIn a ed Hn := ei.exx ke
  have wi5 : WIn wa ch d Hn := wi.exx ke
  have so5 : StOk st c Hn := st_ex ke so
  have hil5 := ke _ _ hil
  have k05 : Kp (Mw st c wa ch) H Hn := ke.kp
  obtain ⟨G, rfl⟩ : ∃ x, x = Hn := ⟨_, rfl⟩
  have hpf : H fl = none := hp
  clear hil hits wi so mo ei ke ni ma
  refine w_list (xs := xs) (fun _ σ H' => ItInv st c a.e wa ch il fl M5 q0 (ed.fr cs) d G H σ H') ?_ ?_ ?_ ?_
  · exact ⟨⟨_, _, _, _, _, _, d, .nil, [], rfl, hn, rfl, ItOut.refl dok, wi5⟩, Kp.refl _, k05, so5, mo5⟩
  · rintro i σ H' _ ⟨⟨_, _, _, _, _, _, _, _, _, rfl, _⟩, kM, _⟩
    exact sql (kM.out _ _ ni5 hil5)
  · rintro i x σ H' hx ⟨⟨x1, x2, x3, x4, x5, x6, d1, ss, ys, rfl, hfl, hss, ho, wi⟩, kM, kH, so, mo⟩
    obtain ⟨it, hit, hix⟩ := pair_at hits5 hx
    have hix := hix.ksub kM (fun _ h => h)
    have hf := hfit it (List.mem_of_getElem? hit)
    have ei : EIn a ed H' := ei5.ksub kM ma5 (fun _ h => h)
    have en : EnvS (ed.fr cs).W (ed.fr cs).R M5 a.e H' := ei.env eb.ok ma5
    have dok1 := ho.evo.wok dok
    have eb1 := eb.evo ho.evo
    have hl1 : d1.left ≤ 2 * n + 1 := by
      have := ho.evo.lf
      omega
    have hlen : ys.length ≤ 60000 := by
      have h1 := Ss.in_len hss
      have h2 := ho.sz
      have h3 := dok.pot
      have h4 := dok1.lf0
      have h5 := dok1.it0
      have h6 := dok.ce0
      have h7 := dok.lf0
      have h8 := dok.it0
      omega
    clear hits5 ei5 wi5 so5 hil5 mo5 hn hp hx ni5
    have kG : True ∧ Kp M5 G H' ∧ Kp (Mw st c wa ch) H H' := ⟨trivial, kM, kH⟩
    clear kM kH
    iterate 25 ((first | specialize "st" | fail))
    · rename_i hi
      obtain ⟨H2, rfl⟩ : ∃ x, x = Hn := ⟨_, rfl⟩
      obtain ⟨d2, e2⟩ : ∃ x, x = { d1 with items := d1.items - 1 } := ⟨_, rfl⟩
      rw [← e2] at wi
      have so2 : StOk st c H2 := st_kpx kw (alln_c nw alln_n) so
      have mo2 : MoS M5 st c H2 := mo.al (al_one kw wi.al1)
      have kw5 : Kp M5 H' H2 := kw.sub (subm_c m53 subm_n)
      have kwH : Kp (Mw st c wa ch) H H2 := kG.2.2.trans (kw.sub (subm_c (by simp) subm_n))
      have kwM : Kp M5 G H2 := kG.2.1.trans kw5
      have hfl2 : H2 fl = some (.lst ys) := kw.out _ _ (nin_c (Ne.symm nfw) List.not_mem_nil) hfl
      have hss2 : ss.In M5 H2 ys := hss.kp kw5
      have ei2 : EIn a ed H2 := ei.ksub kw5 ma5 (fun _ h => h)
      have en2 : EnvS (ed.fr cs).W (ed.fr cs).R M5 a.e H2 := env_kp kw5 en
      have hix2 := hix.ksub kw5 (fun _ h => h)
      have dok2 : d2.ok := by
        rw [e2]
        exact (Evo.item dok1 hi).wok dok1
      have eb2 : EdB ed d2 := by
        rw [e2]
        exact eb1.evo (Evo.item dok1 hi)
      have hl2 : d2.left ≤ 2 * n + 1 := by
        rw [e2]
        exact hl1
      have kG2 : True ∧ Kp M5 G H2 ∧ Kp (Mw st c wa ch) H H2 := ⟨trivial, kwM, kwH⟩
      clear hfl so mo hss ei en hix kw5 kwM kwH kG kw
      rename_i wi'
      clear wi'
      refine ifsj (ItMid st c wa ch fl M5 (ed.fr cs) d2 H H2 ys [some (.ref st), some (.ref a.e), some (.ref wa), some (.ref il), some (.ref fl), some x, x2, x3, x4, x5, x6]) (fun nx' hn' => ?_) (fun σ' H3 hR => ?_)
      · repeat' (first | specialize "st" | fail)
        · have kH := kG2.2.2
          exact hn' _ _ ⟨rfl, ⟨.cons sx .nil, [v], hu, ⟨v, [], rfl, by (first | subst "sx" | fail), rfl⟩, Pre.one sk, Nat.le_refl 1⟩, by (first | subst "kp5" | fail), by (first | subst "kpx" | fail), by (first | subst "st_ok" | fail), by (first | subst "win" | fail), by (first | exists "mok" | fail)⟩
        · have kH := kG2.2.2
          exact hn' _ _ ⟨rfl, ⟨.nil, [], by rw [List.append_nil]; (first | exists "lift" | fail), rfl, Pre.nil, Nat.zero_le 1⟩, by (first | subst "kp5" | fail), by (first | subst "kpx" | fail), by (first | subst "st_ok" | fail), by (first | subst "win" | fail), by (first | exists "mok" | fail)⟩
      · obtain ⟨rfl, ⟨pre, pv, hfl, hpre, hpp, hpl⟩, kM3, kH3, so, wi, mo⟩ := hR
        have hss : ss.In M5 H3 ys := hss2.kp kM3
        have ei : EIn a ed H3 := ei2.ksub kM3 ma5 (fun _ h => h)
        have en : EnvS (ed.fr cs).W (ed.fr cs).R M5 a.e H3 := env_kp kM3 en2
        have hix := hix2.ksub kM3 (fun _ h => h)
        have kG : True ∧ Kp M5 G H3 ∧ Kp (Mw st c wa ch) H H3 := ⟨trivial, kG2.2.1.trans kM3, kH3⟩
        clear hfl2 so2 mo2 hss2 ei2 en2 hix2 kG2 kM3 kH3
        rename_i wi'
        clear wi'
        have hlen2 : (ys ++ pv).length ≤ 60001 := by
          rw [List.length_append]
          omega
        obtain ⟨yp, eyp⟩ : ∃ yp, yp = ys ++ pv := ⟨_, rfl⟩
        rw [← eyp] at hfl hlen2
        cases it with
        | nest =>
          have hq3 : 3 ≤ q0 := hf.2
          obtain ⟨p0, rfl, hp0⟩ := hix
          repeat' (first | specialize "st" | fail)
          refine (hS (by omega)).2 _ _ _ _ (c_par ms5 mo so wi nw nc ei ma5 eb2 dok2 hl2 (.inl rfl) ?_)
          intro s1 v1 d3 H4 hs1 po kp4 so4 wi4
          have mo4 : MoS M5 st c H4 := moS_mw kp4 so4 wi4 mo
          have ei4 : EIn a ed H4 := ei.ksub kp4 ma5 ms5
          repeat' (first | specialize "st" | fail)
          refine c_wrap (cs := cs) ms5 mo4 so4 wi4 nw nc ei4 eb2.ok ma5 hs1 ?_
          intro s2 v2 m5 H5 m0 m1 hs2 hw kp5 so5 wi5
          have mo5 : MoS M5 st c H5 := moS_mw kp5 so5 wi5 mo4
          have hfl5 : H5 fl = some (.lst yp) := kp5.out _ _ nf (kp4.out _ _ nf hfl)
          clear wi wi4 so so4
          repeat' (first | specialize "st" | fail)
          have kM := kG.2.1
          have kH := kG.2.2
          refine ItInv.fin (pre := pre) (pv := pv) (mm := .cons s2 .nil) (mv := [v2]) ho (ItOut.wrap (pre := pre) hq3 Fr.nil_le dok1 hi hpp (by rw [← e2]; exact po) hw m0 m1) (by rw [← eyp]; exact hu) (by (first | subst "ss" | fail)) (by (first | subst "ss" | fail)) ⟨v2, [], rfl, by (first | subst "sx" | fail), rfl⟩ (by (first | subst "kp5" | fail)) (by (first | subst "kpx" | fail)) (by (first | subst "st_ok" | fail)) (by (first | subst "win" | fail)) (by (first | exists "mok" | fail))
        | loop m ps x0 =>
          obtain ⟨p0, l0, xl, rfl, hp0, hl0, nl0, hpts⟩ := hix
          have hq2 : 2 ≤ q0 := hf.2
          obtain ⟨hm0, hm1, hxc, hpl0, hpf0⟩ := hf.1
          have hxl : xl.length ≤ 1000 := by
            rw [Paired.length hpts]
            exact hpl0
          repeat' (first | specialize "st" | fail)
          obtain ⟨H5, rfl⟩ : ∃ x, x = Hn := ⟨_, rfl⟩
          have so5 : StOk st c H5 := by (first | subst "st_ok" | fail)
          have mo5 : MoS M5 st c H5 := by (first | exists "mok" | fail)
          have wi5 : WIn wa ch d2 H5 := by (first | subst "win" | fail)
          have ei5 : EIn a ed H5 := by (first | subst "ein" | fail)
          have hl5 : H5 l0 = some (.lst xl) := by (first | exists "lift" | fail)
          have hpt5 : Pts H5 xl ps := Pts.up (M := []) (by (first | subst "kpx" | fail)) hpts
          have hfl5 : H5 fl = some (.lst yp) := by (first | exists "lift" | fail)
          obtain ⟨pc, rfl⟩ : ∃ x, x = p := ⟨_, rfl⟩
          intro D hD
          have nDM : D ∉ M5 := mo5.fresh so5 hD
          refine lc_list (xs := xl) (fun i H2 => Ex H5 H2 ∧ ∃ ts, H2 D = some (.lst ts) ∧ Paired (fun v (p : Bool × Int) => ∃ q, v = V.ref q ∧ H2 q = some (.tup [.str (gtS p.1), .int p.2, .str "loop"])) ts (ps.take i)) ?_ ?_ ?_ ?_
          · exact ⟨Ex.mk hD rfl, [], upd_same, .nil⟩
          · rintro i H2 _ ⟨e, _⟩
            exact sql (e _ _ hl5)
          · rintro i x H2 hx ⟨e, ts, hts, hpr⟩
            obtain ⟨p1, hp1, q1, rfl, hq1⟩ := pair_at hpt5 hx
            have hq1 := e _ _ hq1
            have hlt : ts.length ≤ 1000 := by
              rw [Paired.length hpr, List.length_take]
              omega
            refine ⟨rfl, ?_⟩
            repeat' (first | specialize "st" | fail)
            have hD2 := ke _ _ hts
            refine ⟨ts, hD2, sl1000' (by omega), ?_⟩
            generalize hu9 : upd Hn D _ = H9
            have k9 : Kp [D] Hn H9 := kp_upd hD2 hu9
            refine ⟨fun b u hb => k9.out _ _ (nin_c (ne_of_none hb hD) List.not_mem_nil) (ke _ _ (e _ _ hb)), ts ++ [.ref p], at_new hu9, ?_⟩
            rw [List.take_add_one, hp1]
            exact pair_app (Paired.mapP hpr fun _ _ ⟨q, e1, z⟩ => ⟨q, e1, k9.tup _ _ (ke _ _ z)⟩) (.cons ⟨p, rfl, k9.tup _ _ hn⟩ .nil)
          · rintro H2 ⟨e, ts, hts, hpr⟩
            rw [Paired.length hpt5, List.take_length] at hpr
            have so6 : StOk st c H2 := st_ex e so5
            have mo6 : MoS M5 st c H2 := mo5.ex e
            have wi6 : WIn wa ch d2 H2 := wi5.exx e
            have ei6 : EIn a ed H2 := ei5.exx e
            have hits6 : Its M5 H2 ts (ps.map fun p => .gt p.1 p.2 false) := by
              clear hpt5 hpts
              have key : ∀ {ts : List V} {ps : List (Bool × Int)}, Paired (fun v (p : Bool × Int) => ∃ q, v = V.ref q ∧ H2 q = some (.tup [.str (gtS p.1), .int p.2, .str "loop"])) ts ps → Its M5 H2 ts (ps.map fun p => .gt p.1 p.2 false) := by
                intro ts ps h
                induction h with
                | nil => exact .nil
                | cons a _ ih => exact .cons a ih
              exact key hpr
            repeat' (first | specialize "st" | fail)
            refine (hS hq2).1 _ _ _ _ (c_items (cs := cs) (xs := ts) (its := ps.map fun p => .gt p.1 p.2 false) ms5 mo6 so6 wi6 nw nc ei6 ma5 eb2 dok2 hl2 hts nDM hits6 (fun it hit => ?_) ?_)
            · obtain ⟨p1, hp1, rfl⟩ := List.mem_map.mp hit
              exact ⟨hpf0 p1 hp1, fun z => by cases z⟩
            intro ss1 l1 ys1 d3 H4 hl1' nl1 hs1 po kp4 so4 wi4
            have mo4 : MoS M5 st c H4 := moS_mw kp4 so4 wi4 mo6
            have hfl4 := kp4.out _ _ nf (e _ _ hfl5)
            have hys : ys1.length ≤ 60000 := by
              have h1 := Ss.in_len hs1
              have h2 := po.sz
              have h3 := dok2.pot
              have h4 := po.evo.lf0
              have h5 := po.evo.it0
              have h6 := dok2.ce0
              have h7 := dok2.lf0
              have h8 := dok2.it0
              omega
            have nl1w : l1 ∉ [st, c] := fun z => nl1 (by
              simp only [List.mem_cons, List.not_mem_nil, or_false] at z
              rcases z with z | z <;> rw [z] <;> assumption)
            have nl1f : l1 ≠ fl := fun z => nl1 (z ▸ m55)
            repeat' (first | specialize "st" | fail)
            have hm : ItOut q0 (ed.fr cs) d1 d3 (pre.app (.cons (.set (.cell x0) (.num 0)) (.cons (.rep (.bin .lt (.cell x0) (.num m)) (m + dn) (.seq (ss1.app (.cons (.set (.cell x0) (.bin .add (.cell x0) (.num 1))) .nil)))) .nil))) := MOut.step dok1 hi hpp (by
              rw [← e2]
              exact MOut.loop hq2 po (po.c0 (Nat.le_refl 1)) dok2 (.inr (.inr hxc)) (.inr (.inr hxc)) hm0 hm1 (by omega) (by omega))
            rename_i b9 A12 hb9 cb9 nb9 b8 A11 hb8 cb8 nb8 b7 A10 hb7 cb7 nb7 b6 A9 hb6 cb6 nb6 b5 A8 hb5 cb5 nb5 b4 A7 hb4 cb4 nb4 b3 A6 hb3 cb3 nb3 A5 kub hub b2 A4 hb2 cb2 nb2 b1 A3 hb1 cb1 nb1 A2 kb2 b0 A1 hb0 cb0 nb0 A0
            have nm5 : b5 ∉ M5 := MoS.fresh (st := st) (c := c) (H := A9) (by (first | subst "st_ok" | fail)) (by (first | exists "mok" | fail)) hb5
            have nm5f : b5 ≠ fl := fun z => nm5 (z ▸ m55)
            have nm5s : b5 ∉ [st, c] := fun z => nm5 (by
              simp only [List.mem_cons, List.not_mem_nil, or_false] at z
              rcases z with z | z <;> rw [z] <;> assumption)
            have hx5 : Hn b5 = some (.lst (ys1 ++ [.ref b7])) := by (first | exists "lift" | fail)
            have kM := kG.2.1
            have kH := kG.2.2
            exact ItInv.fin (pre := pre) (pv := pv) (mm := .cons (.set (.cell x0) (.num 0)) (.cons (.rep (.bin .lt (.cell x0) (.num m)) (m + dn) (.seq (ss1.app (.cons (.set (.cell x0) (.bin .add (.cell x0) (.num 1))) .nil)))) .nil)) (mv := [.ref b3, .ref p]) ho hm (by rw [← eyp, hu, List.append_assoc]; rfl) (by (first | subst "ss" | fail)) (by (first | subst "ss" | fail))
              ⟨_, _, rfl, by (first | subst "sxc" | fail), _, [], rfl, sxi_rep (x := .ref b1) (y := .ref b0) (by (first | exists "lift" | fail)) (by (first | subst "tmc" | fail)) (sxi_seq (l := b5) (by (first | exists "lift" | fail)) hx5 nm5 (Ss.app_in (by (first | subst "ss" | fail)) ⟨_, [], rfl, by (first | subst "sxc" | fail), rfl⟩)), rfl⟩ (by (first | subst "kp5" | fail)) (by (first | subst "kpx" | fail)) (by (first | subst "st_ok" | fail)) (by (first | subst "win" | fail)) (by (first | exists "mok" | fail))
        | gt gv c1 z =>
          obtain ⟨p0, rfl, hp0⟩ := hix
          have hk := hf.1
          cases gv
          · have hct : c1 ∈ ed.takes := hk.2 rfl
            cases z
            · have hp0 : H3 p0 = some (.tup [.str "take", .int c1, .str "loop"]) := hp0
              rcases Bool.eq_false_or_eq_true d2.alts with hal2 | hal2
              · (repeat' (first | specialize "st" | fail))
                · skip
                  have kM := kG.2.1
                  have kH := kG.2.2
                  have hm : ItOut q0 (ed.fr cs) d1 d2 (pre.app (.cons (.alt rs) .nil)) := MOut.step dok1 hi hpp (by
                    rw [← e2]
                    exact MOut.plain dok2 sk (by decide) (by decide) (by decide))
                  exact ItInv.fin (pre := pre) (pv := pv) (mm := .cons (.alt rs) .nil) (mv := [v]) ho hm (by rw [← eyp]; exact hu) (by (first | subst "ss" | fail)) (by (first | subst "ss" | fail)) ⟨v, [], rfl, by (first | subst "sx" | fail), rfl⟩ (by (first | subst "kp5" | fail)) (by (first | subst "kpx" | fail)) (by (first | subst "st_ok" | fail)) (by (first | subst "win" | fail)) (by (first | exists "mok" | fail))
                · skip
                  have kM := kG.2.1
                  have kH := kG.2.2
                  have hm : ItOut q0 (ed.fr cs) d1 d2 (pre.app (.cons (.take c1 t) .nil)) := MOut.step dok1 hi hpp (by
                    rw [← e2]
                    exact MOut.plain (D := 1) (S := 1) (k := 2) dok2 ⟨⟨hct, ok, by omega⟩, trivial, rfl, by simp [Sx.dep], by simp [Sx.sz], by simp [Sx.wk]⟩ (by decide) (by decide) (by decide))
                  exact ItInv.fin (pre := pre) (pv := pv) (mm := .cons (.take c1 t) .nil) (mv := [_]) ho hm (by rw [← eyp]; exact hu) (by (first | subst "ss" | fail)) (by (first | subst "ss" | fail)) ⟨_, [], rfl, by (first | subst "sxc" | fail), rfl⟩ (by (first | subst "kp5" | fail)) (by (first | subst "kpx" | fail)) (by (first | subst "st_ok" | fail)) (by (first | subst "win" | fail)) (by (first | exists "mok" | fail))
              · (repeat' (first | specialize "st" | fail))
                have kM := kG.2.1
                have kH := kG.2.2
                have hm : ItOut q0 (ed.fr cs) d1 d2 (pre.app (.cons (.take c1 t) .nil)) := MOut.step dok1 hi hpp (by
                  rw [← e2]
                  exact MOut.plain (D := 1) (S := 1) (k := 2) dok2 ⟨⟨hct, ok, by omega⟩, trivial, rfl, by simp [Sx.dep], by simp [Sx.sz], by simp [Sx.wk]⟩ (by decide) (by decide) (by decide))
                exact ItInv.fin (pre := pre) (pv := pv) (mm := .cons (.take c1 t) .nil) (mv := [_]) ho hm (by rw [← eyp]; exact hu) (by (first | subst "ss" | fail)) (by (first | subst "ss" | fail)) ⟨_, [], rfl, by (first | subst "sxc" | fail), rfl⟩ (by (first | subst "kp5" | fail)) (by (first | subst "kpx" | fail)) (by (first | subst "st_ok" | fail)) (by (first | subst "win" | fail)) (by (first | exists "mok" | fail))
            · have hp0 : H3 p0 = some (.tup [.str "take", .int c1, .str ""]) := hp0
              rcases Bool.eq_false_or_eq_true d2.alts with hal2 | hal2
              · iterate 100 ((first | specialize "st" | fail))
                · obtain ⟨ga, ka, ta, sa, ra, rfl⟩ := rc
                  have hq2 : 2 ≤ q0 := hf.2 rfl
                  have sk0 := sk
                  obtain ⟨pa, la, xa, rfl, hpa, hla, nla, hra⟩ := sv
                  obtain ⟨qa, ua, xv, yv, xr, rfl, hqa, hga, hta, hsa, hrr⟩ := hra
                  have hxr : xr.length ≤ 1000 := by
                    have h1 := As.in_len hrr
                    have h2 := sk.sz
                    simp only [Sx.sz, As.sz] at h2
                    omega
                  have nlf : la ≠ fl := fun z => nla (z ▸ m55)
                  have nls : la ∉ [st, c] := fun z => nla (by
                    simp only [List.mem_cons, List.not_mem_nil, or_false] at z
                    rcases z with z | z <;> rw [z] <;> assumption)
                  have nlw : la ∉ Mw st c wa ch := fun z => nla (ms5 _ z)
                  refine q_ixL (sql (by (first | exists "lift" | fail))) atI_snoc ?_
                  repeat' (first | specialize "st" | fail)
                  have so5 : StOk st c Hn := by (first | subst "st_ok" | fail)
                  have mo5 : MoS M5 st c Hn := by (first | exists "mok" | fail)
                  have wi5 : WIn wa ch d2 Hn := by (first | subst "win" | fail)
                  have ei5 : EIn a ed Hn := by (first | subst "ein" | fail)
                  have hfl5 : Hn fl = some (.lst (yp ++ [.ref pa])) := by (first | exists "lift" | fail)
                  have hla5 : Hn la = some (.lst (.ref qa :: xr)) := by (first | exists "lift" | fail)
                  refine (hS hq2).2 _ _ _ _ (c_par ms5 mo5 so5 wi5 nw nc ei5 ma5 eb2 dok2 hl2 (.inl rfl) ?_)
                  intro s1 v1 d3 H4 hs1 po kp4 so4 wi4
                  have mo4 : MoS M5 st c H4 := moS_mw kp4 so4 wi4 mo5
                  have hfl4 := kp4.out _ _ nf hfl5
                  have hla4 := kp4.out _ _ nlw hla5
                  obtain ⟨psl, rfl⟩ : ∃ x, x = p := ⟨_, rfl⟩
                  iterate 2 ((first | specialize "st" | fail))
                  refine q_catT (x := ua) (xs := [.int ka, xv]) (ys := [v1]) (by (first | exists "lift" | fail)) (by (first | exists "lift" | fail)) (by simp) (fun p5 H6 e6 h6 => ?_)
                  repeat' (first | specialize "st" | fail)
                  refine q_ixL (sql (by (first | exists "lift" | fail))) atI_snoc ?_
                  repeat' (first | specialize "st" | fail)
                  refine q_setLN (xs := yp ++ [.ref pa]) (j := yp.length) (by (first | exists "lift" | fail)) (by rw [List.length_append, List.length_singleton]; exact ixN_snoc) ?_
                  intro Hn ku hu
                  rw [set_snoc] at hu
                  repeat' (first | specialize "st" | fail)
                  have hm : ItOut q0 (ed.fr cs) d1 d3 (pre.app (.cons (.alt (.cons ga ka ta s1 ra)) .nil)) := MOut.step dok1 hi hpp (by
                    rw [← e2]
                    exact MOut.alt hq2 Fr.nil_le sk0 po dok2)
                  have kM := kG.2.1
                  have kH := kG.2.2
                  exact ItInv.fin (pre := pre) (pv := pv) (mm := .cons (.alt (.cons ga ka ta s1 ra)) .nil) (mv := [_]) ho hm (by rw [← eyp]; exact hu) (by (first | subst "ss" | fail)) (by (first | subst "ss" | fail)) ⟨_, [], rfl, ⟨_, _, _, rfl, by (first | exists "lift" | fail), by (first | exists "lift" | fail), by (first | exists "nm" | fail), ⟨p5, ua, xv, v1, xr, rfl, by (first | exists "lift" | fail), by (first | subst "gin" | fail), by (first | subst "tm" | fail), by (first | subst "sx" | fail), by (first | subst "as" | fail)⟩⟩, rfl⟩ (by (first | subst "kp5" | fail)) (by (first | subst "kpx" | fail)) (by (first | subst "st_ok" | fail)) (by (first | subst "win" | fail)) (by (first | exists "mok" | fail))
                · (repeat' (first | specialize "st" | fail))
                  have kM := kG.2.1
                  have kH := kG.2.2
                  have hm : ItOut q0 (ed.fr cs) d1 d2 (pre.app (.cons (.alt rs) .nil)) := MOut.step dok1 hi hpp (by
                    rw [← e2]
                    exact MOut.plain dok2 sk (by decide) (by decide) (by decide))
                  exact ItInv.fin (pre := pre) (pv := pv) (mm := .cons (.alt rs) .nil) (mv := [v]) ho hm (by rw [← eyp]; (first | exists "lift" | fail)) (by (first | subst "ss" | fail)) (by (first | subst "ss" | fail)) ⟨v, [], rfl, by (first | subst "sx" | fail), rfl⟩ (by (first | subst "kp5" | fail)) (by (first | subst "kpx" | fail)) (by (first | subst "st_ok" | fail)) (by (first | subst "win" | fail)) (by (first | exists "mok" | fail))
                · (repeat' (first | specialize "st" | fail))
                  have kM := kG.2.1
                  have kH := kG.2.2
                  have hm : ItOut q0 (ed.fr cs) d1 d2 (pre.app (.cons (.take c1 t) .nil)) := MOut.step dok1 hi hpp (by
                    rw [← e2]
                    exact MOut.plain (D := 1) (S := 1) (k := 2) dok2 ⟨⟨hct, ok, by omega⟩, trivial, rfl, by simp [Sx.dep], by simp [Sx.sz], by simp [Sx.wk]⟩ (by decide) (by decide) (by decide))
                  exact ItInv.fin (pre := pre) (pv := pv) (mm := .cons (.take c1 t) .nil) (mv := [_]) ho hm (by rw [← eyp]; exact hu) (by (first | subst "ss" | fail)) (by (first | subst "ss" | fail)) ⟨_, [], rfl, by (first | subst "sxc" | fail), rfl⟩ (by (first | subst "kp5" | fail)) (by (first | subst "kpx" | fail)) (by (first | subst "st_ok" | fail)) (by (first | subst "win" | fail)) (by (first | exists "mok" | fail))
              · (repeat' (first | specialize "st" | fail))
                have kM := kG.2.1
                have kH := kG.2.2
                have hm : ItOut q0 (ed.fr cs) d1 d2 (pre.app (.cons (.take c1 t) .nil)) := MOut.step dok1 hi hpp (by
                  rw [← e2]
                  exact MOut.plain (D := 1) (S := 1) (k := 2) dok2 ⟨⟨hct, ok, by omega⟩, trivial, rfl, by simp [Sx.dep], by simp [Sx.sz], by simp [Sx.wk]⟩ (by decide) (by decide) (by decide))
                exact ItInv.fin (pre := pre) (pv := pv) (mm := .cons (.take c1 t) .nil) (mv := [_]) ho hm (by rw [← eyp]; exact hu) (by (first | subst "ss" | fail)) (by (first | subst "ss" | fail)) ⟨_, [], rfl, by (first | subst "sxc" | fail), rfl⟩ (by (first | subst "kp5" | fail)) (by (first | subst "kpx" | fail)) (by (first | subst "st_ok" | fail)) (by (first | subst "win" | fail)) (by (first | exists "mok" | fail))
          · have hcg : c1 ∈ ed.gives := hk.1 rfl
            have hp0 : H3 p0 = some (.tup [.str "give", .int c1, .str (zS z)]) := hp0
            repeat' (first | specialize "st" | fail)
            have kM := kG.2.1
            have kH := kG.2.2
            have hm : ItOut q0 (ed.fr cs) d1 d2 (pre.app (.cons (.give c1 t) .nil)) := MOut.step dok1 hi hpp (by
              rw [← e2]
              exact MOut.plain (D := 1) (S := 1) (k := 2) dok2 ⟨⟨hcg, ok, by omega⟩, trivial, rfl, by simp [Sx.dep], by simp [Sx.sz], by simp [Sx.wk]⟩ (by decide) (by decide) (by decide))
            exact ItInv.fin (pre := pre) (pv := pv) (mm := .cons (.give c1 t) .nil) (mv := [_]) ho hm (by rw [← eyp]; exact hu) (by (first | subst "ss" | fail)) (by (first | subst "ss" | fail)) ⟨_, [], rfl, by (first | subst "sxc" | fail), rfl⟩ (by (first | subst "kp5" | fail)) (by (first | subst "kpx" | fail)) (by (first | subst "st_ok" | fail)) (by (first | subst "win" | fail)) (by (first | exists "mok" | fail))
    · (repeat' (first | specialize "st" | fail))
      exact ⟨⟨_, _, _, _, _, _, d1, ss, ys, rfl, hfl, hss, ho, wi⟩, kG.2.1, kG.2.2, so, mo⟩
  · rintro σ H' ⟨⟨_, _, _, _, _, _, d1, ss, ys, rfl, hfl, hss, ho, wi⟩, kM, kH, so, mo⟩
    repeat' (first | specialize "st" | fail)
    exact q ss fl ys d1 H' hfl nfM (Ss.In.less ml5 hss) ho kH so wi
abbrev s__law_faulty : Stmt := topS 35
theorem sc__law_faulty : FnScope ["state", "script", "at"] ["state", "script"] (defScope s__law_faulty) := ⟨rfl, rfl, rfl, by decide +kernel, rfl, by decide +kernel, by decide +kernel⟩
abbrev p__law_faulty : List Str := ["state", "script"]
theorem pair_take {α β : Type} {F : α → β → Prop} : ∀ {xs : List α} {ys : List β} (n : Nat), Paired F xs ys → Paired F (xs.take n) (ys.take n)
  | _, _, 0, _ => by simp only [List.take_zero]; exact .nil
  | _, _, n + 1, .nil => by simp only [List.take_nil]; exact .nil
  | _, _, n + 1, .cons a t => by simp only [List.take_succ_cons]; exact .cons a (pair_take n t)
theorem pair_drop {α β : Type} {F : α → β → Prop} : ∀ {xs : List α} {ys : List β} (n : Nat), Paired F xs ys → Paired F (xs.drop n) (ys.drop n)
  | _, _, 0, h => by simpa using h
  | _, _, n + 1, .nil => by simp only [List.drop_nil]; exact .nil
  | _, _, n + 1, .cons a t => by simp only [List.drop_succ_cons]; exact pair_drop n t
def sp_faulty : Sp := fun vs H Q _ => ∃ (M : List Addr) (st c sa : Addr) (xs : List V) (its : List Itm) (P : Itm → Prop), vs = [.ref st, .ref sa] ∧ st ∈ M ∧ c ∈ M ∧ MoS M st c H ∧ StOk st c H ∧ H sa = some (.lst xs) ∧ sa ∉ M ∧ Its M H xs its ∧ (∀ it ∈ its, P it) ∧ its.length ≤ 1000 ∧
  ∀ (l : Addr) (ys : List V) (its' : List Itm) (H' : Hp), H' l = some (.lst ys) → l ∉ M → Its M H' ys its' → (∀ it ∈ its', P it) → its'.length ≤ its.length → Kp [st, c] H H' → StOk st c H' → Q (.ref l) H'
theorem ok_faulty (T : Glo K w mg) (D : Dn K mg "_law_faulty" s__law_faulty p__law_faulty) (G__law_draw : Cal P w K mg base "_law_draw" 1 p__law_draw sp_draw) :
    Cal P w K mg base "_law_faulty" 2 p__law_faulty sp_faulty := by
  refine D.ok sc__law_faulty (fun vs H Q E h => ?_) (fun f cdv A outer s H vs Q E hr h => ?_)
  · obtain ⟨_, _, _, _, _, _, _, rfl, _⟩ := h
    rfl
  obtain ⟨M, st, c, sa, xs, its, Pp, rfl, m1, m2, mo, so, hsa, ns, hits, hP, hlen, q⟩ := h
  refine ⟨_, (pss_cons (ps_if (PW.pt (pw_and (pt_cmpR op_gt (pe_callB call_lenA rfl T.n_len (by decide +kernel) (pa_cons (pv 1) pa_nil)) pe_int (nomark _)) (pw_and1 (pt_cmpR (op_eqA (hu64 hr)) (pe_cal G__law_draw (hr.mono (by (first | subst "lev" | fail))) rfl (pa_cons (pv 0) (pa_cons pe_int pa_nil))) pe_int (nomark _))))) (pss_cons (ps_set (i := 2) sc__law_faulty.nd rfl (by first | exact Or.inl rfl | exact Or.inr rfl) (pe_cal G__law_draw (hr.mono (by (first | subst "lev" | fail))) rfl (pa_cons (pv 0) (pa_cons (pe_op op_sub (pe_callB call_lenA rfl T.n_len (by decide +kernel) (pa_cons (pv 1) pa_nil)) pe_int) pa_nil)))) (pss_one (ps_ret (pe_op op_addA (pe_op op_addA (pe_slice sl_any (pv 1) po_none (po_some (pv 2))) (pe_lst (pa_cons (pe_ix ix_seq (pv 1) (pe_op op_addA (pv 2) pe_int) (fun _ _ => rfl)) (pa_cons (pe_ix ix_seq (pv 1) (pv 2) (fun _ _ => rfl)) pa_nil)))) (pe_slice sl_any (pv 1) (po_some (pe_op op_addA (pv 2) pe_int)) po_none))))) pss_nil) (pss_cons (ps_if (PW.pt (pw_and (pt_cmpR op_gt (pe_callB call_lenA rfl T.n_len (by decide +kernel) (pa_cons (pv 1) pa_nil)) pe_int (nomark _)) (pw_and1 (pt_cmpR (op_eqA (hu64 hr)) (pe_cal G__law_draw (hr.mono (by (first | subst "lev" | fail))) rfl (pa_cons (pv 0) (pa_cons pe_int pa_nil))) pe_int (nomark _))))) (pss_cons (ps_set (i := 2) sc__law_faulty.nd rfl (by first | exact Or.inl rfl | exact Or.inr rfl) (pe_cal G__law_draw (hr.mono (by (first | subst "lev" | fail))) rfl (pa_cons (pv 0) (pa_cons (pe_callB call_lenA rfl T.n_len (by decide +kernel) (pa_cons (pv 1) pa_nil)) pa_nil)))) (pss_one (ps_ret (pe_op op_addA (pe_slice sl_any (pv 1) po_none (po_some (pv 2))) (pe_slice sl_any (pv 1) (po_some (pe_op op_addA (pv 2) pe_int)) po_none))))) pss_nil) (pss_one (ps_ret (pv 1))))), ?_⟩
  try dsimp only [cxOf, Cx.nox]
  have hl2 := Paired.length hits
  have hxl : xs.length ≤ 1000 := by omega
  have nss : sa ∉ [st, c] := fun z => ns (by
    simp only [List.mem_cons, List.not_mem_nil, or_false] at z
    rcases z with z | z <;> rw [z] <;> assumption)
  repeat' (first | specialize "st" | fail)
  · refine q_cutTo (xs := xs) (c := dn.toNat) (by omega) (by (first | exists "lift" | fail)) (fun l1 H1 f1 e1 h1 => ?_)
    obtain ⟨v1, hv1, a1⟩ := at_i (xs := xs) (n := dn + 1) (by omega) (by omega)
    obtain ⟨v0, hv0, a0⟩ := at_i (xs := xs) (n := dn) (by omega) (by omega)
    rw [show (dn + 1).toNat = dn.toNat + 1 by omega] at hv1
    obtain ⟨kn, hkn⟩ : ∃ kn, kn = dn.toNat := ⟨_, rfl⟩
    rw [← hkn] at h1 hv1 hv0
    obtain ⟨b1, hb1, r1⟩ := pair_at hits hv1
    obtain ⟨b0, hb0, r0⟩ := pair_at hits hv0
    repeat' (first | specialize "st" | fail)
    refine q_cutFrom (xs := xs) (c := kn + 2) (by omega) (by (first | exists "lift" | fail)) (fun l2 H2 f2 e2 h2 => ?_)
    refine q_catN (by (first | exists "lift" | fail)) h2 (by simp only [List.length_append, List.length_take, List.length_drop, List.length_cons, List.length_nil]; omega) (fun p Hn hp ke hn => ?_)
    have hN : Its M Hn xs its := by (first | subst "its" | fail)
    obtain ⟨c1, hc1, r1⟩ := pair_at hN hv1
    obtain ⟨c0, hc0, r0⟩ := pair_at hN hv0
    have hkl : kn + 1 < its.length := by
      have := (List.getElem?_eq_some_iff.mp hc1).1
      omega
    refine q p _ (its.take kn ++ [c1, c0] ++ its.drop (kn + 2)) _ hn (by (first | exists "nm" | fail)) (pair_app (pair_app (pair_take kn hN) (.cons r1 (.cons r0 .nil))) (pair_drop (kn + 2) hN)) (fun it hit => ?_) ?_ (by (first | subst "kpx" | fail)) (by (first | subst "st_ok" | fail))
    · rcases List.mem_append.mp hit with hit | hit
      · rcases List.mem_append.mp hit with hit | hit
        · exact hP it (List.mem_of_mem_take hit)
        · simp only [List.mem_cons, List.not_mem_nil, or_false] at hit
          rcases hit with rfl | rfl
          · exact hP _ (List.mem_of_getElem? hc1)
          · exact hP _ (List.mem_of_getElem? hc0)
      · exact hP it (List.mem_of_mem_drop hit)
    · simp only [List.length_append, List.length_take, List.length_drop, List.length_cons, List.length_nil]
      omega
  · refine q_cutTo (xs := xs) (c := dn.toNat) (by omega) (by (first | exists "lift" | fail)) (fun l1 H1 f1 e1 h1 => ?_)
    obtain ⟨kn, hkn⟩ : ∃ kn, kn = dn.toNat := ⟨_, rfl⟩
    rw [← hkn] at h1
    repeat' (first | specialize "st" | fail)
    refine q_cutFrom (xs := xs) (c := kn + 1) (by omega) (by (first | exists "lift" | fail)) (fun l2 H2 f2 e2 h2 => ?_)
    refine q_catN (by (first | exists "lift" | fail)) h2 (by simp only [List.length_append, List.length_take, List.length_drop, List.length_cons, List.length_nil]; omega) (fun p Hn hp ke hn => ?_)
    have hN : Its M Hn xs its := by (first | subst "its" | fail)
    have hkl : kn < its.length := by omega
    refine q p _ (its.take kn ++ its.drop (kn + 1)) _ hn (by (first | exists "nm" | fail)) (pair_app (pair_take kn hN) (pair_drop (kn + 1) hN)) (fun it hit => ?_) ?_ (by (first | subst "kpx" | fail)) (by (first | subst "st_ok" | fail))
    · rcases List.mem_append.mp hit with hit | hit
      · exact hP it (List.mem_of_mem_take hit)
      · exact hP it (List.mem_of_mem_drop hit)
    · simp only [List.length_append, List.length_take, List.length_drop]
      omega
  · exact q sa xs its _ (by (first | exists "lift" | fail)) ns (by (first | subst "its" | fail)) hP (Nat.le_refl _) (by (first | subst "kpx" | fail)) (by (first | subst "st_ok" | fail))
  · refine q_cutTo (xs := xs) (c := dn.toNat) (by omega) (by (first | exists "lift" | fail)) (fun l1 H1 f1 e1 h1 => ?_)
    obtain ⟨kn, hkn⟩ : ∃ kn, kn = dn.toNat := ⟨_, rfl⟩
    rw [← hkn] at h1
    repeat' (first | specialize "st" | fail)
    refine q_cutFrom (xs := xs) (c := kn + 1) (by omega) (by (first | exists "lift" | fail)) (fun l2 H2 f2 e2 h2 => ?_)
    refine q_catN (by (first | exists "lift" | fail)) h2 (by simp only [List.length_append, List.length_take, List.length_drop, List.length_cons, List.length_nil]; omega) (fun p Hn hp ke hn => ?_)
    have hN : Its M Hn xs its := by (first | subst "its" | fail)
    have hkl : kn < its.length := by omega
    refine q p _ (its.take kn ++ its.drop (kn + 1)) _ hn (by (first | exists "nm" | fail)) (pair_app (pair_take kn hN) (pair_drop (kn + 1) hN)) (fun it hit => ?_) ?_ (by (first | subst "kpx" | fail)) (by (first | subst "st_ok" | fail))
    · rcases List.mem_append.mp hit with hit | hit
      · exact hP it (List.mem_of_mem_take hit)
      · exact hP it (List.mem_of_mem_drop hit)
    · simp only [List.length_append, List.length_take, List.length_drop]
      omega
  · exact q sa xs its _ (by (first | exists "lift" | fail)) ns (by (first | subst "its" | fail)) hP (Nat.le_refl _) (by (first | subst "kpx" | fail)) (by (first | subst "st_ok" | fail))
  · exact q sa xs its _ (by (first | exists "lift" | fail)) ns (by (first | subst "its" | fail)) hP (Nat.le_refl _) (by (first | subst "kpx" | fail)) (by (first | subst "st_ok" | fail))
/-! ### branches under construction: envs ea with data ed, scripts la with items scr -/
def Ea.tg (a : Ea) (τ : Tau) (k : Nat) : Prop := τ a.e = some (20, k) ∧ τ a.ca = some (21, k) ∧ τ a.ra = some (22, k) ∧ τ a.sa = some (23, k) ∧ τ a.ga = some (24, k) ∧ τ a.ta = some (25, k)
theorem Ea.tg.le {a : Ea} {τ τ' : Tau} {k : Nat} (h : a.tg τ k) (l : TgLe τ τ') : a.tg τ' k := ⟨l _ _ h.1, l _ _ h.2.1, l _ _ h.2.2.1, l _ _ h.2.2.2.1, l _ _ h.2.2.2.2.1, l _ _ h.2.2.2.2.2⟩
theorem Ea.tg.all {a : Ea} {τ : Tau} {k : Nat} (h : a.tg τ k) : ∀ x ∈ a.all, ∃ f, 20 ≤ f ∧ f ≤ 25 ∧ τ x = some (f, k) := by
  obtain ⟨h1, h2, h3, h4, h5, h6⟩ := h
  intro x hx
  have hx' : x ∈ [a.e, a.ca, a.ra, a.sa, a.ga, a.ta] := hx
  simp only [List.mem_cons, List.not_mem_nil, or_false] at hx'
  rcases hx' with rfl | rfl | rfl | rfl | rfl | rfl
  · exact ⟨_, by decide, by decide, h1⟩
  · exact ⟨_, by decide, by decide, h2⟩
  · exact ⟨_, by decide, by decide, h3⟩
  · exact ⟨_, by decide, by decide, h4⟩
  · exact ⟨_, by decide, by decide, h5⟩
  · exact ⟨_, by decide, by decide, h6⟩
def Itm.InT (τ : Tau) (B : Nat) (H : Hp) : Itm → V → Prop
  | .gt gv c z, v => ∃ p, v = .ref p ∧ H p = some (.tup [.str (gtS gv), .int c, .str (zS z)])
  | .loop many ps x, v => ∃ p l xs, v = .ref p ∧ H p = some (.tup [.str "loop", .int many, .ref l, .int x]) ∧ H l = some (.lst xs) ∧ (∃ j, τ l = some (30, j) ∧ j < B) ∧ Pts H xs ps
  | .nest, v => ∃ p, v = .ref p ∧ H p = some (.tup [.str "nest"])
abbrev ItsT (τ : Tau) (B : Nat) (H : Hp) (xs : List V) (its : List Itm) : Prop := Paired (fun v it => Itm.InT τ B H it v) xs its
theorem Itm.InT.up {τ τ' : Tau} {B B' : Nat} {N : List Addr} {H H' : Hp} (k : Kp N H H') (l : TgLe τ τ') (b : B ≤ B') (n : ∀ x ∈ N, ∀ j, τ x = some (30, j) → B ≤ j) : ∀ {it : Itm} {v : V}, it.InT τ B H v → it.InT τ' B' H' v
  | .gt _ _ _, _, ⟨p, e, h⟩ => ⟨p, e, k.tup _ _ h⟩
  | .loop _ _ _, _, ⟨p, l0, xs, e, h, hl, ⟨j, m, mb⟩, a⟩ => ⟨p, l0, xs, e, k.tup _ _ h, k.out _ _ (fun z => by have := n _ z j m; omega) hl, ⟨j, l _ _ m, by omega⟩, Pts.up k a⟩
  | .nest, _, ⟨p, e, h⟩ => ⟨p, e, k.tup _ _ h⟩
theorem Itm.InT.out {τ : Tau} {B : Nat} {M : List Addr} {H : Hp} (n : ∀ x j, τ x = some (30, j) → x ∉ M) : ∀ {it : Itm} {v : V}, it.InT τ B H v → it.In M H v
  | .gt _ _ _, _, h => h
  | .loop _ _ _, _, ⟨p, l0, xs, e, h, hl, ⟨j, m, _⟩, a⟩ => ⟨p, l0, xs, e, h, hl, n _ _ m, a⟩
  | .nest, _, h => h
def gset {α : Type} (a : Nat → α) (i : Nat) (p : α) : Nat → α := fun k => if k = i then p else a k
theorem gset_eq {α : Type} {a : Nat → α} {i : Nat} {p : α} : gset a i p i = p := if_pos rfl
theorem gset_ne {α : Type} {a : Nat → α} {i k : Nat} {p : α} (h : k ≠ i) : gset a i p k = a k := if_neg h
structure GS (st c wa ch SA EA : Addr) (n : Nat) (ea : Nat → Ea) (la : Nat → Addr) (ed : Nat → Ed) (scr : Nat → List Itm) (τ : Tau) (B : Nat) (H0 H : Hp) (d : Wd) : Prop where
  kp : Kp (Mw st c wa ch) H0 H
  so : StOk st c H
  wi : WIn wa ch d H
  tg : TgOk τ H
  fr : ∀ x t, τ x = some t → 20 ≤ t.1 → H0 x = none
  t1 : τ st = some (7, 0)
  t2 : τ c = some (7, 1)
  t3 : τ wa = some (8, 0)
  t4 : τ ch = some (8, 1)
  tS : τ SA = some (28, 0)
  tE : τ EA = some (28, 1)
  hS : H SA = some (.lst (frow la n))
  hE : H EA = some (.lst (frow (fun k => (ea k).e) n))
  te : ∀ k, k < n → (ea k).tg τ k
  ee : ∀ k, k < n → EIn (ea k) (ed k) H
  tl : ∀ k, k < n → τ (la k) = some (26, k)
  ll : ∀ k, k < n → ∃ xs, H (la k) = some (.lst xs) ∧ ItsT τ B H xs (scr k)
section
variable {st c wa ch SA EA : Addr} {n : Nat} {ea : Nat → Ea} {la : Nat → Addr} {ed : Nat → Ed} {scr : Nat → List Itm} {τ τ' : Tau} {B : Nat} {H0 H H' : Hp} {d d' : Wd}
theorem GS.mwt (g : GS st c wa ch SA EA n ea la ed scr τ B H0 H d) : ∀ x ∈ Mw st c wa ch, ∃ t, τ x = some t ∧ t.1 < 20 := fun x hx => by
  simp only [List.mem_cons, List.not_mem_nil, or_false] at hx
  rcases hx with rfl | rfl | rfl | rfl
  · exact ⟨_, g.t1, by decide⟩
  · exact ⟨_, g.t2, by decide⟩
  · exact ⟨_, g.t3, by decide⟩
  · exact ⟨_, g.t4, by decide⟩
/-- what may change without the branches -/
def Loose (τ : Tau) (B : Nat) (st c wa ch : Addr) (N : List Addr) : Prop := ∀ x ∈ N, x ∈ Mw st c wa ch ∨ ∃ t, τ x = some t ∧ (t.1 = 31 ∨ t.1 = 30 ∧ B ≤ t.2)
theorem GS.loose (g : GS st c wa ch SA EA n ea la ed scr τ B H0 H d) {N : List Addr} (l : Loose τ B st c wa ch N) {x : Addr} {t : Nat × Nat} (hx : τ x = some t) (h1 : 20 ≤ t.1) (h2 : t.1 ≠ 31) (h3 : t.1 = 30 → t.2 < B) : x ∉ N := fun z => by
  rcases l x z with q | ⟨u, hu, q⟩
  · obtain ⟨v, hv, q⟩ := g.mwt x q
    rw [hx] at hv
    cases hv
    omega
  · rw [hx] at hu
    cases hu
    rcases q with q | ⟨q, r⟩
    · exact h2 q
    · have := h3 q
      omega
theorem GS.frame (g : GS st c wa ch SA EA n ea la ed scr τ B H0 H d) {N : List Addr} (k : Kp N H H') (a : Al H H') (so' : StOk st c H') (wi' : WIn wa ch d' H') (l : Loose τ B st c wa ch N) : GS st c wa ch SA EA n ea la ed scr τ B H0 H' d' :=
  ⟨kp_fresh g.kp k (fun x hx => by
    rcases l x hx with q | ⟨t, ht, q⟩
    · exact .inl q
    · exact .inr (g.fr x t ht (by omega))), so', wi', g.tg.al a, g.fr, g.t1, g.t2, g.t3, g.t4, g.tS, g.tE, k.out _ _ (g.loose l g.tS (by simp) (by simp) (by simp)) g.hS, k.out _ _ (g.loose l g.tE (by simp) (by simp) (by simp)) g.hE, g.te,
    fun j hj => (g.ee j hj).kp k fun x hx => by
      obtain ⟨f, f0, f1, hf⟩ := (g.te j hj).all x hx
      exact g.loose l hf f0 (by dsimp only; omega) (by dsimp only; omega), g.tl, fun j hj => by
      obtain ⟨xs, hl, hi⟩ := g.ll j hj
      refine ⟨xs, k.out _ _ (g.loose l (g.tl j hj) (by simp) (by simp) (by simp)) hl, Paired.mapP hi fun v it q => q.up k (TgLe.refl _) (Nat.le_refl _) fun x hx j' hj' => ?_⟩
      rcases l x hx with q | ⟨t, ht, q⟩
      · obtain ⟨v, hv, q⟩ := g.mwt x q
        rw [hj'] at hv
        cases hv
        exact absurd q (by simp)
      · rw [hj'] at ht
        cases ht
        rcases q with q | ⟨q, r⟩
        · exact absurd q (by simp)
        · exact r⟩
theorem GS.retag (g : GS st c wa ch SA EA n ea la ed scr τ B H0 H d) (l : TgLe τ τ') (tg : TgOk τ' H) (fr : ∀ x t, τ' x = some t → 20 ≤ t.1 → H0 x = none) : GS st c wa ch SA EA n ea la ed scr τ' B H0 H d :=
  ⟨g.kp, g.so, g.wi, tg, fr, l _ _ g.t1, l _ _ g.t2, l _ _ g.t3, l _ _ g.t4, l _ _ g.tS, l _ _ g.tE, g.hS, g.hE, fun k hk => (g.te k hk).le l, g.ee, fun k hk => l _ _ (g.tl k hk), fun k hk => by
    obtain ⟨xs, hl, hi⟩ := g.ll k hk
    exact ⟨xs, hl, Paired.mapP hi fun v it q => q.up (N := []) (Kp.refl _) l (Nat.le_refl _) (fun x hx => by cases hx)⟩⟩
theorem GS.more (g : GS st c wa ch SA EA n ea la ed scr τ B H0 H d) {B' : Nat} (b : B ≤ B') : GS st c wa ch SA EA n ea la ed scr τ B' H0 H d :=
  ⟨g.kp, g.so, g.wi, g.tg, g.fr, g.t1, g.t2, g.t3, g.t4, g.tS, g.tE, g.hS, g.hE, g.te, g.ee, g.tl, fun k hk => by
    obtain ⟨xs, hl, hi⟩ := g.ll k hk
    exact ⟨xs, hl, Paired.mapP hi fun v it q => q.up (N := []) (Kp.refl _) (TgLe.refl _) b (fun x hx => by cases hx)⟩⟩
/-- a new object gets a tag -/
theorem GS.new (g : GS st c wa ch SA EA n ea la ed scr τ B H0 H d) (e : Ex H H') {p : Addr} (hp : H p = none) (hn : H' p ≠ none) (t : Nat × Nat) : ∃ τ', TgLe τ τ' ∧ τ' p = some t ∧ GS st c wa ch SA EA n ea la ed scr τ' B H0 H' d := by
  have g' : GS st c wa ch SA EA n ea la ed scr τ B H0 H' d := g.frame (e.kp (M := [])) (al_ex e) (st_ex e g.so) (g.wi.exx e) (fun x hx => by cases hx)
  have h0 : H0 p = none := free_backK g.kp (fun z => by
    obtain ⟨t, ht, _⟩ := g.mwt p z
    exact g.tg p t ht hp) hp
  refine ⟨fun x => if x = p then some t else τ x, fun x u h => ?_, if_pos rfl, g'.retag (fun x u h => ?_) (fun x u h => ?_) (fun x u h h2 => ?_)⟩
  · show (if x = p then some t else τ x) = some u
    rw [if_neg (fun z => g.tg x u h (by rw [z]; exact hp))]
    exact h
  · show (if x = p then some t else τ x) = some u
    rw [if_neg (fun z => g.tg x u h (by rw [z]; exact hp))]
    exact h
  · have h' : (if x = p then some t else τ x) = some u := h
    by_cases z : x = p
    · rw [z]; exact hn
    · rw [if_neg z] at h'
      exact g'.tg x u h'
  · have h' : (if x = p then some t else τ x) = some u := h
    by_cases z : x = p
    · rw [z]; exact h0
    · rw [if_neg z] at h'
      exact g.fr x u h' h2
theorem GS.ex (g : GS st c wa ch SA EA n ea la ed scr τ B H0 H d) (e : Ex H H') : GS st c wa ch SA EA n ea la ed scr τ B H0 H' d := g.frame (e.kp (M := [])) (al_ex e) (st_ex e g.so) (g.wi.exx e) (fun x hx => by cases hx)
theorem GS.nw (g : GS st c wa ch SA EA n ea la ed scr τ B H0 H d) : wa ∉ [st, c] ∧ ch ∉ [st, c] := by
  constructor <;>
  · intro z
    simp only [List.mem_cons, List.not_mem_nil, or_false] at z
    have t1 := g.t1
    have t2 := g.t2
    have t3 := g.t3
    have t4 := g.t4
    rcases z with rfl | rfl <;> simp_all
theorem GS.draw (g : GS st c wa ch SA EA n ea la ed scr τ B H0 H d) (k : Kp [st, c] H H') (so : StOk st c H') : GS st c wa ch SA EA n ea la ed scr τ B H0 H' d := g.frame k (al_st k so) so (g.wi.kp k g.nw.1 g.nw.2) (fun x hx => .inl (by
    simp only [List.mem_cons, List.not_mem_nil, or_false] at hx ⊢
    rcases hx with h | h <;> simp [h]))
theorem GS.nin (g : GS st c wa ch SA EA n ea la ed scr τ B H0 H d) {x : Addr} {t : Nat × Nat} (hx : τ x = some t) (h : 20 ≤ t.1) : st ∉ [x] ∧ c ∉ [x] ∧ wa ∉ [x] ∧ ch ∉ [x] := by
  have t1 := g.t1
  have t2 := g.t2
  have t3 := g.t3
  have t4 := g.t4
  refine ⟨?_, ?_, ?_, ?_⟩ <;>
  · intro z
    have z' := List.mem_singleton.mp z
    subst z'
    first
    | (rw [t1] at hx; cases hx; simp at h)
    | (rw [t2] at hx; cases hx; simp at h)
    | (rw [t3] at hx; cases hx; simp at h)
    | (rw [t4] at hx; cases hx; simp at h)
/-- a loose object changes -/
theorem GS.one (g : GS st c wa ch SA EA n ea la ed scr τ B H0 H d) {x : Addr} {t : Nat × Nat} (k : Kp [x] H H') (hn : H' x ≠ none) (hx : τ x = some t) (h : t.1 = 31 ∨ t.1 = 30 ∧ B ≤ t.2) : GS st c wa ch SA EA n ea la ed scr τ B H0 H' d := by
  obtain ⟨n1, n2, n3, n4⟩ := g.nin hx (by omega)
  refine g.frame k (al_one k hn) (st_out k g.so n1 n2) (g.wi.kp k n3 n4) (fun y hy => ?_)
  rw [List.mem_singleton.mp hy]
  exact .inr ⟨t, hx, h⟩
/-- the world changes -/
theorem GS.world (g : GS st c wa ch SA EA n ea la ed scr τ B H0 H d) (k : Kp [wa] H H') (wi' : WIn wa ch d' H') : GS st c wa ch SA EA n ea la ed scr τ B H0 H' d' := by
  refine g.frame k (al_one k wi'.al.1) (st_kpx k (alln_c g.nw.1 alln_n) g.so) wi' (fun y hy => ?_)
  rw [List.mem_singleton.mp hy]
  exact .inl (by simp)
theorem GS.chan (g : GS st c wa ch SA EA n ea la ed scr τ B H0 H d) (k : Kp [ch] H H') (wi' : WIn wa ch d' H') : GS st c wa ch SA EA n ea la ed scr τ B H0 H' d' := by
  refine g.frame k (al_one k wi'.al.2) (st_kpx k (alln_c g.nw.2 alln_n) g.so) wi' (fun y hy => ?_)
  rw [List.mem_singleton.mp hy]
  exact .inl (by simp)
/-- one list of the env j changes -/
theorem GS.env (g : GS st c wa ch SA EA n ea la ed scr τ B H0 H d) {x : Addr} {f j : Nat} {e' : Ed} (hj : j < n) (k : Kp [x] H H') (hn : H' x ≠ none) (hx : τ x = some (f, j)) (h0 : 20 ≤ f) (h1 : f ≤ 25) (he : EIn (ea j) e' H') : GS st c wa ch SA EA n ea la (gset ed j e') scr τ B H0 H' d := by
  obtain ⟨n1, n2, n3, n4⟩ := g.nin hx h0
  have ne : ∀ y t, τ y = some t → t ≠ (f, j) → y ∉ [x] := fun y t hy q z => by
    rw [List.mem_singleton.mp z, hx] at hy
    exact q (Option.some.inj hy).symm
  refine ⟨kp_fresh g.kp k (fun y hy => ?_), st_out k g.so n1 n2, g.wi.kp k n3 n4, g.tg.al (al_one k hn), g.fr, g.t1, g.t2, g.t3, g.t4, g.tS, g.tE, k.out _ _ (ne _ _ g.tS (by intro z; cases z; omega)) g.hS, k.out _ _ (ne _ _ g.tE (by intro z; cases z; omega)) g.hE, g.te, fun i hi => ?_, g.tl, fun i hi => ?_⟩
  · rw [List.mem_singleton.mp hy]
    exact .inr (g.fr x _ hx h0)
  · by_cases q : i = j
    · subst q
      rw [gset_eq]
      exact he
    · rw [gset_ne q]
      refine (g.ee i hi).kp k fun y hy => ?_
      obtain ⟨f', f0, f1, hf⟩ := (g.te i hi).all y hy
      exact ne y _ hf (fun z => q (Prod.mk.inj z).2)
  · obtain ⟨xs, hl, hi2⟩ := g.ll i hi
    refine ⟨xs, k.out _ _ (ne _ _ (g.tl i hi) (by intro z; cases z; omega)) hl, Paired.mapP hi2 fun v it q => q.up k (TgLe.refl _) (Nat.le_refl _) fun y hy j' hj' => ?_⟩
    rw [List.mem_singleton.mp hy, hx] at hj'
    cases hj'
    omega
/-- one script grows -/
theorem GS.script (g : GS st c wa ch SA EA n ea la ed scr τ B H0 H d) {j B' : Nat} {ys : List V} {its : List Itm} (hj : j < n) (b : B ≤ B') (k : Kp [la j] H H') (hl : H' (la j) = some (.lst ys)) (hi : ItsT τ B' H' ys its) : GS st c wa ch SA EA n ea la ed (gset scr j its) τ B' H0 H' d := by
  have hx := g.tl j hj
  obtain ⟨n1, n2, n3, n4⟩ := g.nin hx (by simp)
  have ne : ∀ y t, τ y = some t → t ≠ (26, j) → y ∉ [la j] := fun y t hy q z => by
    rw [List.mem_singleton.mp z, hx] at hy
    exact q (Option.some.inj hy).symm
  refine ⟨kp_fresh g.kp k (fun y hy => ?_), st_out k g.so n1 n2, g.wi.kp k n3 n4, g.tg.al (al_one k (fsome hl)), g.fr, g.t1, g.t2, g.t3, g.t4, g.tS, g.tE, k.out _ _ (ne _ _ g.tS (by intro z; cases z)) g.hS, k.out _ _ (ne _ _ g.tE (by intro z; cases z)) g.hE, g.te, fun i hi => ?_, g.tl, fun i hi2 => ?_⟩
  · rw [List.mem_singleton.mp hy]
    exact .inr (g.fr _ _ hx (by simp))
  · refine (g.ee i hi).kp k fun y hy => ?_
    obtain ⟨f', f0, f1, hf⟩ := (g.te i hi).all y hy
    exact ne y _ hf (fun z => by have := (Prod.mk.inj z).1; omega)
  · by_cases q : i = j
    · subst q
      rw [gset_eq]
      exact ⟨ys, hl, hi⟩
    · rw [gset_ne q]
      obtain ⟨xs, hl3, hi3⟩ := g.ll i hi2
      refine ⟨xs, k.out _ _ (ne _ _ (g.tl i hi2) (fun z => q (Prod.mk.inj z).2)) hl3, Paired.mapP hi3 fun v it q => q.up k (TgLe.refl _) b fun y hy j' hj' => ?_⟩
      rw [List.mem_singleton.mp hy, hx] at hj'
      cases hj'
end
section
variable {a : Ea} {τ : Tau} {k : Nat} {e : Ed} {H H' : Hp}
theorem ea_ne {x : Addr} {y : Addr} {f f' : Nat} (hx : τ x = some (f, k)) (hy : τ y = some (f', k)) (n : f ≠ f') : x ∉ [y] := fun z => by
  rw [List.mem_singleton.mp z, hy] at hx
  exact n ((Prod.mk.inj (Option.some.inj hx)).1).symm
theorem EIn.gives (h : EIn a e H) (t : a.tg τ k) (kp : Kp [a.ga] H H') {cs : List Int} (hn : H' a.ga = some (.lst (cs.map V.int))) : EIn a { e with gives := cs } H' := by
  obtain ⟨⟨kvs, h1, h2⟩, h3, h4, h5, h6, vs, h7, h8⟩ := h
  obtain ⟨t1, t2, t3, t4, t5, t6⟩ := t
  exact ⟨⟨kvs, kp.out _ _ (ea_ne t1 t5 (by decide)) h1, h2⟩, kp.out _ _ (ea_ne t2 t5 (by decide)) h3, kp.out _ _ (ea_ne t3 t5 (by decide)) h4, hn, kp.out _ _ (ea_ne t6 t5 (by decide)) h6, vs, kp.out _ _ (ea_ne t4 t5 (by decide)) h7, Paired.mapP h8 fun _ _ ⟨q, e, z⟩ => ⟨q, e, kp.tup _ _ z⟩⟩
theorem EIn.takes (h : EIn a e H) (t : a.tg τ k) (kp : Kp [a.ta] H H') {cs : List Int} (hn : H' a.ta = some (.lst (cs.map V.int))) : EIn a { e with takes := cs } H' := by
  obtain ⟨⟨kvs, h1, h2⟩, h3, h4, h5, h6, vs, h7, h8⟩ := h
  obtain ⟨t1, t2, t3, t4, t5, t6⟩ := t
  exact ⟨⟨kvs, kp.out _ _ (ea_ne t1 t6 (by decide)) h1, h2⟩, kp.out _ _ (ea_ne t2 t6 (by decide)) h3, kp.out _ _ (ea_ne t3 t6 (by decide)) h4, kp.out _ _ (ea_ne t5 t6 (by decide)) h5, hn, vs, kp.out _ _ (ea_ne t4 t6 (by decide)) h7, Paired.mapP h8 fun _ _ ⟨q, e, z⟩ => ⟨q, e, kp.tup _ _ z⟩⟩
theorem EIn.cells (h : EIn a e H) (t : a.tg τ k) (kp : Kp [a.ca] H H') {cs : List Int} (hn : H' a.ca = some (.lst (cs.map V.int))) : EIn a { e with cells := cs } H' := by
  obtain ⟨⟨kvs, h1, h2⟩, h3, h4, h5, h6, vs, h7, h8⟩ := h
  obtain ⟨t1, t2, t3, t4, t5, t6⟩ := t
  exact ⟨⟨kvs, kp.out _ _ (ea_ne t1 t2 (by decide)) h1, h2⟩, hn, kp.out _ _ (ea_ne t3 t2 (by decide)) h4, kp.out _ _ (ea_ne t5 t2 (by decide)) h5, kp.out _ _ (ea_ne t6 t2 (by decide)) h6, vs, kp.out _ _ (ea_ne t4 t2 (by decide)) h7, Paired.mapP h8 fun _ _ ⟨q, e, z⟩ => ⟨q, e, kp.tup _ _ z⟩⟩
theorem EIn.reads (h : EIn a e H) (t : a.tg τ k) (kp : Kp [a.ra] H H') {cs : List Int} (hn : H' a.ra = some (.lst (cs.map V.int))) : EIn a { e with reads := cs } H' := by
  obtain ⟨⟨kvs, h1, h2⟩, h3, h4, h5, h6, vs, h7, h8⟩ := h
  obtain ⟨t1, t2, t3, t4, t5, t6⟩ := t
  exact ⟨⟨kvs, kp.out _ _ (ea_ne t1 t3 (by decide)) h1, h2⟩, kp.out _ _ (ea_ne t2 t3 (by decide)) h3, hn, kp.out _ _ (ea_ne t5 t3 (by decide)) h5, kp.out _ _ (ea_ne t6 t3 (by decide)) h6, vs, kp.out _ _ (ea_ne t4 t3 (by decide)) h7, Paired.mapP h8 fun _ _ ⟨q, e, z⟩ => ⟨q, e, kp.tup _ _ z⟩⟩
end
/-! the data of branches, apart from each other -/
def ctr1 : Itm → List Int
  | .loop _ _ x => [x]
  | _ => []
def ctr (its : List Itm) : List Int := its.flatMap ctr1
def bfr (ed : Nat → Ed) (scr : Nat → List Itm) (k : Nat) : Fr := (ed k).fr (ctr (scr k))
structure Sep (n : Nat) (ed : Nat → Ed) (scr : Nat → List Itm) (P C D : Int → Prop) : Prop where
  ap : ∀ i j, i < n → j < n → i ≠ j → (bfr ed scr i).apart (bfr ed scr j)
  rb : ∀ i, i < n → ∀ x, (bfr ed scr i).R x → P x
  gb : ∀ i, i < n → ∀ x ∈ (ed i).gives, C x
  tb : ∀ i, i < n → ∀ x ∈ (ed i).takes, D x
  cr : ∀ i, i < n → ∀ k ∈ (ed i).cells, k ∈ (ed i).reads
  sp : ∀ i, i < n → ∀ p ∈ (ed i).spans, 0 < p.2 ∧ p.2 < 5
  cn : ∀ i, i < n → (ed i).cells.Nodup
  gn : ∀ i, i < n → (ed i).gives.Nodup
  tn : ∀ i, i < n → (ed i).takes.Nodup
  fits : ∀ i, i < n → ∀ it ∈ scr i, it.fits (ed i) (ctr (scr i)) ∧ it.alw 2
theorem Itm.fits.mono {e e' : Ed} {cs cs' : List Int} (g : ∀ c ∈ e.gives, c ∈ e'.gives) (t : ∀ c ∈ e.takes, c ∈ e'.takes) (s : ∀ c ∈ cs, c ∈ cs') : ∀ {it : Itm}, it.fits e cs → it.fits e' cs'
  | .gt _ _ _, h => ⟨fun z => g _ (h.1 z), fun z => t _ (h.2 z)⟩
  | .loop _ _ _, h => ⟨h.1, h.2.1, s _ h.2.2.1, h.2.2.2.1, fun p hp => ⟨fun z => g _ ((h.2.2.2.2 p hp).1 z), fun z => t _ ((h.2.2.2.2 p hp).2 z)⟩⟩
  | .nest, _ => trivial
theorem Fr.apart.symm {a b : Fr} (wr : ∀ k, a.W k → a.R k) (h : a.apart b) : b.apart a := ⟨fun k x => ⟨fun y => (h.w k y).1 x, fun y => h.r k x y⟩, fun k x y => (h.w k x).2 y, fun k x y => h.g k y x, fun k x y => h.t k y x⟩
theorem Sep.mono {n : Nat} {ed : Nat → Ed} {scr : Nat → List Itm} {P C D P' C' D' : Int → Prop} (s : Sep n ed scr P C D) (p : ∀ x, P x → P' x) (q : ∀ x, C x → C' x) (r : ∀ x, D x → D' x) : Sep n ed scr P' C' D' := ⟨s.ap, fun i hi x h => p x (s.rb i hi x h), fun i hi x h => q x (s.gb i hi x h), fun i hi x h => r x (s.tb i hi x h), s.cr, s.sp, s.cn, s.gn, s.tn, s.fits⟩
section
variable {n j : Nat} {ed : Nat → Ed} {scr : Nat → List Itm} {P C D : Int → Prop} {c x : Int}
theorem nodup_snoc {xs : List Int} (h : xs.Nodup) (n : c ∉ xs) : (xs ++ [c]).Nodup := by
  rw [List.nodup_append]
  exact ⟨h, by simp, fun a ha b hb e => n (by rw [List.mem_singleton.mp hb] at e; exact e ▸ ha)⟩
theorem mem_snoc {xs : List Int} {y : Int} (h : y ∈ xs ++ [c]) : y ∈ xs ∨ y = c := by
  rcases List.mem_append.mp h with h | h
  · exact .inl h
  · exact .inr (List.mem_singleton.mp h)
theorem Sep.wr (s : Sep n ed scr P C D) {i : Nat} (hi : i < n) : ∀ k, (bfr ed scr i).W k → (bfr ed scr i).R k := fun k h => h.elim (fun h => .inl (s.cr i hi k h)) .inr
theorem Sep.give1 (s : Sep n ed scr P C D) (hj : j < n) (hc : C c) (nc : ∀ i, i < n → c ∉ (ed i).gives) : Sep n (gset ed j { ed j with gives := (ed j).gives ++ [c] }) scr P C D := by
  have key : ∀ {Pr : Nat → Ed → Prop}, (∀ i, i < n → Pr i (ed i)) → Pr j { ed j with gives := (ed j).gives ++ [c] } → ∀ i, i < n → Pr i (gset ed j { ed j with gives := (ed j).gives ++ [c] } i) := fun {Pr} h h' i hi => by
    by_cases q : i = j
    · subst q; rw [gset_eq]; exact h'
    · rw [gset_ne q]; exact h i hi
  have hW : ∀ i y, (bfr (gset ed j { ed j with gives := (ed j).gives ++ [c] }) scr i).W y → (bfr ed scr i).W y := fun i y h => by
    by_cases q : i = j
    · subst q; unfold bfr at h; rw [gset_eq] at h; exact h
    · unfold bfr at h; rw [gset_ne q] at h; exact h
  have hR : ∀ i y, (bfr (gset ed j { ed j with gives := (ed j).gives ++ [c] }) scr i).R y → (bfr ed scr i).R y := fun i y h => by
    by_cases q : i = j
    · subst q; unfold bfr at h; rw [gset_eq] at h; exact h
    · unfold bfr at h; rw [gset_ne q] at h; exact h
  have hT : ∀ i y, (bfr (gset ed j { ed j with gives := (ed j).gives ++ [c] }) scr i).T y → (bfr ed scr i).T y := fun i y h => by
    by_cases q : i = j
    · subst q; unfold bfr at h; rw [gset_eq] at h; exact h
    · unfold bfr at h; rw [gset_ne q] at h; exact h
  have hG : ∀ i y, i < n → (bfr (gset ed j { ed j with gives := (ed j).gives ++ [c] }) scr i).G y → (bfr ed scr i).G y ∨ i = j ∧ y = c := fun i y hi h => by
    by_cases q : i = j
    · subst q
      unfold bfr at h
      rw [gset_eq] at h
      exact (mem_snoc h).imp id fun e => ⟨rfl, e⟩
    · unfold bfr at h; rw [gset_ne q] at h; exact .inl h
  refine ⟨fun i k hi hk ne => ⟨fun y h => ⟨fun z => ((s.ap i k hi hk ne).w y (hW _ _ h)).1 (hW _ _ z), fun z => ((s.ap i k hi hk ne).w y (hW _ _ h)).2 (hR _ _ z)⟩, fun y h z => (s.ap i k hi hk ne).r y (hW _ _ h) (hR _ _ z), fun y h z => ?_, fun y h z => (s.ap i k hi hk ne).t y (hT _ _ h) (hT _ _ z)⟩, fun i hi y h => s.rb i hi y (hR _ _ h), ?_, ?_, ?_, ?_, ?_, ?_, ?_, ?_⟩
  · rcases hG _ _ hi h with h | ⟨e1, e2⟩ <;> rcases hG _ _ hk z with z | ⟨e3, e4⟩
    · exact (s.ap i k hi hk ne).g y h z
    · exact nc i hi (by rw [e4] at h; exact h)
    · exact nc k hk (by rw [e2] at z; exact z)
    · exact ne (e1.trans e3.symm)
  · exact key (Pr := fun _ e => ∀ x ∈ e.gives, C x) s.gb fun y hy => (mem_snoc hy).elim (s.gb j hj y) (fun e => e ▸ hc)
  · exact key (Pr := fun _ e => ∀ x ∈ e.takes, D x) s.tb (s.tb j hj)
  · exact key (Pr := fun _ e => ∀ k ∈ e.cells, k ∈ e.reads) s.cr (s.cr j hj)
  · exact key (Pr := fun _ e => ∀ p ∈ e.spans, 0 < p.2 ∧ p.2 < 5) s.sp (s.sp j hj)
  · exact key (Pr := fun _ e => e.cells.Nodup) s.cn (s.cn j hj)
  · exact key (Pr := fun _ e => e.gives.Nodup) s.gn (nodup_snoc (s.gn j hj) (nc j hj))
  · exact key (Pr := fun _ e => e.takes.Nodup) s.tn (s.tn j hj)
  · exact key (Pr := fun i e => ∀ it ∈ scr i, it.fits e (ctr (scr i)) ∧ it.alw 2) s.fits fun it hit => ⟨Itm.fits.mono (e := ed j) (e' := { ed j with gives := (ed j).gives ++ [c] }) (cs' := ctr (scr j)) (fun c h => List.mem_append_left _ h) (fun _ h => h) (fun _ h => h) (s.fits j hj it hit).1, (s.fits j hj it hit).2⟩
theorem Sep.take1 (s : Sep n ed scr P C D) (hj : j < n) (hc : D c) (nc : ∀ i, i < n → c ∉ (ed i).takes) : Sep n (gset ed j { ed j with takes := (ed j).takes ++ [c] }) scr P C D := by
  have key : ∀ {Pr : Nat → Ed → Prop}, (∀ i, i < n → Pr i (ed i)) → Pr j { ed j with takes := (ed j).takes ++ [c] } → ∀ i, i < n → Pr i (gset ed j { ed j with takes := (ed j).takes ++ [c] } i) := fun {Pr} h h' i hi => by
    by_cases q : i = j
    · subst q; rw [gset_eq]; exact h'
    · rw [gset_ne q]; exact h i hi
  have hW : ∀ i y, (bfr (gset ed j { ed j with takes := (ed j).takes ++ [c] }) scr i).W y → (bfr ed scr i).W y := fun i y h => by
    by_cases q : i = j
    · subst q; unfold bfr at h; rw [gset_eq] at h; exact h
    · unfold bfr at h; rw [gset_ne q] at h; exact h
  have hR : ∀ i y, (bfr (gset ed j { ed j with takes := (ed j).takes ++ [c] }) scr i).R y → (bfr ed scr i).R y := fun i y h => by
    by_cases q : i = j
    · subst q; unfold bfr at h; rw [gset_eq] at h; exact h
    · unfold bfr at h; rw [gset_ne q] at h; exact h
  have hG : ∀ i y, (bfr (gset ed j { ed j with takes := (ed j).takes ++ [c] }) scr i).G y → (bfr ed scr i).G y := fun i y h => by
    by_cases q : i = j
    · subst q; unfold bfr at h; rw [gset_eq] at h; exact h
    · unfold bfr at h; rw [gset_ne q] at h; exact h
  have hT : ∀ i y, i < n → (bfr (gset ed j { ed j with takes := (ed j).takes ++ [c] }) scr i).T y → (bfr ed scr i).T y ∨ i = j ∧ y = c := fun i y hi h => by
    by_cases q : i = j
    · subst q
      unfold bfr at h
      rw [gset_eq] at h
      exact (mem_snoc h).imp id fun e => ⟨rfl, e⟩
    · unfold bfr at h; rw [gset_ne q] at h; exact .inl h
  refine ⟨fun i k hi hk ne => ⟨fun y h => ⟨fun z => ((s.ap i k hi hk ne).w y (hW _ _ h)).1 (hW _ _ z), fun z => ((s.ap i k hi hk ne).w y (hW _ _ h)).2 (hR _ _ z)⟩, fun y h z => (s.ap i k hi hk ne).r y (hW _ _ h) (hR _ _ z), fun y h z => (s.ap i k hi hk ne).g y (hG _ _ h) (hG _ _ z), fun y h z => ?_⟩, fun i hi y h => s.rb i hi y (hR _ _ h), ?_, ?_, ?_, ?_, ?_, ?_, ?_, ?_⟩
  · rcases hT _ _ hi h with h | ⟨e1, e2⟩ <;> rcases hT _ _ hk z with z | ⟨e3, e4⟩
    · exact (s.ap i k hi hk ne).t y h z
    · exact nc i hi (by rw [e4] at h; exact h)
    · exact nc k hk (by rw [e2] at z; exact z)
    · exact ne (e1.trans e3.symm)
  · exact key (Pr := fun _ e => ∀ x ∈ e.gives, C x) s.gb (s.gb j hj)
  · exact key (Pr := fun _ e => ∀ x ∈ e.takes, D x) s.tb fun y hy => (mem_snoc hy).elim (s.tb j hj y) (fun e => e ▸ hc)
  · exact key (Pr := fun _ e => ∀ k ∈ e.cells, k ∈ e.reads) s.cr (s.cr j hj)
  · exact key (Pr := fun _ e => ∀ p ∈ e.spans, 0 < p.2 ∧ p.2 < 5) s.sp (s.sp j hj)
  · exact key (Pr := fun _ e => e.cells.Nodup) s.cn (s.cn j hj)
  · exact key (Pr := fun _ e => e.gives.Nodup) s.gn (s.gn j hj)
  · exact key (Pr := fun _ e => e.takes.Nodup) s.tn (nodup_snoc (s.tn j hj) (nc j hj))
  · exact key (Pr := fun i e => ∀ it ∈ scr i, it.fits e (ctr (scr i)) ∧ it.alw 2) s.fits fun it hit => ⟨Itm.fits.mono (e := ed j) (e' := { ed j with takes := (ed j).takes ++ [c] }) (cs' := ctr (scr j)) (fun _ h => h) (fun c h => List.mem_append_left _ h) (fun _ h => h) (s.fits j hj it hit).1, (s.fits j hj it hit).2⟩
/-- a script grows by items over its env, with counters cs that no one touches -/
theorem Sep.scr1 (s : Sep n ed scr P C D) (hj : j < n) {more : List Itm} (hf : ∀ it ∈ more, it.fits (ed j) (ctr (scr j ++ more)) ∧ it.alw 2) (hp : ∀ y ∈ ctr more, P y) (hn : ∀ i, i < n → i ≠ j → ∀ y ∈ ctr more, ¬ (bfr ed scr i).R y) : Sep n ed (gset scr j (scr j ++ more)) P C D := by
  have ec : ctr (scr j ++ more) = ctr (scr j) ++ ctr more := List.flatMap_append
  have hW : ∀ i y, (bfr ed (gset scr j (scr j ++ more)) i).W y → (bfr ed scr i).W y ∨ i = j ∧ y ∈ ctr more := fun i y h => by
    by_cases q : i = j
    · subst q
      unfold bfr at h
      rw [gset_eq, ec] at h
      rcases h with h | h | h
      · exact .inl (.inl h)
      · exact .inl (.inr (.inl h))
      · rcases List.mem_append.mp h with h | h
        · exact .inl (.inr (.inr h))
        · exact .inr ⟨rfl, h⟩
    · unfold bfr at h; rw [gset_ne q] at h; exact .inl h
  have hR : ∀ i y, (bfr ed (gset scr j (scr j ++ more)) i).R y → (bfr ed scr i).R y ∨ i = j ∧ y ∈ ctr more := fun i y h => by
    by_cases q : i = j
    · subst q
      unfold bfr at h
      rw [gset_eq, ec] at h
      rcases h with h | h | h
      · exact .inl (.inl h)
      · exact .inl (.inr (.inl h))
      · rcases List.mem_append.mp h with h | h
        · exact .inl (.inr (.inr h))
        · exact .inr ⟨rfl, h⟩
    · unfold bfr at h; rw [gset_ne q] at h; exact .inl h
  have hG : ∀ i y, (bfr ed (gset scr j (scr j ++ more)) i).G y → (bfr ed scr i).G y := fun i y h => h
  have hT : ∀ i y, (bfr ed (gset scr j (scr j ++ more)) i).T y → (bfr ed scr i).T y := fun i y h => h
  refine ⟨fun i k hi hk ne => ⟨fun y h => ⟨fun z => ?_, fun z => ?_⟩, fun y h z => ?_, fun y h z => (s.ap i k hi hk ne).g y (hG _ _ h) (hG _ _ z), fun y h z => (s.ap i k hi hk ne).t y (hT _ _ h) (hT _ _ z)⟩, fun i hi y h => (hR _ _ h).elim (s.rb i hi y) (fun ⟨_, q⟩ => hp y q), s.gb, s.tb, s.cr, s.sp, s.cn, s.gn, s.tn, fun i hi => ?_⟩
  · rcases hW _ _ h with h | ⟨e1, e2⟩ <;> rcases hW _ _ z with z | ⟨e3, e4⟩
    · exact ((s.ap i k hi hk ne).w y h).1 z
    · exact hn i hi (fun q => ne (q.trans e3.symm)) y e4 (s.wr hi y h)
    · exact hn k hk (fun q => ne (e1.trans q.symm)) y e2 (s.wr hk y z)
    · exact ne (e1.trans e3.symm)
  · rcases hW _ _ h with h | ⟨e1, e2⟩ <;> rcases hR _ _ z with z | ⟨e3, e4⟩
    · exact ((s.ap i k hi hk ne).w y h).2 z
    · exact hn i hi (fun q => ne (q.trans e3.symm)) y e4 (s.wr hi y h)
    · exact hn k hk (fun q => ne (e1.trans q.symm)) y e2 z
    · exact ne (e1.trans e3.symm)
  · rcases hW _ _ h with h | ⟨e1, e2⟩ <;> rcases hR _ _ z with z | ⟨e3, e4⟩
    · exact (s.ap i k hi hk ne).r y h z
    · exact hn k hk (fun q => ne (e3.trans q.symm)) y e4 (s.wr hk y h)
    · exact hn i hi (fun q => ne (q.trans e1.symm)) y e2 z
    · exact ne (e3.trans e1.symm)
  · by_cases q : i = j
    · subst q
      rw [gset_eq]
      intro it hit
      rcases List.mem_append.mp hit with hit | hit
      · exact ⟨(s.fits i hi it hit).1.mono (fun _ h => h) (fun _ h => h) (fun c h => by rw [ec]; exact List.mem_append_left _ h), (s.fits i hi it hit).2⟩
      · exact hf it hit
    · rw [gset_ne q]
      exact s.fits i hi
/-- an env may read one more cell, that no other writes -/
theorem Sep.read1 (s : Sep n ed scr P C D) (hj : j < n) (hx : P x) (nx : ∀ i, i < n → i ≠ j → ¬ (bfr ed scr i).W x) : Sep n (gset ed j { ed j with reads := (ed j).reads ++ [x] }) scr P C D := by
  have key : ∀ {Pr : Nat → Ed → Prop}, (∀ i, i < n → Pr i (ed i)) → Pr j { ed j with reads := (ed j).reads ++ [x] } → ∀ i, i < n → Pr i (gset ed j { ed j with reads := (ed j).reads ++ [x] } i) := fun {Pr} h h' i hi => by
    by_cases q : i = j
    · subst q; rw [gset_eq]; exact h'
    · rw [gset_ne q]; exact h i hi
  have hW : ∀ i y, (bfr (gset ed j { ed j with reads := (ed j).reads ++ [x] }) scr i).W y → (bfr ed scr i).W y := fun i y h => by
    by_cases q : i = j
    · subst q; unfold bfr at h; rw [gset_eq] at h; exact h
    · unfold bfr at h; rw [gset_ne q] at h; exact h
  have hR : ∀ i y, (bfr (gset ed j { ed j with reads := (ed j).reads ++ [x] }) scr i).R y → (bfr ed scr i).R y ∨ i = j ∧ y = x := fun i y h => by
    by_cases q : i = j
    · subst q
      unfold bfr at h
      rw [gset_eq] at h
      rcases h with h | h
      · exact (mem_snoc h).imp .inl fun e => ⟨rfl, e⟩
      · exact .inl (.inr h)
    · unfold bfr at h; rw [gset_ne q] at h; exact .inl h
  have hG : ∀ i y, (bfr (gset ed j { ed j with reads := (ed j).reads ++ [x] }) scr i).G y → (bfr ed scr i).G y := fun i y h => by
    by_cases q : i = j
    · subst q; unfold bfr at h; rw [gset_eq] at h; exact h
    · unfold bfr at h; rw [gset_ne q] at h; exact h
  have hT : ∀ i y, (bfr (gset ed j { ed j with reads := (ed j).reads ++ [x] }) scr i).T y → (bfr ed scr i).T y := fun i y h => by
    by_cases q : i = j
    · subst q; unfold bfr at h; rw [gset_eq] at h; exact h
    · unfold bfr at h; rw [gset_ne q] at h; exact h
  refine ⟨fun i k hi hk ne => ⟨fun y h => ⟨fun z => ((s.ap i k hi hk ne).w y (hW _ _ h)).1 (hW _ _ z), fun z => ?_⟩, fun y h z => ?_, fun y h z => (s.ap i k hi hk ne).g y (hG _ _ h) (hG _ _ z), fun y h z => (s.ap i k hi hk ne).t y (hT _ _ h) (hT _ _ z)⟩, fun i hi y h => (hR _ _ h).elim (s.rb i hi y) (fun ⟨_, q⟩ => q ▸ hx), ?_, ?_, ?_, ?_, ?_, ?_, ?_, ?_⟩
  · rcases hR _ _ z with z | ⟨e3, e4⟩
    · exact ((s.ap i k hi hk ne).w y (hW _ _ h)).2 z
    · exact nx i hi (fun q => ne (q.trans e3.symm)) (by rw [e4] at h; exact hW _ _ h)
  · rcases hR _ _ z with z | ⟨e3, e4⟩
    · exact (s.ap i k hi hk ne).r y (hW _ _ h) z
    · exact nx k hk (fun q => ne (e3.trans q.symm)) (by rw [e4] at h; exact hW _ _ h)
  · exact key (Pr := fun _ e => ∀ x ∈ e.gives, C x) s.gb (s.gb j hj)
  · exact key (Pr := fun _ e => ∀ x ∈ e.takes, D x) s.tb (s.tb j hj)
  · exact key (Pr := fun _ e => ∀ k ∈ e.cells, k ∈ e.reads) s.cr (fun k hk => List.mem_append_left _ (s.cr j hj k hk))
  · exact key (Pr := fun _ e => ∀ p ∈ e.spans, 0 < p.2 ∧ p.2 < 5) s.sp (s.sp j hj)
  · exact key (Pr := fun _ e => e.cells.Nodup) s.cn (s.cn j hj)
  · exact key (Pr := fun _ e => e.gives.Nodup) s.gn (s.gn j hj)
  · exact key (Pr := fun _ e => e.takes.Nodup) s.tn (s.tn j hj)
  · exact key (Pr := fun i e => ∀ it ∈ scr i, it.fits e (ctr (scr i)) ∧ it.alw 2) s.fits fun it hit => ⟨Itm.fits.mono (e := ed j) (fun _ h => h) (fun _ h => h) (fun _ h => h) (s.fits j hj it hit).1, (s.fits j hj it hit).2⟩
/-- an env may write one more cell, that it reads and no other touches -/
theorem Sep.cell1 (s : Sep n ed scr P C D) (hj : j < n) (hr : x ∈ (ed j).reads) (hc : x ∉ (ed j).cells) (nx : ∀ i, i < n → i ≠ j → ¬ (bfr ed scr i).R x) : Sep n (gset ed j { ed j with cells := (ed j).cells ++ [x] }) scr P C D := by
  have key : ∀ {Pr : Nat → Ed → Prop}, (∀ i, i < n → Pr i (ed i)) → Pr j { ed j with cells := (ed j).cells ++ [x] } → ∀ i, i < n → Pr i (gset ed j { ed j with cells := (ed j).cells ++ [x] } i) := fun {Pr} h h' i hi => by
    by_cases q : i = j
    · subst q; rw [gset_eq]; exact h'
    · rw [gset_ne q]; exact h i hi
  have hW : ∀ i y, (bfr (gset ed j { ed j with cells := (ed j).cells ++ [x] }) scr i).W y → (bfr ed scr i).W y ∨ i = j ∧ y = x := fun i y h => by
    by_cases q : i = j
    · subst q
      unfold bfr at h
      rw [gset_eq] at h
      rcases h with h | h
      · exact (mem_snoc h).imp .inl fun e => ⟨rfl, e⟩
      · exact .inl (.inr h)
    · unfold bfr at h; rw [gset_ne q] at h; exact .inl h
  have hR : ∀ i y, (bfr (gset ed j { ed j with cells := (ed j).cells ++ [x] }) scr i).R y → (bfr ed scr i).R y := fun i y h => by
    by_cases q : i = j
    · subst q; unfold bfr at h; rw [gset_eq] at h; exact h
    · unfold bfr at h; rw [gset_ne q] at h; exact h
  have hG : ∀ i y, (bfr (gset ed j { ed j with cells := (ed j).cells ++ [x] }) scr i).G y → (bfr ed scr i).G y := fun i y h => by
    by_cases q : i = j
    · subst q; unfold bfr at h; rw [gset_eq] at h; exact h
    · unfold bfr at h; rw [gset_ne q] at h; exact h
  have hT : ∀ i y, (bfr (gset ed j { ed j with cells := (ed j).cells ++ [x] }) scr i).T y → (bfr ed scr i).T y := fun i y h => by
    by_cases q : i = j
    · subst q; unfold bfr at h; rw [gset_eq] at h; exact h
    · unfold bfr at h; rw [gset_ne q] at h; exact h
  refine ⟨fun i k hi hk ne => ⟨fun y h => ⟨fun z => ?_, fun z => ?_⟩, fun y h z => ?_, fun y h z => (s.ap i k hi hk ne).g y (hG _ _ h) (hG _ _ z), fun y h z => (s.ap i k hi hk ne).t y (hT _ _ h) (hT _ _ z)⟩, fun i hi y h => s.rb i hi y (hR _ _ h), ?_, ?_, ?_, ?_, ?_, ?_, ?_, ?_⟩
  · rcases hW _ _ h with h | ⟨e1, e2⟩ <;> rcases hW _ _ z with z | ⟨e3, e4⟩
    · exact ((s.ap i k hi hk ne).w y h).1 z
    · exact nx i hi (fun q => ne (q.trans e3.symm)) (by rw [e4] at h; exact s.wr hi _ h)
    · exact nx k hk (fun q => ne (e1.trans q.symm)) (by rw [e2] at z; exact s.wr hk _ z)
    · exact ne (e1.trans e3.symm)
  · rcases hW _ _ h with h | ⟨e1, e2⟩
    · exact ((s.ap i k hi hk ne).w y h).2 (hR _ _ z)
    · exact nx k hk (fun q => ne (e1.trans q.symm)) (by rw [e2] at z; exact hR _ _ z)
  · rcases hW _ _ h with h | ⟨e1, e2⟩
    · exact (s.ap i k hi hk ne).r y h (hR _ _ z)
    · exact nx i hi (fun q => ne (q.trans e1.symm)) (by rw [e2] at z; exact hR _ _ z)
  · exact key (Pr := fun _ e => ∀ x ∈ e.gives, C x) s.gb (s.gb j hj)
  · exact key (Pr := fun _ e => ∀ x ∈ e.takes, D x) s.tb (s.tb j hj)
  · exact key (Pr := fun _ e => ∀ k ∈ e.cells, k ∈ e.reads) s.cr (fun k hk => (mem_snoc hk).elim (s.cr j hj k) (fun e => e ▸ hr))
  · exact key (Pr := fun _ e => ∀ p ∈ e.spans, 0 < p.2 ∧ p.2 < 5) s.sp (s.sp j hj)
  · exact key (Pr := fun _ e => e.cells.Nodup) s.cn (nodup_snoc (s.cn j hj) hc)
  · exact key (Pr := fun _ e => e.gives.Nodup) s.gn (s.gn j hj)
  · exact key (Pr := fun _ e => e.takes.Nodup) s.tn (s.tn j hj)
  · exact key (Pr := fun i e => ∀ it ∈ scr i, it.fits e (ctr (scr i)) ∧ it.alw 2) s.fits fun it hit => ⟨Itm.fits.mono (e := ed j) (fun _ h => h) (fun _ h => h) (fun _ h => h) (s.fits j hj it hit).1, (s.fits j hj it hit).2⟩
end
abbrev s__law_meetings : Stmt := topS 33
theorem sc__law_meetings : FnScope ["state", "world", "scripts", "envs", "known", "group", "many", "parts", "k", "giver", "taker", "script"] ["state", "world", "scripts", "envs"] (defScope s__law_meetings) := ⟨rfl, rfl, rfl, by decide +kernel, rfl, by decide +kernel, by decide +kernel⟩
abbrev p__law_meetings : List Str := ["state", "world", "scripts", "envs"]
theorem r_dnewT {σ : L2.St} {H : Hp} {Q : VK} (q : ∀ p Hn, H p = none → Ex H Hn → Hn p = some (.dT []) → Q (.ref p) Hn) : tDNewT σ H Q := fun p hp => q p _ hp (Ex.mk hp rfl) upd_same
local macro_rules | `(tactic| injection "own") => `(tactic| (with_reducible refine r_dnewT ?_; subst "i_new"))
theorem r_dnin {σ : L2.St} {H : Hp} {Q : VK} {ty td : TE} (q : ty σ H fun y H1 => td σ H1 fun x H2 => ∃ a o, x = .ref a ∧ DGet H2 a y o ∧ Q (.bl (!o.isSome)) H2) : tDNotIn ty td σ H Q := q
theorem r_din {σ : L2.St} {H : Hp} {Q : VK} {ty td : TE} (q : ty σ H fun y H1 => td σ H1 fun x H2 => ∃ a o, x = .ref a ∧ DGet H2 a y o ∧ Q (.bl o.isSome) H2) : tDIn ty td σ H Q := q
local macro_rules | `(tactic| injection "own") => `(tactic| with_reducible refine r_din ?_)
local macro_rules | `(tactic| injection "own") => `(tactic| with_reducible refine r_dnin ?_)
def kk2 (p : Int × Int) : List Key := [Sum.inl p.1, Sum.inl p.2]
structure MEv (d d' : Wd) : Prop where
  th : d'.threads = d.threads
  lf : d'.left = d.left
  it : d'.items = d.items
  al : d'.alts = d.alts
  lo : d'.loops = d.loops
  ce : d.cells ≤ d'.cells
  ch : ∃ j, d'.chs = d.chs ++ List.replicate j ("inner" : Str)
  c24 : d'.chs.length ≤ 24
  c38 : d'.cells = d.cells ∨ d'.cells ≤ 38
structure MB (st c wa ch SA EA KA : Addr) (n : Nat) (ea : Nat → Ea) (la : Nat → Addr) (ed0 ed : Nat → Ed) (scr : Nat → List Itm) (τ : Tau) (B L clo : Nat) (lo m : Int) (H0 H : Hp) (d0 d : Wd) : Prop where
  gs : GS st c wa ch SA EA n ea la ed scr τ B H0 H d
  sep : Sep n ed scr (fun x => lo ≤ x ∧ x < d.cells) (fun x => (clo : Int) ≤ x ∧ x < d.chs.length) (fun x => (clo : Int) ≤ x ∧ x < d.chs.length)
  ev : MEv d0 d
  ce : d.cells ≤ d0.cells + m
  sm : ∀ k, k < n → (ed k).cells = (ed0 k).cells ∧ (ed k).reads = (ed0 k).reads ∧ (ed k).spans = (ed0 k).spans
  sl : ∀ k, k < n → (scr k).length ≤ L
  tK : τ KA = some (31, 0)
  kn : ∃ kvs : List (List Key × V), H KA = some (.dT kvs) ∧ kvs.length + clo ≤ d.chs.length ∧ ∀ (g t : Nat) (v : V), g < n → t < n → valV kvs (kk2 (g, t)) = some v → ∃ x, v = .int x ∧ x ∈ (ed g).gives ∧ x ∈ (ed t).takes
structure PB (PA : Addr) (pa : Nat → Addr) (n : Nat) (pps : Nat → List (Bool × Int)) (ed : Nat → Ed) (τ : Tau) (B L : Nat) (H : Hp) : Prop where
  tP : τ PA = some (31, 1)
  hP : H PA = some (.lst (frow pa n))
  tp : ∀ k, k < n → τ (pa k) = some (30, B + k)
  hp : ∀ k, k < n → ∃ xs, H (pa k) = some (.lst xs) ∧ Pts H xs (pps k)
  fp : ∀ k, k < n → ∀ p ∈ pps k, (p.1 = true → p.2 ∈ (ed k).gives) ∧ (p.1 = false → p.2 ∈ (ed k).takes)
  lp : ∀ k, k < n → (pps k).length ≤ L
section
variable {st c wa ch SA EA KA PA : Addr} {n : Nat} {ea : Nat → Ea} {la pa : Nat → Addr} {ed0 ed ed' : Nat → Ed} {scr : Nat → List Itm} {pps : Nat → List (Bool × Int)} {τ τ' : Tau} {B L L' L2 clo : Nat} {lo m : Int} {H0 H H' : Hp} {d0 d : Wd} {N : List Addr}
theorem MB.frame (b : MB st c wa ch SA EA KA n ea la ed0 ed scr τ B L clo lo m H0 H d0 d) (k : Kp N H H') (a : Al H H') (so' : StOk st c H') (wi' : WIn wa ch d H') (l : Loose τ B st c wa ch N) (nk : KA ∉ N) : MB st c wa ch SA EA KA n ea la ed0 ed scr τ B L clo lo m H0 H' d0 d := by
  obtain ⟨kvs, h1, h2, h3⟩ := b.kn
  exact ⟨b.gs.frame k a so' wi' l, b.sep, b.ev, b.ce, b.sm, b.sl, b.tK, kvs, k.out _ _ nk h1, h2, h3⟩
theorem MB.ex (b : MB st c wa ch SA EA KA n ea la ed0 ed scr τ B L clo lo m H0 H d0 d) (e : Ex H H') : MB st c wa ch SA EA KA n ea la ed0 ed scr τ B L clo lo m H0 H' d0 d :=
  b.frame (e.kp (M := [])) (al_ex e) (st_ex e b.gs.so) (b.gs.wi.exx e) (fun x hx => by cases hx) List.not_mem_nil
theorem MB.ns (b : MB st c wa ch SA EA KA n ea la ed0 ed scr τ B L clo lo m H0 H d0 d) {x : Addr} {t : Nat × Nat} (hx : τ x = some t) (h : 20 ≤ t.1) : x ∉ [st, c] := fun z => by
  have t1 := b.gs.t1
  have t2 := b.gs.t2
  simp only [List.mem_cons, List.not_mem_nil, or_false] at z
  rcases z with rfl | rfl
  · rw [t1] at hx; cases hx; simp at h
  · rw [t2] at hx; cases hx; simp at h
theorem MB.draw (b : MB st c wa ch SA EA KA n ea la ed0 ed scr τ B L clo lo m H0 H d0 d) (k : Kp [st, c] H H') (so : StOk st c H') : MB st c wa ch SA EA KA n ea la ed0 ed scr τ B L clo lo m H0 H' d0 d :=
  b.frame k (al_st k so) so (b.gs.wi.kp k b.gs.nw.1 b.gs.nw.2) (fun x hx => .inl (by
    simp only [List.mem_cons, List.not_mem_nil, or_false] at hx ⊢
    rcases hx with h | h <;> simp [h])) (b.ns b.tK (by simp))
theorem MB.one (b : MB st c wa ch SA EA KA n ea la ed0 ed scr τ B L clo lo m H0 H d0 d) {x : Addr} {t : Nat × Nat} (k : Kp [x] H H') (hn : H' x ≠ none) (hx : τ x = some t) (h : t.1 = 31 ∧ t.2 ≠ 0 ∨ t.1 = 30 ∧ B ≤ t.2) : MB st c wa ch SA EA KA n ea la ed0 ed scr τ B L clo lo m H0 H' d0 d := by
  obtain ⟨kvs, h1, h2, h3⟩ := b.kn
  refine ⟨b.gs.one k hn hx (h.imp And.left id), b.sep, b.ev, b.ce, b.sm, b.sl, b.tK, kvs, k.out _ _ (fun z => ?_) h1, h2, h3⟩
  have := b.tK
  rw [List.mem_singleton.mp z, hx] at this
  cases this
  simp at h
theorem MB.retag (b : MB st c wa ch SA EA KA n ea la ed0 ed scr τ B L clo lo m H0 H d0 d) (g : GS st c wa ch SA EA n ea la ed scr τ' B H0 H' d) (l : TgLe τ τ') (e : Ex H H') : MB st c wa ch SA EA KA n ea la ed0 ed scr τ' B L clo lo m H0 H' d0 d := by
  obtain ⟨kvs, h1, h2, h3⟩ := b.kn
  exact ⟨g, b.sep, b.ev, b.ce, b.sm, b.sl, l _ _ b.tK, kvs, e _ _ h1, h2, h3⟩
theorem MB.more (b : MB st c wa ch SA EA KA n ea la ed0 ed scr τ B L clo lo m H0 H d0 d) {B' : Nat} (h : B ≤ B') : MB st c wa ch SA EA KA n ea la ed0 ed scr τ B' L clo lo m H0 H d0 d := ⟨b.gs.more h, b.sep, b.ev, b.ce, b.sm, b.sl, b.tK, b.kn⟩
theorem PB.frame (b : PB PA pa n pps ed τ B L H) (k : Kp N H H') (nP : PA ∉ N) (np : ∀ j, j < n → pa j ∉ N) : PB PA pa n pps ed τ B L H' :=
  ⟨b.tP, k.out _ _ nP b.hP, b.tp, fun j hj => by
    obtain ⟨xs, h1, h2⟩ := b.hp j hj
    exact ⟨xs, k.out _ _ (np j hj) h1, Pts.up k h2⟩, b.fp, b.lp⟩
theorem PB.ex (b : PB PA pa n pps ed τ B L H) (e : Ex H H') : PB PA pa n pps ed τ B L H' := b.frame (e.kp (M := [])) List.not_mem_nil (fun _ _ => List.not_mem_nil)
theorem PB.le (b : PB PA pa n pps ed τ B L H) (l : TgLe τ τ') : PB PA pa n pps ed τ' B L H := ⟨l _ _ b.tP, b.hP, fun j hj => l _ _ (b.tp j hj), b.hp, b.fp, b.lp⟩
theorem PB.draw (b : PB PA pa n pps ed τ B L2 H) (g : MB st c wa ch SA EA KA n ea la ed0 ed' scr τ B' L clo lo m H0 H d0 d) (k : Kp [st, c] H H') : PB PA pa n pps ed τ B L2 H' := b.frame k (g.ns b.tP (by simp)) (fun j hj => g.ns (b.tp j hj) (by simp))
/-- an object of another tag changes -/
theorem PB.one (b : PB PA pa n pps ed τ B L H) {x : Addr} {t : Nat × Nat} (k : Kp [x] H H') (hx : τ x = some t) (h : t.1 ≠ 30) (h1 : t ≠ (31, 1)) : PB PA pa n pps ed τ B L H' := by
  refine b.frame k (fun z => ?_) (fun j hj z => ?_)
  · have := b.tP
    rw [List.mem_singleton.mp z, hx] at this
    exact h1 (Option.some.inj this)
  · have := b.tp j hj
    rw [List.mem_singleton.mp z, hx] at this
    cases this
    simp at h
/-- one of the parts grows -/
theorem PB.app (b : PB PA pa n pps ed τ B L H) {j : Nat} {q : Addr} {xs : List V} {p : Bool × Int} (hj : j < n) (e : Kp [pa j] H H') (hx : H (pa j) = some (.lst xs)) (hx2 : Pts H xs (pps j)) (hn : H' (pa j) = some (.lst (xs ++ [.ref q]))) (hq : H q = some (.tup [.str (gtS p.1), .int p.2, .str ""])) (hf : (p.1 = true → p.2 ∈ (ed j).gives) ∧ (p.1 = false → p.2 ∈ (ed j).takes)) :
    PB PA pa n (gset pps j (pps j ++ [p])) ed τ B (L + 1) H' := by
  refine ⟨b.tP, e.out _ _ (fun z => ?_) b.hP, b.tp, fun i hi => ?_, fun i hi => ?_, fun i hi => ?_⟩
  · have := b.tP
    rw [List.mem_singleton.mp z, b.tp j hj] at this
    cases this
  · by_cases w : i = j
    · subst w
      rw [gset_eq]
      exact ⟨_, hn, pair_app (Pts.up e hx2) (.cons ⟨q, rfl, e.tup _ _ hq⟩ .nil)⟩
    · rw [gset_ne w]
      obtain ⟨ys, h1, h2⟩ := b.hp i hi
      refine ⟨ys, e.out _ _ (fun z => ?_) h1, Pts.up e h2⟩
      have := b.tp i hi
      rw [List.mem_singleton.mp z, b.tp j hj] at this
      have := (Prod.mk.inj (Option.some.inj this)).2
      omega
  · by_cases w : i = j
    · subst w
      rw [gset_eq]
      intro p' hp'
      rcases List.mem_append.mp hp' with hp' | hp'
      · exact b.fp i hi p' hp'
      · rw [List.mem_singleton.mp hp']
        exact hf
    · rw [gset_ne w]
      exact b.fp i hi
  · by_cases w : i = j
    · subst w
      rw [gset_eq, List.length_append, List.length_singleton]
      exact Nat.add_le_add_right (b.lp i hi) 1
    · rw [gset_ne w]
      exact Nat.le_trans (b.lp i hi) (Nat.le_succ _)
end
theorem tk_ne {n : Nat} {g e : Int} (h2 : 2 ≤ n) (h4 : n ≤ 4) (g0 : 0 ≤ g) (g1 : g < n) (e0 : 0 ≤ e) (e1 : e < (n : Int) - 1) : 0 ≤ (g + 1 + e) % (n : Int) ∧ (g + 1 + e) % (n : Int) < n ∧ (g + 1 + e) % (n : Int) ≠ g := by
  have : n = 2 ∨ n = 3 ∨ n = 4 := by omega
  rcases this with rfl | rfl | rfl <;> omega
def chan2 (ed : Nat → Ed) (g t : Nat) (c : Int) : Nat → Ed := gset (gset ed g { ed g with gives := (ed g).gives ++ [c] }) t { gset ed g { ed g with gives := (ed g).gives ++ [c] } t with takes := (gset ed g { ed g with gives := (ed g).gives ++ [c] } t).takes ++ [c] }
theorem chan2_sm {ed : Nat → Ed} {g t : Nat} {c : Int} (k : Nat) : (chan2 ed g t c k).cells = (ed k).cells ∧ (chan2 ed g t c k).reads = (ed k).reads ∧ (chan2 ed g t c k).spans = (ed k).spans := by
  unfold chan2 gset
  by_cases q : k = t
  · subst q
    by_cases r : k = g
    · subst r; simp
    · simp [r]
  · by_cases r : k = g
    · subst r; simp [q]
    · simp [q, r]
theorem chan2_g {ed : Nat → Ed} {g t : Nat} {c x : Int} (k : Nat) (h : x ∈ (ed k).gives) : x ∈ (chan2 ed g t c k).gives := by
  unfold chan2 gset
  by_cases q : k = t
  · subst q
    by_cases r : k = g
    · subst r; simp [h]
    · simp [r, h]
  · by_cases r : k = g
    · subst r; simp [q, h]
    · simp [q, r, h]
theorem chan2_t {ed : Nat → Ed} {g t : Nat} {c x : Int} (k : Nat) (h : x ∈ (ed k).takes) : x ∈ (chan2 ed g t c k).takes := by
  unfold chan2 gset
  by_cases q : k = t
  · subst q
    by_cases r : k = g
    · subst r; simp [h]
    · simp [r, h]
  · by_cases r : k = g
    · subst r; simp [q, h]
    · simp [q, r, h]
theorem chan2_gn {ed : Nat → Ed} {g t : Nat} {c : Int} (ne : g ≠ t) : c ∈ (chan2 ed g t c g).gives := by
  unfold chan2 gset
  simp [ne]
theorem chan2_tn {ed : Nat → Ed} {g t : Nat} {c : Int} : c ∈ (chan2 ed g t c t).takes := by
  unfold chan2 gset
  simp
/-- a new channel from g to t -/
theorem MB.chan {st c wa ch SA EA KA PA : Addr} {n : Nat} {ea : Nat → Ea} {la pa : Nat → Addr} {ed0 ed : Nat → Ed} {scr : Nat → List Itm} {pps : Nat → List (Bool × Int)} {τ : Tau} {B L L2 clo : Nat} {lo m : Int} {H0 H H1 H2 H2' H3 H3' H4 : Hp} {d0 d : Wd} {kvs : List (List Key × V)} {g t : Nat}
    (b : MB st c wa ch SA EA KA n ea la ed0 ed scr τ B L clo lo m H0 H d0 d) (p : PB PA pa n pps ed τ B L2 H) (hg : g < n) (ht : t < n) (ne : g ≠ t) (hn : valV kvs (kk2 (g, t)) = none) (hc : d.chs.length < 24)
    (hl : kvs.length + clo ≤ d.chs.length) (hl2 : ∀ (g t : Nat) (v : V), g < n → t < n → valV kvs (kk2 (g, t)) = some v → ∃ x, v = .int x ∧ x ∈ (ed g).gives ∧ x ∈ (ed t).takes)
    (k1 : Kp [KA] H H1) (h1 : H1 KA = some (.dT (putK kvs (kk2 (g, t)) (.int d.chs.length)))) (k2 : Kp [ch] H1 H2) (h2 : H2 ch = some (.lst (d.chs.map V.str ++ [.str "inner"]))) (e2 : Ex H2 H2')
    (k3 : Kp [(ea g).ga] H2' H3) (h3 : H3 (ea g).ga = some (.lst ((ed g).gives.map V.int ++ [.int d.chs.length]))) (e3 : Ex H3 H3') (k4 : Kp [(ea t).ta] H3' H4) (h4 : H4 (ea t).ta = some (.lst ((ed t).takes.map V.int ++ [.int d.chs.length]))) :
    MB st c wa ch SA EA KA n ea la ed0 (chan2 ed g t d.chs.length) scr τ B L clo lo m H0 H4 d0 { d with chs := d.chs ++ [("inner" : Str)] } ∧ PB PA pa n pps (chan2 ed g t d.chs.length) τ B L2 H4 := by
  have gs := b.gs
  have tga := (gs.te g hg).2.2.2.2.1
  have tta := (gs.te t ht).2.2.2.2.2
  have et : gset ed g { ed g with gives := (ed g).gives ++ [(d.chs.length : Int)] } t = ed t := gset_ne (Ne.symm ne)
  have kl : ∀ {x : Addr} {u : Nat × Nat}, τ x = some u → u ≠ (31, 0) → KA ∉ [x] := fun {x u} hx hu z => by
    have := b.tK
    rw [List.mem_singleton.mp z, hx] at this
    exact hu (Option.some.inj this)
  have g1 := gs.one k1 (fsome h1) b.tK (.inl rfl)
  have w2 : WIn wa ch { d with chs := d.chs ++ [("inner" : Str)] } H2 := by
    obtain ⟨⟨kv, a1, a2⟩, _, nwc⟩ := g1.wi
    exact ⟨⟨kv, k2.out _ _ (by simpa using nwc) a1, a2⟩, by rw [h2, List.map_append]; rfl, nwc⟩
  have g2 := (g1.chan k2 w2).ex e2
  have g3 := (g2.env hg k3 (fsome h3) tga (by decide) (by decide) ((g2.ee g hg).gives (g2.te g hg) k3 (cs := (ed g).gives ++ [(d.chs.length : Int)]) (by rw [List.map_append]; exact h3))).ex e3
  have g4 := g3.env ht k4 (fsome h4) tta (by decide) (by decide) ((g3.ee t ht).takes (g3.te t ht) k4 (cs := (gset ed g { ed g with gives := (ed g).gives ++ [(d.chs.length : Int)] } t).takes ++ [(d.chs.length : Int)]) (by rw [List.map_append, et]; exact h4))
  have s1 := b.sep.mono (P' := fun x => lo ≤ x ∧ x < d.cells) (C' := fun x => (clo : Int) ≤ x ∧ x < ((d.chs ++ [("inner" : Str)]).length : Nat)) (D' := fun x => (clo : Int) ≤ x ∧ x < ((d.chs ++ [("inner" : Str)]).length : Nat)) (fun _ h => h) (fun x h => ⟨h.1, by rw [List.length_append, List.length_singleton]; omega⟩) (fun x h => ⟨h.1, by rw [List.length_append, List.length_singleton]; omega⟩)
  have hcl : (clo : Int) ≤ (d.chs.length : Int) ∧ (d.chs.length : Int) < ((d.chs ++ [("inner" : Str)]).length : Nat) := by
    rw [List.length_append, List.length_singleton]
    omega
  have s2 := s1.give1 (c := (d.chs.length : Int)) hg hcl (fun i hi z => by have := (b.sep.gb i hi _ z).2; omega)
  have s3 := s2.take1 (c := (d.chs.length : Int)) ht hcl (fun i hi z => by
    have z' : (d.chs.length : Int) ∈ (ed i).takes := by
      by_cases q : i = g
      · subst q; rw [gset_eq] at z; exact z
      · rw [gset_ne q] at z; exact z
    have := (b.sep.tb i hi _ z').2
    omega)
  have hk4 : H4 KA = some (.dT (putK kvs (kk2 (g, t)) (.int d.chs.length))) := k4.out _ _ (kl tta (by intro z; cases z)) (e3 _ _ (k3.out _ _ (kl tga (by intro z; cases z)) (e2 _ _ (k2.out _ _ (kl gs.t4 (by intro z; cases z)) h1))))
  refine ⟨⟨g4, s3, ?_, b.ce, fun k hk => ?_, b.sl, b.tK, _, hk4, ?_, fun g' t' v hg' ht' hv => ?_⟩, ?_⟩
  · obtain ⟨j, ej⟩ := b.ev.ch
    exact ⟨b.ev.th, b.ev.lf, b.ev.it, b.ev.al, b.ev.lo, b.ev.ce, ⟨j + 1, by show d.chs ++ _ = _; rw [ej, List.append_assoc, List.replicate_succ']⟩, by show (d.chs ++ _).length ≤ 24; rw [List.length_append, List.length_singleton]; omega, b.ev.c38⟩
  · obtain ⟨a1, a2, a3⟩ := b.sm k hk
    obtain ⟨c1, c2, c3⟩ := @chan2_sm ed g t d.chs.length k
    exact ⟨c1.trans a1, c2.trans a2, c3.trans a3⟩
  · rw [putK_new _ hn, List.length_append, List.length_singleton]
    show kvs.length + 1 + clo ≤ (d.chs ++ _).length
    rw [List.length_append, List.length_singleton]
    omega
  · rw [valV_put] at hv
    by_cases q : kk2 ((g' : Int), (t' : Int)) = kk2 ((g : Int), (t : Int))
    · rw [if_pos q] at hv
      cases hv
      simp only [kk2, List.cons.injEq, Sum.inl.injEq, and_true] at q
      have q1 : g' = g := by omega
      have q2 : t' = t := by omega
      subst q1
      subst q2
      exact ⟨_, rfl, chan2_gn ne, chan2_tn⟩
    · rw [if_neg q] at hv
      obtain ⟨x, e, m1, m2⟩ := hl2 g' t' v hg' ht' hv
      exact ⟨x, e, chan2_g g' m1, chan2_t t' m2⟩
  · have p4 := ((((((p.one k1 b.tK (by simp) (by intro z; cases z)).one k2 gs.t4 (by simp) (by intro z; cases z)).ex e2).one k3 tga (by simp) (by intro z; cases z)).ex e3).one k4 tta (by simp) (by intro z; cases z))
    exact ⟨p4.tP, p4.hP, p4.tp, p4.hp, fun k hk q hq => ⟨fun z => chan2_g k ((p4.fp k hk q hq).1 z), fun z => chan2_t k ((p4.fp k hk q hq).2 z)⟩, p4.lp⟩
theorem MB.new {st c wa ch SA EA KA : Addr} {n : Nat} {ea : Nat → Ea} {la : Nat → Addr} {ed0 ed : Nat → Ed} {scr : Nat → List Itm} {τ : Tau} {B L clo : Nat} {lo m : Int} {H0 H H' : Hp} {d0 d : Wd} (b : MB st c wa ch SA EA KA n ea la ed0 ed scr τ B L clo lo m H0 H d0 d) (e : Ex H H') {p : Addr} (hp : H p = none) (hn : H' p ≠ none) (t : Nat × Nat) :
    ∃ τ', TgLe τ τ' ∧ τ' p = some t ∧ MB st c wa ch SA EA KA n ea la ed0 ed scr τ' B L clo lo m H0 H' d0 d := by
  obtain ⟨τ', l, tp, g⟩ := b.gs.new e hp hn t
  exact ⟨τ', l, tp, b.retag g l e⟩
theorem ifj {t : TT} {ta tb : TE} {σ : L2.St} {H : Hp} {Q : VK} (R : V → Hp → Prop) (h : ∀ Q' : VK, (∀ v H', R v H' → Q' v H') → tIf t ta tb σ H Q') (q : ∀ v H', R v H' → Q v H') : tIf t ta tb σ H Q := h Q q
theorem nd_len : ∀ (n : Nat) (xs : List Int), xs.Nodup → (∀ x ∈ xs, 0 ≤ x ∧ x < (n : Int)) → xs.length ≤ n
  | 0, [], _, _ => Nat.le_refl 0
  | 0, x :: _, _, h => by
    have := h x (List.mem_cons_self ..)
    omega
  | n + 1, xs, nd, h => by
    by_cases q : (n : Int) ∈ xs
    · have e := nd_len n (xs.erase (n : Int)) (nd.erase _) fun x hx => by
        have h1 := (List.Nodup.mem_erase_iff nd).mp hx
        have h2 := h x h1.2
        have h3 := h1.1
        omega
      rw [List.length_erase_of_mem q] at e
      omega
    · have e := nd_len n xs nd fun x hx => by
        have h2 := h x hx
        have h3 : x ≠ (n : Int) := fun z => q (z ▸ hx)
        omega
      omega
theorem MB.len {st c wa ch SA EA KA : Addr} {n : Nat} {ea : Nat → Ea} {la : Nat → Addr} {ed0 ed : Nat → Ed} {scr : Nat → List Itm} {τ : Tau} {B L clo : Nat} {lo m : Int} {H0 H : Hp} {d0 d : Wd} (b : MB st c wa ch SA EA KA n ea la ed0 ed scr τ B L clo lo m H0 H d0 d) {k : Nat} (hk : k < n) : (ed k).gives.length ≤ 24 ∧ (ed k).takes.length ≤ 24 := by
  have h := b.ev.c24
  constructor
  · exact Nat.le_trans (nd_len d.chs.length _ (b.sep.gn k hk) fun x hx => by have := b.sep.gb k hk x hx; omega) h
  · exact Nat.le_trans (nd_len d.chs.length _ (b.sep.tn k hk) fun x hx => by have := b.sep.tb k hk x hx; omega) h
theorem MB.scr {st c wa ch SA EA KA : Addr} {n : Nat} {ea : Nat → Ea} {la : Nat → Addr} {ed0 ed : Nat → Ed} {scr : Nat → List Itm} {τ : Tau} {B L L' clo : Nat} {lo m : Int} {H0 H H' : Hp} {d0 d : Wd} {j : Nat} {ys : List V} {more : List Itm} (b : MB st c wa ch SA EA KA n ea la ed0 ed scr τ B L clo lo m H0 H d0 d) (hj : j < n) (k : Kp [la j] H H') (hl : H' (la j) = some (.lst ys)) (hi : ItsT τ B H' ys (scr j ++ more))
    (hf : ∀ it ∈ more, it.fits (ed j) (ctr (scr j ++ more)) ∧ it.alw 2) (hp : ∀ y ∈ ctr more, lo ≤ y ∧ y < d.cells) (hn : ∀ i, i < n → i ≠ j → ∀ y ∈ ctr more, ¬ (bfr ed scr i).R y) (h1 : (scr j).length + more.length ≤ L') (h2 : L ≤ L') : MB st c wa ch SA EA KA n ea la ed0 ed (gset scr j (scr j ++ more)) τ B L' clo lo m H0 H' d0 d := by
  obtain ⟨kvs, a1, a2, a3⟩ := b.kn
  refine ⟨b.gs.script hj (Nat.le_refl _) k hl hi, b.sep.scr1 hj hf hp hn, b.ev, b.ce, b.sm, fun i hi2 => ?_, b.tK, kvs, k.out _ _ (fun z => ?_) a1, a2, a3⟩
  · by_cases q : i = j
    · subst q
      rw [gset_eq, List.length_append]
      exact h1
    · rw [gset_ne q]
      exact Nat.le_trans (b.sl i hi2) h2
  · have := b.tK
    rw [List.mem_singleton.mp z, b.gs.tl j hj] at this
    cases this
theorem MB.cells {st c wa ch SA EA KA : Addr} {n : Nat} {ea : Nat → Ea} {la : Nat → Addr} {ed0 ed : Nat → Ed} {scr : Nat → List Itm} {τ : Tau} {B L clo : Nat} {lo m : Int} {H0 H H' : Hp} {d0 d : Wd} (b : MB st c wa ch SA EA KA n ea la ed0 ed scr τ B L clo lo m H0 H d0 d) (k : Kp [wa] H H') (wi' : WIn wa ch { d with cells := d.cells + 1 } H') (h38 : d.cells ≤ 37) : MB st c wa ch SA EA KA n ea la ed0 ed scr τ B L clo lo (m + 1) H0 H' d0 { d with cells := d.cells + 1 } := by
  obtain ⟨kvs, a1, a2, a3⟩ := b.kn
  have h := b.ce
  have e := b.ev
  refine ⟨b.gs.world k wi', b.sep.mono (fun x h => ⟨h.1, by show x < d.cells + 1; omega⟩) (fun x h => h) (fun x h => h), ⟨e.th, e.lf, e.it, e.al, e.lo, by have := e.ce; show d0.cells ≤ d.cells + 1; omega, e.ch, e.c24, .inr (by show d.cells + 1 ≤ 38; omega)⟩, by show d.cells + 1 ≤ _; omega, b.sm, b.sl, b.tK, kvs, k.out _ _ (fun z => ?_) a1, a2, a3⟩
  have := b.tK
  rw [List.mem_singleton.mp z, b.gs.t3] at this
  cases this
theorem MB.mup {st c wa ch SA EA KA : Addr} {n : Nat} {ea : Nat → Ea} {la : Nat → Addr} {ed0 ed : Nat → Ed} {scr : Nat → List Itm} {τ : Tau} {B L clo : Nat} {lo m m' : Int} {H0 H : Hp} {d0 d : Wd} (b : MB st c wa ch SA EA KA n ea la ed0 ed scr τ B L clo lo m H0 H d0 d) (h : m ≤ m') : MB st c wa ch SA EA KA n ea la ed0 ed scr τ B L clo lo m' H0 H d0 d := ⟨b.gs, b.sep, b.ev, by have := b.ce; omega, b.sm, b.sl, b.tK, b.kn⟩
theorem ctr_gts : ∀ ps : List (Bool × Int), ctr (ps.map fun p => Itm.gt p.1 p.2 true) = []
  | [] => rfl
  | p :: r => by
    have h := ctr_gts r
    simp only [ctr, List.map_cons, List.flatMap_cons, ctr1, List.nil_append] at h ⊢
    exact h
theorem its_gts {τ : Tau} {B : Nat} {H : Hp} {xs : List V} {ps : List (Bool × Int)} (h : Pts H xs ps) : ItsT τ B H xs (ps.map fun p => Itm.gt p.1 p.2 true) := by
  induction h with
  | nil => exact .nil
  | cons a _ ih => exact .cons a ih
theorem q_extN {H : Hp} {Q : VK} {l b : Addr} {xs zs : List V} (h : H l = some (.lst xs)) (h2 : H b = some (.lst zs)) (hz : xs.length + zs.length ≤ 100000) (q : ∀ Hn, Kp [l] H Hn → Hn l = some (.lst (xs ++ zs)) → Q .non Hn) : rExtend (.ref l) [.ref b] H Q := ⟨l, b, xs, zs, rfl, rfl, h, h2, sl1000 hz, q _ (kp_one h (by intro _ z; cases z)) upd_same⟩
def sp_meet : Sp := fun vs H Q _ => ∃ (st c wa ch SA EA : Addr) (n : Nat) (ea : Nat → Ea) (la : Nat → Addr) (ed : Nat → Ed) (scr : Nat → List Itm) (τ : Tau) (H0 : Hp) (d : Wd) (lo : Int), vs = [.ref st, .ref wa, .ref SA, .ref EA] ∧ 2 ≤ n ∧ n ≤ 4 ∧ GS st c wa ch SA EA n ea la ed scr τ 0 H0 H d ∧
  Sep n ed scr (fun x => lo ≤ x ∧ x < d.cells) (fun x => (d.chs.length : Int) ≤ x ∧ x < d.chs.length) (fun x => (d.chs.length : Int) ≤ x ∧ x < d.chs.length) ∧ lo ≤ d.cells ∧ d.chs.length ≤ 24 ∧ (∀ k, k < n → scr k = []) ∧
  ∀ (ed' : Nat → Ed) (scr' : Nat → List Itm) (τ' : Tau) (d' : Wd) (H' : Hp), TgLe τ τ' → GS st c wa ch SA EA n ea la ed' scr' τ' 1000 H0 H' d' → Sep n ed' scr' (fun x => lo ≤ x ∧ x < d'.cells) (fun x => (d.chs.length : Int) ≤ x ∧ x < d'.chs.length) (fun x => (d.chs.length : Int) ≤ x ∧ x < d'.chs.length) → MEv d d' → d'.cells ≤ d.cells + 3 * n →
    (∀ k, k < n → (ed' k).cells = (ed k).cells ∧ (ed' k).reads = (ed k).reads ∧ (ed' k).spans = (ed k).spans) → (∀ k, k < n → (scr' k).length ≤ 30) → Q .non H'
theorem ok_meetings (T : Glo K w mg) (D : Dn K mg "_law_meetings" s__law_meetings p__law_meetings) (G__law_draw : Cal P w K mg base "_law_draw" 1 p__law_draw sp_draw) (G__law_pick : Cal P w K mg base "_law_pick" 2 p__law_pick (sp_pick K)) (G__law_more_cells : Cal P w K mg base "_law_more_cells" 1 p__law_more_cells sp_more) :
    Cal P w K mg base "_law_meetings" 3 p__law_meetings sp_meet := by
  refine D.ok sc__law_meetings (fun vs H Q E h => ?_) (fun f cdv A outer s H vs Q E hr h => ?_)
  · obtain ⟨_, _, _, _, _, _, _, _, _, _, _, _, _, _, _, rfl, _⟩ := h
    rfl
  obtain ⟨st, c, wa, ch, SA, EA, n, ea, la, ed0, scr0, τ0, H0, d0, lo, rfl, hn2, hn4, gs, sep, hlo, h24, hs0, q⟩ := h
  refine ⟨_, (pss_cons (ps_set (i := 4) sc__law_meetings.nd rfl (by first | exact Or.inl rfl | exact Or.inr rfl) pe_dnewT) (pss_one (ps_for PassesOwn.never rfl (pi_range1 rfl T.n_range (pa_cons (pe_op op_addA pe_int (pe_cal G__law_draw (hr.mono (by (first | subst "lev" | fail))) rfl (pa_cons (pv 0) (pa_cons pe_int pa_nil)))) pa_nil)) (pg_name (i := 5) sc__law_meetings.nd rfl (by first | exact Or.inl rfl | exact Or.inr rfl)) (pss_cons (ps_set (i := 6) sc__law_meetings.nd rfl (by first | exact Or.inl rfl | exact Or.inr rfl) (pe_ifExp (pt_cmpR op_le (pe_op op_addA (pe_dget (hu_of hr) (pv 1) pe_str (fun _ _ => rfl)) (pe_callB call_lenA rfl T.n_len (by decide +kernel) (pa_cons (pv 2) pa_nil))) pe_int (nomark _)) (pe_cal G__law_pick (hr.mono (by (first | subst "lev" | fail))) rfl (pa_cons (pv 0) (pa_cons (pe_lst (pa_cons pe_int (pa_cons pe_int (pa_cons pe_int (pa_cons pe_int pa_nil))))) pa_nil))) pe_int)) (pss_cons (ps_setLc (i := 7) (own := [("script", 11)]) (tt := tYes) rfl sc__law_meetings.nd rfl rfl (sw_true rfl rfl rfl (by decide +kernel)) (pi_list (pv 2)) (blkOk_by (N := ["state", "world", "scripts", "envs", "known", "group", "many", "parts", "k", "giver", "taker", "script"]) (sc := defScope s__law_meetings) (by decide +kernel)) (fun _ _ _ _ _ => (pg_name (i := 11) sc__law_meetings.nd rfl (by first | exact Or.inl rfl | exact Or.inr rfl))) (fun _ _ _ _ _ => pts_nil) (fun _ _ _ _ _ => (pe_lst pa_nil))) (pss_cons (ps_for PassesOwn.never rfl (pi_range1 rfl T.n_range (pa_cons (pe_op op_addA pe_int (pe_cal G__law_draw (hr.mono (by (first | subst "lev" | fail))) rfl (pa_cons (pv 0) (pa_cons pe_int pa_nil)))) pa_nil)) (pg_name (i := 8) sc__law_meetings.nd rfl (by first | exact Or.inl rfl | exact Or.inr rfl)) (pss_cons (ps_set (i := 9) sc__law_meetings.nd rfl (by first | exact Or.inl rfl | exact Or.inr rfl) (pe_cal G__law_draw (hr.mono (by (first | subst "lev" | fail))) rfl (pa_cons (pv 0) (pa_cons (pe_callB call_lenA rfl T.n_len (by decide +kernel) (pa_cons (pv 2) pa_nil)) pa_nil)))) (pss_cons (ps_set (i := 10) sc__law_meetings.nd rfl (by first | exact Or.inl rfl | exact Or.inr rfl) (pe_op op_mod (pe_callTy call_intA rfl T.n_int (by decide +kernel) (pa_cons (pe_op op_addA (pe_op op_addA (pv 9) pe_int) (pe_cal G__law_draw (hr.mono (by (first | subst "lev" | fail))) rfl (pa_cons (pv 0) (pa_cons (pe_op op_sub (pe_callB call_lenA rfl T.n_len (by decide +kernel) (pa_cons (pv 2) pa_nil)) pe_int) pa_nil)))) pa_nil)) (pe_callB call_lenA rfl T.n_len (by decide +kernel) (pa_cons (pv 2) pa_nil)))) (pss_cons (ps_if (PW.pt (pw_and (pt_cmp (pc_dnotin (hu_of hr) (pe_tup (pa_cons (pv 9) (pa_cons (pv 10) pa_nil))) (pv 4))) (pw_and1 (pt_cmpR op_lt (pe_callB call_lenA rfl T.n_len (by decide +kernel) (pa_cons (pe_dget (hu_of hr) (pv 1) pe_str (fun _ _ => rfl)) pa_nil)) pe_int (nomark _))))) (pss_cons (ps_dput (hu_of hr) (pv 4) (pe_tup (pa_cons (pv 9) (pa_cons (pv 10) pa_nil))) (pe_callB call_lenA rfl T.n_len (by decide +kernel) (pa_cons (pe_dget (hu_of hr) (pv 1) pe_str (fun _ _ => rfl)) pa_nil)) rfl) (pss_cons (ps_expr (pe_bm PySem.F.plainAttrs_list PySem.F.slot_list_append PySem.F.type_list_append mt_append (pe_dget (hu_of hr) (pv 1) pe_str (fun _ _ => rfl)) (pa_cons pe_str pa_nil))) (pss_cons (ps_expr (pe_bm PySem.F.plainAttrs_list PySem.F.slot_list_append PySem.F.type_list_append mt_append (pe_dget (hu_of hr) (pe_ix ix_seq (pv 3) (pv 9) (fun _ _ => rfl)) pe_str (fun _ _ => rfl)) (pa_cons (pe_dget (hu_of hr) (pv 4) (pe_tup (pa_cons (pv 9) (pa_cons (pv 10) pa_nil))) (fun _ _ => rfl)) pa_nil))) (pss_one (ps_expr (pe_bm PySem.F.plainAttrs_list PySem.F.slot_list_append PySem.F.type_list_append mt_append (pe_dget (hu_of hr) (pe_ix ix_seq (pv 3) (pv 10) (fun _ _ => rfl)) pe_str (fun _ _ => rfl)) (pa_cons (pe_dget (hu_of hr) (pv 4) (pe_tup (pa_cons (pv 9) (pa_cons (pv 10) pa_nil))) (fun _ _ => rfl)) pa_nil))))))) pss_nil) (pss_one (ps_if (pt_cmp (pc_din (hu_of hr) (pe_tup (pa_cons (pv 9) (pa_cons (pv 10) pa_nil))) (pv 4))) (pss_cons (ps_expr (pe_bm PySem.F.plainAttrs_list PySem.F.slot_list_append PySem.F.type_list_append mt_append (pe_ix ix_seq (pv 7) (pv 9) (fun _ _ => rfl)) (pa_cons (pe_tup (pa_cons pe_str (pa_cons (pe_dget (hu_of hr) (pv 4) (pe_tup (pa_cons (pv 9) (pa_cons (pv 10) pa_nil))) (fun _ _ => rfl)) (pa_cons pe_str pa_nil)))) pa_nil))) (pss_one (ps_expr (pe_bm PySem.F.plainAttrs_list PySem.F.slot_list_append PySem.F.type_list_append mt_append (pe_ix ix_seq (pv 7) (pv 10) (fun _ _ => rfl)) (pa_cons (pe_tup (pa_cons pe_str (pa_cons (pe_dget (hu_of hr) (pv 4) (pe_tup (pa_cons (pv 9) (pa_cons (pv 10) pa_nil))) (fun _ _ => rfl)) (pa_cons pe_str pa_nil)))) pa_nil))))) pss_nil)))))) (pss_one (ps_for PassesOwn.never rfl (pi_range1 rfl T.n_range (pa_cons (pe_callB call_lenA rfl T.n_len (by decide +kernel) (pa_cons (pv 2) pa_nil)) pa_nil)) (pg_name (i := 8) sc__law_meetings.nd rfl (by first | exact Or.inl rfl | exact Or.inr rfl)) (pss_one (ps_if (PW.pt (pw_and (pt_cmpR op_gt (pe_callB call_lenA rfl T.n_len (by decide +kernel) (pa_cons (pe_ix ix_seq (pv 7) (pv 8) (fun _ _ => rfl)) pa_nil)) pe_int (nomark _)) (pw_and1 (pt_cmpR op_gt (pv 6) pe_int (nomark _))))) (pss_one (ps_expr (pe_bm PySem.F.plainAttrs_list PySem.F.slot_list_append PySem.F.type_list_append mt_append (pe_ix ix_seq (pv 2) (pv 8) (fun _ _ => rfl)) (pa_cons (pe_tup (pa_cons pe_str (pa_cons (pv 6) (pa_cons (pe_ix ix_seq (pv 7) (pv 8) (fun _ _ => rfl)) (pa_cons (pe_cal G__law_more_cells (hr.mono (by (first | subst "lev" | fail))) rfl (pa_cons (pv 1) (pa_cons pe_int pa_nil))) pa_nil))))) pa_nil)))) (pss_one (ps_expr (pe_bm PySem.F.plainAttrs_list PySem.F.slot_list_extend PySem.F.type_list_extend mt_extend (pe_ix ix_seq (pv 2) (pv 8) (fun _ _ => rfl)) (pa_cons (pe_ix ix_seq (pv 7) (pv 8) (fun _ _ => rfl)) pa_nil)))))))))))))), ?_⟩
  try dsimp only [cxOf, Cx.nox]
  have so := gs.so
  repeat' (first | specialize "st" | fail)
  rename_i H1 ke1
  obtain ⟨KA, rfl⟩ : ∃ x, x = p := ⟨_, rfl⟩
  obtain ⟨G, rfl⟩ : ∃ x, x = Hn := ⟨_, rfl⟩
  obtain ⟨clo, eclo⟩ : ∃ x, x = d0.chs.length := ⟨_, rfl⟩
  obtain ⟨τ1, l1, tK, gs1⟩ := gs.new ke1 hp (fsome hn) (31, 0)
  have mb0 : MB st c wa ch SA EA KA n ea la ed0 ed0 scr0 τ1 0 0 clo lo 0 H0 G d0 d0 := by
    refine MB.draw (H := H1) ⟨gs1, eclo ▸ sep, ⟨rfl, rfl, rfl, rfl, rfl, Int.le_refl _, ⟨0, by simp⟩, h24, .inl rfl⟩, by omega, fun k hk => ⟨rfl, rfl, rfl⟩, fun k hk => by rw [hs0 k hk]; exact Nat.le_refl 0, tK, [], hn, by rw [eclo]; simp, fun g t v _ _ hv => by cases hv⟩ ke so
  have fln : (frow la n).length = n := frow_len
  have fle : (frow (fun k => (ea k).e) n).length = n := frow_len
  have nw := gs.nw.1
  have nc := gs.nw.2
  clear so gs gs1 hp ke1 hn ke sep
  refine w_rng (lo := 0) (n := _) (fun i σ H' => ∃ (x5 x6 x7 x8 x9 x10 x11 : Option V) (τ : Tau) (ed : Nat → Ed) (scr : Nat → List Itm) (d : Wd), σ = [some (.ref st), some (.ref wa), some (.ref SA), some (.ref EA), some (.ref KA), x5, x6, x7, x8, x9, x10, x11] ∧ TgLe τ0 τ ∧ MB st c wa ch SA EA KA n ea la ed0 ed scr τ (100 * i) (10 * i) clo lo ((n : Int) * i) H0 H' d0 d) ?_ ?_ ?_
  · exact ⟨none, none, none, none, none, none, none, τ1, ed0, scr0, d0, rfl, l1, by simpa using mb0⟩
  · rintro i σ H' hi ⟨x5, x6, x7, x8, x9, x10, x11, τ, ed, scr, d, rfl, le, mb⟩
    clear mb0 tK l1 τ1
    have hi3 : i < 3 := by omega
    have hSA := mb.gs.hS
    have so := mb.gs.so
    have wi := mb.gs.wi
    have nSA : SA ∉ [st, c] := mb.ns mb.gs.tS (by simp)
    iterate 3 ((first | specialize "st" | fail))
    refine ifj (fun v H2 => ∃ mv : Int, v = .int mv ∧ 1 ≤ mv ∧ mv ≤ 3 ∧ (1 < mv → d.cells + n ≤ 38) ∧ MB st c wa ch SA EA KA n ea la ed0 ed scr τ (100 * i) (10 * i) clo lo ((n : Int) * i) H0 H2 d0 d) (fun Q' hQ => ?_) (fun v H2 hR => ?_)
    · repeat' (first | specialize "st" | fail)
      · have hv := List.mem_of_getElem? ej
        simp only [List.mem_cons, List.not_mem_nil, or_false] at hv
        rename_i H3 ke3
        refine hQ _ _ ?_
        have mb3 := (mb.ex ke3).draw ke (by assumption)
        rcases hv with rfl | rfl | rfl | rfl
        · exact ⟨1, rfl, by decide, by decide, (by omega), mb3⟩
        · exact ⟨1, rfl, by decide, by decide, (by omega), mb3⟩
        · exact ⟨2, rfl, by decide, by decide, (by omega), mb3⟩
        · exact ⟨3, rfl, by decide, by decide, (by omega), mb3⟩
      · exact hQ _ _ ⟨1, rfl, by decide, by decide, (by omega), mb⟩
    · obtain ⟨mv, rfl, v1, v2, v3, mb2⟩ := hR
      clear mb hSA so wi
      have hSA := mb2.gs.hS
      repeat' (first | specialize "st" | fail)
      intro PA hPA
      obtain ⟨τa, la1, tP, mb3⟩ := mb2.new (Ex.mk (o := .lst []) hPA rfl) hPA (fsome upd_same) (31, 1)
      refine lc_list (xs := frow la n) (fun j H' => ∃ (τ' : Tau) (pa : Nat → Addr), TgLe τa τ' ∧ MB st c wa ch SA EA KA n ea la ed0 ed scr τ' (100 * i) (10 * i) clo lo ((n : Int) * i) H0 H' d0 d ∧ H' PA = some (.lst (frow pa j)) ∧ ∀ k, k < j → τ' (pa k) = some (30, 100 * i + k) ∧ H' (pa k) = some (.lst [])) ?_ ?_ ?_ ?_
      · exact ⟨τa, fun _ => 0, TgLe.refl _, mb3, upd_same, fun k hk => absurd hk (Nat.not_lt_zero k)⟩
      · rintro j H' _ ⟨τ', pa, _, mb, _⟩
        exact sql mb.gs.hS
      · rintro j x H' hx ⟨τ', pa, le', mb, hP, hpa⟩
        have hj : j < n := by
          have := (List.getElem?_eq_some_iff.mp hx).1
          omega
        refine ⟨rfl, ?_⟩
        repeat' (first | specialize "st" | fail)
        obtain ⟨τ2, l2, tp, mb4⟩ := mb.new ke hp (fsome hn) (30, 100 * i + j)
        have hP2 := ke _ _ hP
        refine ⟨_, hP2, sl1000' (by rw [frow_len]; omega), ?_⟩
        generalize hq : upd Hn PA _ = H9
        have k9 := kp_upd hP2 hq
        have h9 := at_new hq
        have tP2 : τ2 PA = some (31, 1) := l2 _ _ (le' _ _ tP)
        refine ⟨τ2, fset pa j p, le'.trans l2, mb4.one k9 (fsome h9) tP2 (.inl ⟨rfl, by decide⟩), by rw [h9, frow_set], fam_step (P := fun k x => τ2 x = some (30, 100 * i + k) ∧ H9 x = some (.lst [])) (fun k hk => ⟨l2 _ _ (hpa k hk).1, k9.out _ _ (fun z => ?_) (ke _ _ (hpa k hk).2)⟩) ⟨tp, k9.out _ _ (fun z => ?_) hn⟩⟩
        · have := l2 _ _ (hpa k hk).1
          rw [List.mem_singleton.mp z, tP2] at this
          cases this
        · rw [List.mem_singleton.mp z, tP2] at tp
          cases tp
      · rintro H4 ⟨τ2, pa, l2, mb4, hP4, hpa⟩
        rw [fln] at hP4 hpa
        have pb4 : PB PA pa n (fun _ => []) ed τ2 (100 * i) 0 H4 := ⟨l2 _ _ tP, hP4, fun k hk => (hpa k hk).1, fun k hk => ⟨[], (hpa k hk).2, .nil⟩, (fun k hk p hp => by cases hp), fun k hk => Nat.le_refl 0⟩
        have lt2 : TgLe τ0 τ2 := (le.trans la1).trans l2
        have so4 := mb4.gs.so
        clear mb3 mb2 hSA l2 la1 tP hPA hP4 hpa
        repeat' (first | specialize "st" | fail)
        have mb5 := mb4.draw ke so
        have pb5 := pb4.draw mb4 ke
        clear mb4 pb4 so so4 ke
        refine w_rng (lo := 0) (n := _) (fun j σ H' => ∃ (x8 x9 x10 x11 : Option V) (ed : Nat → Ed) (d : Wd) (pps : Nat → List (Bool × Int)), σ = [some (.ref st), some (.ref wa), some (.ref SA), some (.ref EA), some (.ref KA), some (.int (0 + (i : Int))), some (.int mv), some (.ref PA), x8, x9, x10, x11] ∧ MB st c wa ch SA EA KA n ea la ed0 ed scr τ2 (100 * i) (10 * i) clo lo ((n : Int) * i) H0 H' d0 d ∧ PB PA pa n pps ed τ2 (100 * i) (2 * j) H' ∧ (1 < mv → d.cells + n ≤ 38)) ?_ ?_ ?_
        · exact ⟨x8, x9, x10, x11, ed, d, fun _ => [], rfl, mb5, pb5, v3⟩
        · rintro j σ H' hj ⟨x8, x9, x10, x11, ed, d, pps, rfl, mb, pb, v4⟩
          clear mb5 pb5
          have hj3 : j < 3 := by omega
          have hSA := mb.gs.hS
          have so := mb.gs.so
          iterate 50 ((first | specialize "st" | fail))
          rename_i gd A1 g0 g1 k1 s1
          rw [fln] at g1 n1
          simp only [fln]
          obtain ⟨g, rfl⟩ : ∃ g : Nat, gd = (g : Int) := ⟨gd.toNat, by omega⟩
          obtain ⟨t0, t1, t2⟩ := tk_ne hn2 hn4 g0 g1 n0 n1
          obtain ⟨t, et⟩ : ∃ t : Nat, ((g : Int) + 1 + dn) % (n : Int) = (t : Int) := ⟨(((g : Int) + 1 + dn) % (n : Int)).toNat, by omega⟩
          rw [et] at t0 t1 t2
          simp only [et]
          have hg : g < n := by omega
          have ht : t < n := by omega
          have ne : g ≠ t := by omega
          have mbc := (mb.draw k1 s1).draw ke so
          have pbc := (pb.draw mb k1).draw (mb.draw k1 s1) ke
          obtain ⟨A2, rfl⟩ : ∃ x, x = Hn := ⟨_, rfl⟩
          clear mb pb hSA s1 k1 ke so
          refine ifsj (fun σ' H2 => σ' = [some (.ref st), some (.ref wa), some (.ref SA), some (.ref EA), some (.ref KA), some (.int (0 + (i : Int))), some (.int mv), some (.ref PA), some (.int (0 + (j : Int))), some (.int g), some (.int t), x11] ∧ ∃ (ed : Nat → Ed) (d : Wd), MB st c wa ch SA EA KA n ea la ed0 ed scr τ2 (100 * i) (10 * i) clo lo ((n : Int) * i) H0 H2 d0 d ∧ PB PA pa n pps ed τ2 (100 * i) (2 * j) H2 ∧ (1 < mv → d.cells + n ≤ 38)) (fun nx' hn' => ?_) (fun σ' H2 hR => ?_)
          · obtain ⟨kvs, hk, hkl, hkv⟩ := mbc.kn
            have wi := mbc.gs.wi
            have hch := wi.hc
            repeat' (first | specialize "st" | fail)
            refine ⟨KA, valV kvs (kk2 (g, t)), rfl, DGet.t (ke _ _ hk) hn, ?_⟩
            cases hv : valV kvs (kk2 (g, t)) with
            | some v =>
              refine ⟨false, rfl, ?_⟩
              repeat' (first | specialize "st" | fail)
              exact hn' _ _ ⟨rfl, ed, d, mbc.ex ke, pbc.ex ke, v4⟩
            | none =>
              refine ⟨true, rfl, ?_⟩
              repeat' (first | specialize "st" | fail)
              · rename_i p1 A3 hp1 e1 hn1 cl
                have mbB := (mbc.ex e1).ex ke
                have pbB := (pbc.ex e1).ex ke
                have hkB := ke _ _ (e1 _ _ hk)
                have hchB := ke _ _ (e1 _ _ hch)
                have wiB := mbB.gs.wi
                obtain ⟨B0, rfl⟩ : ∃ x, x = Hn := ⟨_, rfl⟩
                obtain ⟨pB, rfl⟩ : ∃ x, x = p := ⟨_, rfl⟩
                have hnB := hn
                have tKA := mbB.tK
                have tch := mbB.gs.t4
                have twa := mbB.gs.t3
                have tEA := mbB.gs.tE
                obtain ⟨tg1, _, _, _, tg5, _⟩ := mbB.gs.te g hg
                obtain ⟨tt1, _, _, _, _, tt6⟩ := mbB.gs.te t ht
                obtain ⟨⟨kg, hge, _, _, _, _, hgg, _⟩, _, _, hgl, _, _⟩ := mbB.gs.ee g hg
                obtain ⟨⟨kt, hte, _, _, _, _, _, htt⟩, _, _, _, htl, _⟩ := mbB.gs.ee t ht
                have hEA := mbB.gs.hE
                have glen : (ed g).gives.length < 1000 ∧ (ed t).takes.length < 1000 := by
                  have q1 := (mbB.len hg).1
                  have q2 := (mbB.len ht).2
                  omega
                simp only [List.length_map] at cl ⊢
                clear hk hch wi e1 hp1 hn1 hp hn ke mbc pbc
                refine ⟨KA, _, rfl, DPut.t (k := kk2 ((g : Int), (t : Int))) hkB hnB (sl1000' (by omega)), ?_⟩
                generalize hq1 : upd B0 KA _ = HA
                have kA : Kp [KA] B0 HA := by
                  rw [← hq1]
                  exact kp_one hkB (by intro _ z; cases z)
                have hA := at_new hq1
                clear hq1
                have wiA : WIn wa ch d HA := wiB.kp kA (fun z => ne_tg twa tKA (by intro q; cases q) (List.mem_singleton.mp z)) (fun z => ne_tg tch tKA (by intro q; cases q) (List.mem_singleton.mp z))
                repeat' (first | specialize "st" | fail)
                have k2 := ku
                have h2 := hu
                obtain ⟨HB, rfl⟩ : ∃ x, x = Hn := ⟨_, rfl⟩
                refine q_ixL (sql (by (first | exists "lift" | fail))) (atI_nat (frow_at hg)) ?_
                repeat' (first | specialize "st" | fail)
                refine ⟨KA, .int d.chs.length, rfl, ?_, ?_⟩
                · have := DGet.t (k := kk2 ((g : Int), (t : Int))) (show Hn KA = some (.dT (putK kvs (kk2 ((g : Int), (t : Int))) (.int d.chs.length))) by (first | exists "lift" | fail)) hn
                  rw [valV_put, if_pos rfl] at this
                  exact this
                obtain ⟨HC, rfl⟩ : ∃ x, x = Hn := ⟨_, rfl⟩
                have e2 : Ex HB HC := ke
                repeat' (first | specialize "st" | fail)
                obtain ⟨HD, rfl⟩ : ∃ x, x = Hn := ⟨_, rfl⟩
                have k3 : Kp [(ea g).ga] HC HD := ku
                have h3 := hu
                refine q_ixL (sql (by (first | exists "lift" | fail))) (atI_nat (frow_at ht)) ?_
                repeat' (first | specialize "st" | fail)
                refine ⟨KA, .int d.chs.length, rfl, ?_, ?_⟩
                · have := DGet.t (k := kk2 ((g : Int), (t : Int))) (show Hn KA = some (.dT (putK kvs (kk2 ((g : Int), (t : Int))) (.int d.chs.length))) by (first | exists "lift" | fail)) hn
                  rw [valV_put, if_pos rfl] at this
                  exact this
                repeat' (first | specialize "st" | fail)
                obtain ⟨m9, p9⟩ := MB.chan mbB pbB hg ht ne hv (by omega) hkl hkv kA hA k2 h2 e2 k3 h3 ke ku hu
                exact hn' _ _ ⟨rfl, _, _, m9, p9, v4⟩
              · exact hn' _ _ ⟨rfl, ed, d, mbc.ex ke, pbc.ex ke, v4⟩
          · obtain ⟨rfl, ed, d, mb, pb, v4⟩ := hR
            obtain ⟨kvs, hk, hkl, hkv⟩ := mb.kn
            clear mbc pbc
            repeat' (first | specialize "st" | fail)
            refine ⟨KA, valV kvs (kk2 ((g : Int), (t : Int))), rfl, DGet.t (ke _ _ hk) hn, ?_⟩
            cases hv : valV kvs (kk2 ((g : Int), (t : Int))) with
            | none =>
              refine ⟨false, rfl, ?_⟩
              repeat' (first | specialize "st" | fail)
              have pb2 := pb.ex ke
              exact ⟨_, _, _, _, ed, d, pps, rfl, mb.ex ke, ⟨pb2.tP, pb2.hP, pb2.tp, pb2.hp, pb2.fp, fun k hk => Nat.le_trans (pb2.lp k hk) (by omega)⟩, v4⟩
            | some v =>
              obtain ⟨x, rfl, hxg, hxt⟩ := hkv g t v hg ht hv
              refine ⟨true, rfl, ?_⟩
              obtain ⟨xg, hxg1, hxg2⟩ := pb.hp g hg
              have hxgl : xg.length ≤ 100 := by
                rw [Paired.length hxg2]
                exact Nat.le_trans (pb.lp g hg) (by omega)
              have hPA := pb.hP
              have hKs := hk
              repeat' (first | specialize "st" | fail)
              refine q_ixL (sql (by (first | exists "lift" | fail))) (atI_nat (frow_at hg)) ?_
              repeat' (first | specialize "st" | fail)
              refine ⟨KA, .int x, rfl, ?_, ?_⟩
              · have := DGet.t (k := kk2 ((g : Int), (t : Int))) (show Hn KA = some (.dT kvs) by (first | exists "lift" | fail)) hn
                rw [hv] at this
                exact this
              have hlx : xg.length < 100000 := by omega
              repeat' (first | specialize "st" | fail)
              rename_i p1 A1 hp1 e1 hn1 p2 A2 hp2 e2 hn2 A3
              have mb1 := ((mb.ex e1).ex e2).ex ke
              have pb1 := ((pb.ex e1).ex e2).ex ke
              have eA : Ex H2 A3 := (e1.trans e2).trans ke
              have hne : Hn (pa g) ≠ none := fsome hu
              have mb6 := mb1.one ku hne (pb1.tp g hg) (.inr ⟨rfl, by omega⟩)
              have pb6 := pb1.app hg ku (eA _ _ hxg1) (Pts.up (M := []) eA.kp hxg2) hu (p := (true, x)) hn ⟨fun _ => hxg, fun z => by cases z⟩
              have hk6 : Hn KA = some (.dT kvs) := ku.out _ _ (fun z => by
                have := mb1.tK
                rw [List.mem_singleton.mp z, pb1.tp g hg] at this
                cases this) (eA _ _ hk)
              obtain ⟨H5, rfl⟩ : ∃ x, x = Hn := ⟨_, rfl⟩
              obtain ⟨xt, hxt1, hxt2⟩ := pb6.hp t ht
              have hxtl : xt.length < 100000 := by
                rw [Paired.length hxt2]
                have := pb6.lp t ht
                omega
              have hPA6 := pb6.hP
              clear mb pb hk hPA hKs hxg1 hxg2 e1 e2 ke hn hn1 hn2 ku hu hp hp1 hp2 hne mb1 pb1 eA
              refine q_ixL (sql (by (first | exists "lift" | fail))) (atI_nat (frow_at ht)) ?_
              repeat' (first | specialize "st" | fail)
              refine ⟨KA, .int x, rfl, ?_, ?_⟩
              · have := DGet.t (k := kk2 ((g : Int), (t : Int))) (show Hn KA = some (.dT kvs) by (first | exists "lift" | fail)) hn
                rw [hv] at this
                exact this
              repeat' (first | specialize "st" | fail)
              rename_i p1 A1 hp1 e1 hn1 A3
              have mb1 := (mb6.ex e1).ex ke
              have pb1 := (pb6.ex e1).ex ke
              have eA : Ex H5 A3 := e1.trans ke
              have mb7 := mb1.one ku (fsome hu) (pb1.tp t ht) (.inr ⟨rfl, by omega⟩)
              have pb7 := pb1.app ht ku (eA _ _ hxt1) (Pts.up (M := []) eA.kp hxt2) hu (p := (false, x)) hn ⟨fun z => (by cases z), fun _ => hxt⟩
              exact ⟨_, _, _, _, ed, d, _, rfl, mb7, ⟨pb7.tP, pb7.hP, pb7.tp, pb7.hp, pb7.fp, fun k hk => Nat.le_trans (pb7.lp k hk) (by omega)⟩, v4⟩
        · rintro σ H' ⟨x8, x9, x10, x11, ed, d, pps, rfl, mb, pb, v4⟩
          clear mb5 pb5
          have hd3 : 2 * (1 + dn).toNat ≤ 6 := by omega
          have pb6 : PB PA pa n pps ed τ2 (100 * i) 6 H' := ⟨pb.tP, pb.hP, pb.tp, pb.hp, pb.fp, fun k hk => Nat.le_trans (pb.lp k hk) hd3⟩
          have hSA := mb.gs.hS
          clear pb
          repeat' (first | specialize "st" | fail)
          refine w_rng (lo := 0) (n := _) (fun k σ H' => ∃ (x8 x9 x10 x11 : Option V) (scr' : Nat → List Itm) (d : Wd), σ = [some (.ref st), some (.ref wa), some (.ref SA), some (.ref EA), some (.ref KA), some (.int (0 + (i : Int))), some (.int mv), some (.ref PA), x8, x9, x10, x11] ∧ MB st c wa ch SA EA KA n ea la ed0 ed scr' τ2 (100 * (i + 1)) (10 * (i + 1)) clo lo ((n : Int) * i + k) H0 H' d0 d ∧ PB PA pa n pps ed τ2 (100 * i) 6 H' ∧ (1 < mv → d.cells + n ≤ 38 + k) ∧ ∀ k', k ≤ k' → scr' k' = scr k') ?_ ?_ ?_
          · have mb1 := mb.more (B' := 100 * (i + 1)) (by omega)
            exact ⟨x8, x9, x10, x11, scr, d, rfl, ⟨mb1.gs, mb1.sep, mb1.ev, by have := mb1.ce; omega, mb1.sm, fun k hk => Nat.le_trans (mb1.sl k hk) (by omega), mb1.tK, mb1.kn⟩, pb6, (fun z => by have := v4 z; omega), fun _ _ => rfl⟩
          · have hsl := mb.sl
            rintro k σ H' hk ⟨x8, x9, x10, x11, scr', d, rfl, mb, pb, v5, hsc⟩
            have hkn : k < n := by
              rw [fln] at hk
              omega
            obtain ⟨xk, hxk1, hxk2⟩ := pb.hp k hkn
            obtain ⟨ys, hys1, hys2⟩ := mb.gs.ll k hkn
            have hPA := pb.hP
            have hSA := mb.gs.hS
            have wi := mb.gs.wi
            have twa := mb.gs.t3
            have tla := mb.gs.tl k hkn
            have tpa := pb.tp k hkn
            have tPA := pb.tP
            have tSA := mb.gs.tS
            have hxl : xk.length ≤ 6 := by
              rw [Paired.length hxk2]
              exact pb.lp k hkn
            have hs1 : scr' k = scr k := hsc k (Nat.le_refl k)
            have hyl : ys.length ≤ 30 := by
              rw [Paired.length hys2, hs1]
              exact Nat.le_trans (hsl k hkn) (by omega)
            have hcl : lo ≤ d.cells := by
              have := mb.ev.ce
              omega
            have ext : ∀ Hn, Kp [la k] H' Hn → Hn (la k) = some (.lst (ys ++ xk)) → MB st c wa ch SA EA KA n ea la ed0 ed (gset scr' k (scr' k ++ (pps k).map fun p => Itm.gt p.1 p.2 true)) τ2 (100 * (i + 1)) (10 * (i + 1)) clo lo ((n : Int) * i + ((k + 1 : Nat) : Int)) H0 Hn d0 d ∧ PB PA pa n pps ed τ2 (100 * i) 6 Hn := by
              intro Hn ku hu
              refine ⟨(mb.scr (more := (pps k).map fun p => Itm.gt p.1 p.2 true) (L' := 10 * (i + 1)) hkn ku hu (pair_app (Paired.mapP hys2 fun v it q => q.up ku (TgLe.refl _) (Nat.le_refl _) fun x hx j' hj' => ?_) (its_gts (Pts.up ku hxk2))) (fun it hit => ?_) (fun y hy => ?_) (fun i' _ _ y hy => ?_) ?_ (Nat.le_refl _)).mup (by omega), pb.one ku tla (by simp) (by intro z; cases z)⟩
              · rw [List.mem_singleton.mp hx, tla] at hj'
                cases hj'
              · obtain ⟨p, hp, rfl⟩ := List.mem_map.mp hit
                exact ⟨pb.fp k hkn p hp, fun _ => Nat.le_refl 2⟩
              · rw [ctr_gts] at hy
                cases hy
              · rw [ctr_gts] at hy
                cases hy
              · rw [hs1, List.length_map]
                have h1 := hsl k hkn
                have h2 := pb.lp k hkn
                omega
            repeat' (first | specialize "st" | fail)
            refine q_ixL (sql (by (first | exists "lift" | fail))) (frow_atI hkn) ?_
            repeat' (first | specialize "st" | fail)
            all_goals refine q_ixL (sql hSA) (frow_atI hkn) ?_
            all_goals repeat' (first | specialize "st" | fail)
            all_goals refine q_ixL (sql (by (first | exists "lift" | fail))) (frow_atI hkn) ?_
            · repeat' (first | specialize "st" | fail)
              rename_i A1 A2
              have mb1 := (mb.cells kw wi (by have := v5 (by omega); omega)).ex ke
              have pb1 := (pb.one kw twa (by simp) (by intro z; cases z)).ex ke
              obtain ⟨xk', hxk1', hxk2'⟩ := pb1.hp k hkn
              have hpk : Hn (pa k) = some (.lst xk') := ku.out _ _ (fun z => by
                rw [List.mem_singleton.mp z, tla] at tpa
                cases tpa) hxk1'
              obtain ⟨ys', hys1', hys2'⟩ := mb1.gs.ll k hkn
              have eys : ys' = ys := by
                have h1 : A2 (la k) = some (.lst ys) := by (first | exists "lift" | fail)
                rw [h1] at hys1'
                cases hys1'
                rfl
              subst eys
              have m9 := (mb1.scr (more := [Itm.loop mv (pps k) d.cells]) (L' := 10 * (i + 1)) hkn ku hu (pair_app (Paired.mapP hys2' fun v it q => q.up ku (TgLe.refl _) (Nat.le_refl _) fun x hx j' hj' => by
                  rw [List.mem_singleton.mp hx, tla] at hj'
                  cases hj') (.cons ⟨p, pa k, xk', rfl, ku.tup _ _ hn, hpk, ⟨_, tpa, by omega⟩, Pts.up ku hxk2'⟩ .nil)) (fun it hit => ?_) (fun y hy => ?_) (fun i' hi' _ y hy z => ?_) ?_ (Nat.le_refl _)).mup (m' := (n : Int) * i + ((k + 1 : Nat) : Int)) (by omega)
              · exact ⟨_, _, _, _, _, _, rfl, m9, pb1.one ku tla (by simp) (by intro z; cases z), (fun z => by have := v5 z; show d.cells + 1 + (n : Int) ≤ 38 + ((k + 1 : Nat) : Int); omega), fun k' hk' => by rw [gset_ne (by omega)]; exact hsc k' (by omega)⟩
              · rw [List.mem_singleton.mp hit]
                refine ⟨⟨by omega, v2, ?_, Nat.le_trans (pb.lp k hkn) (by decide), pb.fp k hkn⟩, Nat.le_refl 2⟩
                simp [ctr, ctr1]
              · have hy' : y = d.cells := by simpa [ctr, ctr1] using hy
                rw [hy']
                exact ⟨hcl, by show d.cells < d.cells + 1; omega⟩
              · have hy' : y = d.cells := by simpa [ctr, ctr1] using hy
                rw [hy'] at z
                have := (mb.sep.rb i' hi' _ z).2
                omega
              · rw [hs1]
                have h1 := hsl k hkn
                show (scr k).length + 1 ≤ _
                omega
            all_goals
              repeat' (first | specialize "st" | fail)
              refine q_extN (xs := ys) (zs := xk) (by (first | exists "lift" | fail)) (by (first | exists "lift" | fail)) (by omega) ?_
              intro Hn ku hu
              repeat' (first | specialize "st" | fail)
              obtain ⟨m9, p9⟩ := ext Hn ku hu
              exact ⟨_, _, _, _, _, d, rfl, m9, p9, (fun z => by have := v5 z; omega), fun k' hk' => by rw [gset_ne (by omega)]; exact hsc k' (by omega)⟩
          · rintro σ H' ⟨x8, x9, x10, x11, scr', d, rfl, mb, pb, _, _⟩
            refine ⟨_, _, _, _, _, _, _, τ2, ed, scr', d, rfl, lt2, ⟨mb.gs, mb.sep, mb.ev, ?_, mb.sm, mb.sl, mb.tK, mb.kn⟩⟩
            have h1 := mb.ce
            rw [fln] at h1
            have h2 : (n : Int) * ((i + 1 : Nat) : Int) = (n : Int) * i + n := by
              rw [show ((i + 1 : Nat) : Int) = (i : Int) + 1 by omega, Int.mul_add, Int.mul_one]
            rw [h2]
            omega
  · rintro σ H' ⟨x5, x6, x7, x8, x9, x10, x11, τ, ed, scr, d, rfl, le, mb⟩
    obtain ⟨k, ek⟩ : ∃ k, k = (1 + dn).toNat := ⟨_, rfl⟩
    rw [← ek] at mb
    have hk : k ≤ 3 := by omega
    have hnk : (n : Int) * k ≤ n * 3 := Int.mul_le_mul_of_nonneg_left (by omega) (by omega)
    have hce := mb.ce
    exact q ed scr τ d H' le (mb.gs.more (by omega)) (eclo ▸ mb.sep) mb.ev (by omega) mb.sm (fun k hk => Nat.le_trans (mb.sl k hk) (by omega))
abbrev s__law_shared : Stmt := topS 34
theorem sc__law_shared : FnScope ["state", "env", "envs", "scripts", "cell", "c", "at", "k"] ["state", "env", "envs", "scripts"] (defScope s__law_shared) := ⟨rfl, rfl, rfl, by decide +kernel, rfl, by decide +kernel, by decide +kernel⟩
abbrev p__law_shared : List Str := ["state", "env", "envs", "scripts"]
section
variable {n j i : Nat} {ed : Nat → Ed} {scr : Nat → List Itm} {x y : Int}
theorem bfr_readW (h : (bfr (gset ed j { ed j with reads := (ed j).reads ++ [x] }) scr i).W y) : (bfr ed scr i).W y := by
  by_cases q : i = j
  · subst q; unfold bfr at h; rw [gset_eq] at h; exact h
  · unfold bfr at h; rw [gset_ne q] at h; exact h
theorem bfr_readR (h : (bfr (gset ed j { ed j with reads := (ed j).reads ++ [x] }) scr i).R y) : (bfr ed scr i).R y ∨ i = j ∧ y = x := by
  by_cases q : i = j
  · subst q
    unfold bfr at h
    rw [gset_eq] at h
    rcases h with h | h
    · exact (mem_snoc h).imp .inl fun e => ⟨rfl, e⟩
    · exact .inl (.inr h)
  · unfold bfr at h; rw [gset_ne q] at h; exact .inl h
theorem bfr_cellR (h : (bfr (gset ed j { ed j with cells := (ed j).cells ++ [x] }) scr i).R y) : (bfr ed scr i).R y := by
  by_cases q : i = j
  · subst q; unfold bfr at h; rw [gset_eq] at h; exact h
  · unfold bfr at h; rw [gset_ne q] at h; exact h
end
theorem frow_gset {la : Nat → Addr} {n j : Nat} {p : Addr} (hj : j < n) : (frow la n).set j (.ref p) = frow (gset la j p) n := by
  apply List.ext_getElem?
  intro i
  rw [List.getElem?_set]
  by_cases q : j = i
  · subst q
    rw [if_pos rfl, frow_len, if_pos hj, frow_at hj, gset_eq]
  · rw [if_neg q]
    by_cases h : i < n
    · rw [frow_at h, frow_at h, gset_ne (Ne.symm q)]
    · rw [List.getElem?_eq_none (by rw [frow_len]; omega), List.getElem?_eq_none (by rw [frow_len]; omega)]
theorem GS.relist {st c wa ch SA EA : Addr} {n : Nat} {ea : Nat → Ea} {la : Nat → Addr} {ed : Nat → Ed} {scr : Nat → List Itm} {τ : Tau} {B : Nat} {H0 H H' : Hp} {d : Wd} {j : Nat} {p : Addr} {ys : List V} {its : List Itm} (g : GS st c wa ch SA EA n ea la ed scr τ B H0 H d) (_hj : j < n) (k : Kp [SA] H H') (hS : H' SA = some (.lst (frow (gset la j p) n))) (tp : τ p = some (26, j)) (hp : H' p = some (.lst ys)) (hi : ItsT τ B H' ys its) :
    GS st c wa ch SA EA n ea (gset la j p) ed (gset scr j its) τ B H0 H' d := by
  have hx := g.tS
  obtain ⟨n1, n2, n3, n4⟩ := g.nin hx (by simp)
  have ne : ∀ y t, τ y = some t → t ≠ (28, 0) → y ∉ [SA] := fun y t hy q z => by
    rw [List.mem_singleton.mp z, hx] at hy
    exact q (Option.some.inj hy).symm
  refine ⟨kp_fresh g.kp k (fun y hy => ?_), st_out k g.so n1 n2, g.wi.kp k n3 n4, g.tg.al (al_one k (fsome hS)), g.fr, g.t1, g.t2, g.t3, g.t4, g.tS, g.tE, hS, k.out _ _ (ne _ _ g.tE (by intro z; cases z)) g.hE, g.te, fun i hi => ?_, fun i hi => ?_, fun i hi2 => ?_⟩
  · rw [List.mem_singleton.mp hy]
    exact .inr (g.fr _ _ hx (by simp))
  · refine (g.ee i hi).kp k fun y hy => ?_
    obtain ⟨f', f0, f1, hf⟩ := (g.te i hi).all y hy
    exact ne y _ hf (fun z => by have := (Prod.mk.inj z).1; omega)
  · by_cases q : i = j
    · subst q
      rw [gset_eq]
      exact tp
    · rw [gset_ne q]
      exact g.tl i hi
  · by_cases q : i = j
    · subst q
      rw [gset_eq, gset_eq]
      exact ⟨ys, hp, hi⟩
    · rw [gset_ne q, gset_ne q]
      obtain ⟨xs, hl3, hi3⟩ := g.ll i hi2
      refine ⟨xs, k.out _ _ (ne _ _ (g.tl i hi2) (by intro z; cases z)) hl3, Paired.mapP hi3 fun v it q => q.up k (TgLe.refl _) (Nat.le_refl _) fun y hy j' hj' => ?_⟩
      rw [List.mem_singleton.mp hy, hx] at hj'
      cases hj'
theorem nd_inj : ∀ {xs : List Int} {i j : Nat} {x : Int}, xs.Nodup → xs[i]? = some x → xs[j]? = some x → i = j
  | [], _, _, _, _, h, _ => by simp at h
  | y :: r, 0, 0, _, _, _, _ => rfl
  | y :: r, 0, j + 1, x, nd, h, g => by
    simp at h g
    subst h
    exact absurd (List.mem_of_getElem? g) (List.nodup_cons.mp nd).1
  | y :: r, i + 1, 0, x, nd, h, g => by
    simp at h g
    subst g
    exact absurd (List.mem_of_getElem? h) (List.nodup_cons.mp nd).1
  | y :: r, i + 1, j + 1, x, nd, h, g => by
    have := nd_inj (List.nodup_cons.mp nd).2 (by simpa using h) (by simpa using g)
    omega
/-- the shared cells: i of them are given -/
structure ShI (n : Nat) (ed0 ed : Nat → Ed) (scr : Nat → List Itm) (eo : Ed) (P C D : Int → Prop) (i : Nat) : Prop where
  sep : Sep n ed scr P C D
  un : ∀ i' x, i ≤ i' → eo.cells[i']? = some x → ∀ k, k < n → ¬ (bfr ed scr k).R x
  cl : ∀ k, k < n → (ed k).cells.length ≤ 2 + i ∧ (ed k).reads.length ≤ 2 + i
  sm : ∀ k, k < n → (ed k).gives = (ed0 k).gives ∧ (ed k).takes = (ed0 k).takes ∧ (ed k).spans = (ed0 k).spans
  c1 : ∀ k, k < n → 1 ≤ (ed k).cells.length
/-- one cell x at a, to the first k branches -/
structure ShK (n : Nat) (ed0 ed : Nat → Ed) (scr : Nat → List Itm) (eo : Ed) (P C D : Int → Prop) (i : Nat) (x : Int) (a : Int) (k : Nat) : Prop where
  sep : Sep n ed scr P C D
  un : ∀ i' x, i + 1 ≤ i' → eo.cells[i']? = some x → ∀ k, k < n → ¬ (bfr ed scr k).R x
  cl : ∀ k', k' < n → (ed k').cells.length ≤ 2 + i ∧ (ed k').reads.length ≤ 2 + i + 1 ∧ (k ≤ k' → (ed k').reads.length ≤ 2 + i)
  sm : ∀ k, k < n → (ed k).gives = (ed0 k).gives ∧ (ed k).takes = (ed0 k).takes ∧ (ed k).spans = (ed0 k).spans
  nw : ∀ k', k' < n → ¬ (bfr ed scr k').W x
  nr : ∀ k', k' < n → (bfr ed scr k').R x → a = n ∨ a = k'
  yr : ∀ k' : Nat, k' < n → k' < k → a = k' → x ∈ (ed k').reads
  c1 : ∀ k, k < n → 1 ≤ (ed k).cells.length
section
variable {n : Nat} {ed0 ed : Nat → Ed} {scr : Nat → List Itm} {eo : Ed} {P C D : Int → Prop} {i k : Nat} {x a : Int}
theorem ShI.start (h : ShI n ed0 ed scr eo P C D i) (hx : eo.cells[i]? = some x) : ShK n ed0 ed scr eo P C D i x a 0 :=
  ⟨h.sep, fun i' y hi => h.un i' y (by omega), fun k' hk => ⟨(h.cl k' hk).1, by have := (h.cl k' hk).2; omega, fun _ => (h.cl k' hk).2⟩, h.sm, fun k' hk z => h.un i x (Nat.le_refl i) hx k' hk (h.sep.wr hk x z), fun k' hk z => absurd z (h.un i x (Nat.le_refl i) hx k' hk), fun k' _ hk => absurd hk (Nat.not_lt_zero _), h.c1⟩
theorem ShK.skip (h : ShK n ed0 ed scr eo P C D i x a k) (q : ¬ a = k) : ShK n ed0 ed scr eo P C D i x a (k + 1) :=
  ⟨h.sep, h.un, fun k' hk => ⟨(h.cl k' hk).1, (h.cl k' hk).2.1, fun z => (h.cl k' hk).2.2 (by omega)⟩, h.sm, h.nw, h.nr, fun k' hk hl e => by
    have : k' < k := by
      by_cases z : k' = k
      · subst z; exact absurd e q
      · omega
    exact h.yr k' hk this e, h.c1⟩
theorem ShK.read (h : ShK n ed0 ed scr eo P C D i x a k) (nd : eo.cells.Nodup) (hx : eo.cells[i]? = some x) (hP : P x) (hk : k < n) (q : a = k ∨ a = n) : ShK n ed0 (gset ed k { ed k with reads := (ed k).reads ++ [x] }) scr eo P C D i x a (k + 1) := by
  refine ⟨h.sep.read1 hk hP fun i' hi _ => h.nw i' hi, fun i' y hi hy k' hk' z => ?_, fun k' hk' => ?_, fun k' hk' => ?_, fun k' hk' z => h.nw k' hk' (bfr_readW z), fun k' hk' z => ?_, fun k' hk' hl e => ?_, fun k' hk' => ?_⟩
  · rcases bfr_readR z with z | ⟨_, e⟩
    · exact h.un i' y hi hy k' hk' z
    · subst e
      have := nd_inj nd hx hy
      omega
  · by_cases w : k' = k
    · subst w
      rw [gset_eq]
      have h1 := h.cl k' hk'
      refine ⟨h1.1, ?_, fun z => by omega⟩
      have := h1.2.2 (Nat.le_refl _)
      show ((ed k').reads ++ [x]).length ≤ _
      rw [List.length_append, List.length_singleton]
      omega
    · rw [gset_ne w]
      have h1 := h.cl k' hk'
      exact ⟨h1.1, h1.2.1, fun z => h1.2.2 (by omega)⟩
  · by_cases w : k' = k
    · subst w
      rw [gset_eq]
      exact h.sm k' hk'
    · rw [gset_ne w]
      exact h.sm k' hk'
  · rcases bfr_readR z with z | ⟨e1, _⟩
    · exact h.nr k' hk' z
    · subst e1
      exact q.symm
  · by_cases w : k' = k
    · subst w
      rw [gset_eq]
      exact List.mem_append_right _ (List.mem_singleton.mpr rfl)
    · rw [gset_ne w]
      exact h.yr k' hk' (by omega) e
  · by_cases w : k' = k
    · subst w
      rw [gset_eq]
      exact h.c1 k' hk'
    · rw [gset_ne w]
      exact h.c1 k' hk'
theorem ShK.none (h : ShK n ed0 ed scr eo P C D i x a n) : ShI n ed0 ed scr eo P C D (i + 1) :=
  ⟨h.sep, h.un, fun k hk => ⟨by have := (h.cl k hk).1; omega, by have := (h.cl k hk).2.1; omega⟩, h.sm, h.c1⟩
theorem ShK.cell {j : Nat} (h : ShK n ed0 ed scr eo P C D i x a n) (hj : j < n) (ea : a = j) : ShI n ed0 (gset ed j { ed j with cells := (ed j).cells ++ [x] }) scr eo P C D (i + 1) := by
  refine ⟨h.sep.cell1 hj (h.yr j hj hj ea) (fun z => h.nw j hj (.inl z)) (fun i' hi ne z => ?_), fun i' y hi hy k' hk' z => h.un i' y hi hy k' hk' (bfr_cellR z), fun k' hk' => ?_, fun k' hk' => ?_, fun k' hk' => ?_⟩
  · have := h.nr i' hi z
    omega
  · by_cases w : k' = j
    · subst w
      rw [gset_eq]
      have h1 := h.cl k' hk'
      refine ⟨?_, by have := h1.2.1; show (ed k').reads.length ≤ _; omega⟩
      show ((ed k').cells ++ [x]).length ≤ _
      rw [List.length_append, List.length_singleton]
      omega
    · rw [gset_ne w]
      have h1 := h.cl k' hk'
      exact ⟨by omega, by omega⟩
  · by_cases w : k' = j
    · subst w
      rw [gset_eq]
      exact h.sm k' hk'
    · rw [gset_ne w]
      exact h.sm k' hk'
  · by_cases w : k' = j
    · subst w
      rw [gset_eq]
      show 1 ≤ ((ed k').cells ++ [x]).length
      rw [List.length_append, List.length_singleton]
      omega
    · rw [gset_ne w]
      exact h.c1 k' hk'
end
/-- the shared channels: i of them are given -/
structure ShC (n : Nat) (ed0 ed : Nat → Ed) (scr : Nat → List Itm) (eo : Ed) (P C D : Int → Prop) (i j L : Nat) : Prop where
  sep : Sep n ed scr P C D
  ug : ∀ i' x, i ≤ i' → eo.gives[i']? = some x → ∀ k, k < n → x ∉ (ed k).gives
  ut : ∀ i' x, j ≤ i' → eo.takes[i']? = some x → ∀ k, k < n → x ∉ (ed k).takes
  sm : ∀ k, k < n → (ed k).cells = (ed0 k).cells ∧ (ed k).reads = (ed0 k).reads ∧ (ed k).spans = (ed0 k).spans
  sl : ∀ k, k < n → (scr k).length ≤ L
  ln : ∀ k, k < n → (ed k).gives.length ≤ 24 + i ∧ (ed k).takes.length ≤ 24 + j
section
variable {n : Nat} {ed0 ed : Nat → Ed} {scr : Nat → List Itm} {eo : Ed} {P C D : Int → Prop} {i j L a m : Nat} {x : Int}
theorem ctr_rep {b : Bool} {z : Bool} : ctr (List.replicate m (Itm.gt b x z)) = [] := by
  induction m with
  | zero => rfl
  | succ m ih =>
    simp only [ctr, List.replicate_succ, List.flatMap_cons, ctr1, List.nil_append] at ih ⊢
    exact ih
theorem ShC.give (h : ShC n ed0 ed scr eo P C D i j L) (nd : eo.gives.Nodup) (hx : eo.gives[i]? = some x) (hC : C x) (ha : a < n) (hm : m ≤ 2) : ShC n ed0 (gset ed a { ed a with gives := (ed a).gives ++ [x] }) (gset scr a (scr a ++ List.replicate m (Itm.gt true x true))) eo P C D (i + 1) j (L + 2) := by
  have s1 := h.sep.give1 ha hC (h.ug i x (Nat.le_refl i) hx)
  refine ⟨s1.scr1 ha (fun it hit => ?_) (fun y hy => by rw [ctr_rep] at hy; cases hy) (fun _ _ _ y hy => by rw [ctr_rep] at hy; cases hy), fun i' y hi hy k hk z => ?_, fun i' y hi hy k hk z => ?_, fun k hk => ?_, fun k hk => ?_, fun k hk => ?_⟩
  · rw [(List.mem_replicate.mp hit).2, gset_eq]
    exact ⟨⟨fun _ => List.mem_append_right _ (List.mem_singleton.mpr rfl), fun z => by cases z⟩, fun _ => Nat.le_refl 2⟩
  · by_cases w : k = a
    · subst w
      rw [gset_eq] at z
      rcases mem_snoc z with z | e
      · exact h.ug i' y (by omega) hy k hk z
      · subst e
        have := nd_inj nd hx hy
        omega
    · rw [gset_ne w] at z
      exact h.ug i' y (by omega) hy k hk z
  · by_cases w : k = a
    · subst w
      rw [gset_eq] at z
      exact h.ut i' y hi hy k hk z
    · rw [gset_ne w] at z
      exact h.ut i' y hi hy k hk z
  · by_cases w : k = a
    · subst w
      rw [gset_eq]
      exact h.sm k hk
    · rw [gset_ne w]
      exact h.sm k hk
  · by_cases w : k = a
    · subst w
      rw [gset_eq, List.length_append, List.length_replicate]
      have := h.sl k hk
      omega
    · rw [gset_ne w]
      have := h.sl k hk
      omega
  · by_cases w : k = a
    · subst w
      rw [gset_eq]
      have := h.ln k hk
      refine ⟨?_, ?_⟩
      · show ((ed k).gives ++ [x]).length ≤ _
        rw [List.length_append, List.length_singleton]
        omega
      · exact this.2
    · rw [gset_ne w]
      have := h.ln k hk
      omega
theorem ShC.take (h : ShC n ed0 ed scr eo P C D i j L) (nd : eo.takes.Nodup) (hx : eo.takes[j]? = some x) (hD : D x) (ha : a < n) (hm : m ≤ 2) : ShC n ed0 (gset ed a { ed a with takes := (ed a).takes ++ [x] }) (gset scr a (scr a ++ List.replicate m (Itm.gt false x true))) eo P C D i (j + 1) (L + 2) := by
  have s1 := h.sep.take1 ha hD (h.ut j x (Nat.le_refl j) hx)
  refine ⟨s1.scr1 ha (fun it hit => ?_) (fun y hy => by rw [ctr_rep] at hy; cases hy) (fun _ _ _ y hy => by rw [ctr_rep] at hy; cases hy), fun i' y hi hy k hk z => ?_, fun i' y hi hy k hk z => ?_, fun k hk => ?_, fun k hk => ?_, fun k hk => ?_⟩
  · rw [(List.mem_replicate.mp hit).2, gset_eq]
    exact ⟨⟨(fun z => by cases z), fun _ => List.mem_append_right _ (List.mem_singleton.mpr rfl)⟩, fun _ => Nat.le_refl 2⟩
  · by_cases w : k = a
    · subst w
      rw [gset_eq] at z
      exact h.ug i' y hi hy k hk z
    · rw [gset_ne w] at z
      exact h.ug i' y hi hy k hk z
  · by_cases w : k = a
    · subst w
      rw [gset_eq] at z
      rcases mem_snoc z with z | e
      · exact h.ut i' y (by omega) hy k hk z
      · subst e
        have := nd_inj nd hx hy
        omega
    · rw [gset_ne w] at z
      exact h.ut i' y (by omega) hy k hk z
  · by_cases w : k = a
    · subst w
      rw [gset_eq]
      exact h.sm k hk
    · rw [gset_ne w]
      exact h.sm k hk
  · by_cases w : k = a
    · subst w
      rw [gset_eq, List.length_append, List.length_replicate]
      have := h.sl k hk
      omega
    · rw [gset_ne w]
      have := h.sl k hk
      omega
  · by_cases w : k = a
    · subst w
      rw [gset_eq]
      have := h.ln k hk
      refine ⟨?_, ?_⟩
      · exact this.1
      · show ((ed k).takes ++ [x]).length ≤ _
        rw [List.length_append, List.length_singleton]
        omega
    · rw [gset_ne w]
      have := h.ln k hk
      omega
end
theorem ixN_nat {n j : Nat} (h : j < n) : ixN n (j : Int) = some j := by
  unfold ixN
  rw [if_pos (by omega), if_pos (by omega)]
  congr 1
theorem reps_snoc {m : Nat} {x : Itm} : List.replicate (m + 1) x = List.replicate m x ++ [x] := List.replicate_succ'
def sp_shared : Sp := fun vs H Q _ => ∃ (st c wa ch SA EA : Addr) (n : Nat) (ea : Nat → Ea) (la : Nat → Addr) (ed : Nat → Ed) (scr : Nat → List Itm) (τ : Tau) (H0 : Hp) (d : Wd) (a : Ea) (eo : Ed) (P C D : Int → Prop), vs = [.ref st, .ref a.e, .ref EA, .ref SA] ∧ 1 ≤ n ∧ n ≤ 4 ∧ GS st c wa ch SA EA n ea la ed scr τ 1000 H0 H d ∧
  EIn a eo H0 ∧ a.out (Mw st c wa ch) ∧ Sep n ed scr P C D ∧ eo.cells.Nodup ∧ eo.gives.Nodup ∧ eo.takes.Nodup ∧ eo.cells.length ≤ 20 ∧ eo.gives.length ≤ 24 ∧ eo.takes.length ≤ 24 ∧ (∀ x ∈ eo.cells, P x ∧ ∀ k, k < n → ¬ (bfr ed scr k).R x) ∧ (∀ x ∈ eo.gives, C x ∧ ∀ k, k < n → x ∉ (ed k).gives) ∧ (∀ x ∈ eo.takes, D x ∧ ∀ k, k < n → x ∉ (ed k).takes) ∧
  (∀ k, k < n → (scr k).length ≤ 30) ∧ (∀ k, k < n → (ed k).gives.length ≤ 24 ∧ (ed k).takes.length ≤ 24) ∧ (∀ k, k < n → 1 ≤ (ed k).cells.length ∧ (ed k).cells.length ≤ 2 ∧ (ed k).reads.length ≤ 2) ∧
  ∀ (ed' : Nat → Ed) (la' : Nat → Addr) (scr' : Nat → List Itm) (τ' : Tau) (H' : Hp), TgLe τ τ' → GS st c wa ch SA EA n ea la' ed' scr' τ' 1000 H0 H' d → Sep n ed' scr' P C D → (∀ k, k < n → 1 ≤ (ed' k).cells.length ∧ (ed' k).cells.length ≤ 2 + eo.cells.length ∧ (ed' k).reads.length ≤ 2 + eo.cells.length ∧ (ed' k).spans = (ed k).spans) → (∀ k, k < n → (scr' k).length ≤ 200) → Q .non H'
theorem ok_shared (T : Glo K w mg) (D : Dn K mg "_law_shared" s__law_shared p__law_shared) (G__law_draw : Cal P w K mg base "_law_draw" 1 p__law_draw sp_draw) :
    Cal P w K mg base "_law_shared" 2 p__law_shared sp_shared := by
  refine D.ok sc__law_shared (fun vs H Q E h => ?_) (fun f cdv A outer s H vs Q E hr h => ?_)
  · obtain ⟨_, _, _, _, _, _, _, _, _, _, _, _, _, _, _, _, _, _, _, rfl, _⟩ := h
    rfl
  obtain ⟨st, c, wa, ch, SA, EA, n, ea, la, ed0, scr0, τ0, H0, d, a, eo, PP, CC, DD, rfl, hn1, hn4, gs, ei0, ao, sep, ncs, ngs, nts, lcs, lgs, lts, hcs, hgs, hts, hsl, hgt, hcr, q⟩ := h
  refine ⟨_, (pss_cons (ps_for PassesOwn.never rfl (pi_list (pe_dget (hu_of hr) (pv 1) pe_str (fun _ _ => rfl))) (pg_name (i := 4) sc__law_shared.nd rfl (by first | exact Or.inl rfl | exact Or.inr rfl)) (pss_cons (ps_set (i := 6) sc__law_shared.nd rfl (by first | exact Or.inl rfl | exact Or.inr rfl) (pe_cal G__law_draw (hr.mono (by (first | subst "lev" | fail))) rfl (pa_cons (pv 0) (pa_cons (pe_op op_addA (pe_callB call_lenA rfl T.n_len (by decide +kernel) (pa_cons (pv 2) pa_nil)) pe_int) pa_nil)))) (pss_cons (ps_for PassesOwn.never rfl (pi_range1 rfl T.n_range (pa_cons (pe_callB call_lenA rfl T.n_len (by decide +kernel) (pa_cons (pv 2) pa_nil)) pa_nil)) (pg_name (i := 7) sc__law_shared.nd rfl (by first | exact Or.inl rfl | exact Or.inr rfl)) (pss_one (ps_if (pt_cmpR op_in_seq (pv 6) (pe_tup (pa_cons (pv 7) (pa_cons (pe_callB call_lenA rfl T.n_len (by decide +kernel) (pa_cons (pv 2) pa_nil)) pa_nil))) (by rfl)) (pss_one (ps_expr (pe_bm PySem.F.plainAttrs_list PySem.F.slot_list_append PySem.F.type_list_append mt_append (pe_dget (hu_of hr) (pe_ix ix_seq (pv 2) (pv 7) (fun _ _ => rfl)) pe_str (fun _ _ => rfl)) (pa_cons (pv 4) pa_nil)))) pss_nil))) (pss_one (ps_if (pt_cmpR op_lt (pv 6) (pe_callB call_lenA rfl T.n_len (by decide +kernel) (pa_cons (pv 2) pa_nil)) (nomark _)) (pss_one (ps_expr (pe_bm PySem.F.plainAttrs_list PySem.F.slot_list_append PySem.F.type_list_append mt_append (pe_dget (hu_of hr) (pe_ix ix_seq (pv 2) (pv 6) (fun _ _ => rfl)) pe_str (fun _ _ => rfl)) (pa_cons (pv 4) pa_nil)))) pss_nil))))) (pss_cons (ps_for PassesOwn.never rfl (pi_list (pe_dget (hu_of hr) (pv 1) pe_str (fun _ _ => rfl))) (pg_name (i := 5) sc__law_shared.nd rfl (by first | exact Or.inl rfl | exact Or.inr rfl)) (pss_cons (ps_set (i := 6) sc__law_shared.nd rfl (by first | exact Or.inl rfl | exact Or.inr rfl) (pe_cal G__law_draw (hr.mono (by (first | subst "lev" | fail))) rfl (pa_cons (pv 0) (pa_cons (pe_callB call_lenA rfl T.n_len (by decide +kernel) (pa_cons (pv 2) pa_nil)) pa_nil)))) (pss_cons (ps_expr (pe_bm PySem.F.plainAttrs_list PySem.F.slot_list_append PySem.F.type_list_append mt_append (pe_dget (hu_of hr) (pe_ix ix_seq (pv 2) (pv 6) (fun _ _ => rfl)) pe_str (fun _ _ => rfl)) (pa_cons (pv 5) pa_nil))) (pss_one (ps_asg (pe_op op_addA (pe_ix ix_seq (pv 3) (pv 6) (fun _ _ => rfl)) (pe_lc (own := [("k", 7)]) (tt := tYes) rfl sc__law_shared.nd (pi_range1 rfl T.n_range (pa_cons (pe_cal G__law_draw (hr.mono (by (first | subst "lev" | fail))) rfl (pa_cons (pv 0) (pa_cons pe_int pa_nil))) pa_nil)) (blkOk_by (N := ["state", "env", "envs", "scripts", "cell", "c", "at", "k"]) (sc := defScope s__law_shared) (by decide +kernel)) (fun _ _ _ _ _ => (pg_name (i := 7) sc__law_shared.nd rfl (by first | exact Or.inl rfl | exact Or.inr rfl))) (fun _ _ _ _ _ => pts_nil) (fun _ _ _ _ _ => (pe_tup (pa_cons pe_str (pa_cons (pv 5) (pa_cons pe_str pa_nil))))))) (pg_sub (pv 3) (pv 6) set_list)))))) (pss_one (ps_for PassesOwn.never rfl (pi_list (pe_dget (hu_of hr) (pv 1) pe_str (fun _ _ => rfl))) (pg_name (i := 5) sc__law_shared.nd rfl (by first | exact Or.inl rfl | exact Or.inr rfl)) (pss_cons (ps_set (i := 6) sc__law_shared.nd rfl (by first | exact Or.inl rfl | exact Or.inr rfl) (pe_cal G__law_draw (hr.mono (by (first | subst "lev" | fail))) rfl (pa_cons (pv 0) (pa_cons (pe_callB call_lenA rfl T.n_len (by decide +kernel) (pa_cons (pv 2) pa_nil)) pa_nil)))) (pss_cons (ps_expr (pe_bm PySem.F.plainAttrs_list PySem.F.slot_list_append PySem.F.type_list_append mt_append (pe_dget (hu_of hr) (pe_ix ix_seq (pv 2) (pv 6) (fun _ _ => rfl)) pe_str (fun _ _ => rfl)) (pa_cons (pv 5) pa_nil))) (pss_one (ps_asg (pe_op op_addA (pe_ix ix_seq (pv 3) (pv 6) (fun _ _ => rfl)) (pe_lc (own := [("k", 7)]) (tt := tYes) rfl sc__law_shared.nd (pi_range1 rfl T.n_range (pa_cons (pe_cal G__law_draw (hr.mono (by (first | subst "lev" | fail))) rfl (pa_cons (pv 0) (pa_cons pe_int pa_nil))) pa_nil)) (blkOk_by (N := ["state", "env", "envs", "scripts", "cell", "c", "at", "k"]) (sc := defScope s__law_shared) (by decide +kernel)) (fun _ _ _ _ _ => (pg_name (i := 7) sc__law_shared.nd rfl (by first | exact Or.inl rfl | exact Or.inr rfl))) (fun _ _ _ _ _ => pts_nil) (fun _ _ _ _ _ => (pe_tup (pa_cons pe_str (pa_cons (pv 5) (pa_cons pe_str pa_nil))))))) (pg_sub (pv 3) (pv 6) set_list))))))))), ?_⟩
  try dsimp only [cxOf, Cx.nox]
  have fln : (frow la n).length = n := frow_len
  have fle : (frow (fun k => (ea k).e) n).length = n := frow_len
  obtain ⟨⟨ko, o1, o2, o3, o4, o5, o6, o7⟩, oc, or0, og, ot, os⟩ := ei0.kp gs.kp ao
  have so := gs.so
  have nts2 : ∀ {x : Addr} {t : Nat × Nat}, τ0 x = some t → 20 ≤ t.1 → x ∉ [st, c] := fun {x t} hx h z => by
    have t1 := gs.t1
    have t2 := gs.t2
    simp only [List.mem_cons, List.not_mem_nil, or_false] at z
    rcases z with rfl | rfl
    · rw [t1] at hx; cases hx; simp at h
    · rw [t2] at hx; cases hx; simp at h
  have nEA : EA ∉ [st, c] := nts2 gs.tE (by simp)
  have nSA : SA ∉ [st, c] := nts2 gs.tS (by simp)
  repeat' (first | specialize "st" | fail)
  refine w_list (xs := eo.cells.map V.int) (fun i σ H' => ∃ (x4 x5 x6 x7 : Option V) (ed : Nat → Ed), σ = [some (.ref st), some (.ref a.e), some (.ref EA), some (.ref SA), x4, x5, x6, x7] ∧ GS st c wa ch SA EA n ea la ed scr0 τ0 1000 H0 H' d ∧ ShI n ed0 ed scr0 eo PP CC DD i) ?_ ?_ ?_ ?_
  · exact ⟨none, none, none, none, ed0, rfl, gs, ⟨sep, fun i' x _ hx => (hcs x (List.mem_of_getElem? hx)).2, fun k hk => by have := hcr k hk; omega, fun _ _ => ⟨rfl, rfl, rfl⟩, fun k hk => (hcr k hk).1⟩⟩
  · rintro i σ H' _ ⟨x4, x5, x6, x7, ed, rfl, g, _⟩
    exact sql (ei0.kp g.kp ao).hc
  · rintro i x σ H' hx ⟨x4, x5, x6, x7, ed, rfl, g, hi⟩
    rw [List.getElem?_map] at hx
    obtain ⟨cell, hcell, rfl⟩ := Option.map_eq_some_iff.mp hx
    have hPc := (hcs cell (List.mem_of_getElem? hcell)).1
    clear o1 oc or0 og ot os so gs sep
    have hEA := g.hE
    have so := g.so
    repeat' (first | specialize "st" | fail)
    have g2 := g.draw ke so
    clear g so hEA
    obtain ⟨j, rfl⟩ : ∃ j : Nat, dn = (j : Int) := ⟨dn.toNat, by omega⟩
    have hj1 : j ≤ n := by
      rw [fle] at n1
      omega
    refine w_rng (lo := 0) (n := _) (fun k σ H' => ∃ (x7 : Option V) (ed : Nat → Ed), σ = [some (.ref st), some (.ref a.e), some (.ref EA), some (.ref SA), some (.int cell), x5, some (.int (j : Int)), x7] ∧ GS st c wa ch SA EA n ea la ed scr0 τ0 1000 H0 H' d ∧ ShK n ed0 ed scr0 eo PP CC DD i cell (j : Int) k) ?_ ?_ ?_
    · exact ⟨x7, ed, rfl, g2, hi.start hcell⟩
    · rintro k σ H' hk ⟨x7, ed, rfl, g, hK⟩
      clear g2
      have hkn : k < n := by
        rw [fle] at hk
        omega
      have hEA := g.hE
      have tEA := g.tE
      obtain ⟨tg1, _, tg3, _⟩ := g.te k hkn
      obtain ⟨⟨kg, hge, _, _, hgr, _⟩, _, hgl, _, _, _⟩ := g.ee k hkn
      have hrl : (ed k).reads.length ≤ 100 := by
        have h1 := (hK.cl k hkn).2.1
        have h2 := (List.getElem?_eq_some_iff.mp hcell).1
        omega
      iterate 16 ((first | specialize "st" | fail))
      refine q_inT (sqt hn) rfl rfl ?_
      cases hb : inV (.int (j : Int)) [.int (0 + (k : Int)), .int ((frow (fun k => (ea k).e) n).length : Int)] with
      | true =>
        have hq : (j : Int) = k ∨ (j : Int) = n := by
          rw [fle] at hb
          simp [inV, eqV] at hb
          omega
        repeat' (first | specialize "st" | fail)
        refine q_ixL (sql (by (first | exists "lift" | fail))) (frow_atI hkn) ?_
        repeat' (first | specialize "st" | fail)
        rename_i A1
        have g3 := g.ex ke
        exact ⟨_, _, rfl, g3.env hkn ku (fsome hu) tg3 (by decide) (by decide) ((g3.ee k hkn).reads (g3.te k hkn) ku (cs := (ed k).reads ++ [cell]) (by rw [List.map_append]; exact hu)), hK.read ncs hcell hPc hkn hq⟩
      | false =>
        have hq : ¬ (j : Int) = k := by
          rw [fle] at hb
          simp [inV, eqV] at hb
          omega
        repeat' (first | specialize "st" | fail)
        exact ⟨_, ed, rfl, g.ex ke, hK.skip hq⟩
    · rintro σ H' ⟨x7, ed, rfl, g, hK⟩
      have e1 : (((frow (fun k => (ea k).e) n).length : Int)).toNat = n := by
        rw [fle]
        omega
      rw [e1] at hK
      have hEA := g.hE
      have tEA := g.tE
      by_cases hjn : j < n
      · obtain ⟨tg1, tg2, _⟩ := g.te j hjn
        obtain ⟨⟨kg, hge, _, hgc, _⟩, hgl, _⟩ := g.ee j hjn
        have hrl : (ed j).cells.length ≤ 100 := by
          have h1 := (hK.cl j hjn).1
          have h2 := (List.getElem?_eq_some_iff.mp hcell).1
          omega
        repeat' (first | specialize "st" | fail)
        refine q_ixL (sql hEA) (atI_nat (frow_at hjn)) ?_
        repeat' (first | specialize "st" | fail)
        exact ⟨_, _, _, _, _, rfl, g.env hjn ku (fsome hu) tg2 (by decide) (by decide) ((g.ee j hjn).cells (g.te j hjn) ku (cs := (ed j).cells ++ [cell]) (by rw [List.map_append]; exact hu)), hK.cell hjn rfl⟩
      · repeat' (first | specialize "st" | fail)
        exact ⟨_, _, _, _, ed, rfl, g, hK.none⟩
  · rintro σ H' ⟨x4, x5, x6, x7, ed1, rfl, g, hi⟩
    rw [List.length_map] at hi
    have oo := ei0.kp g.kp ao
    obtain ⟨⟨ko, o1, o2, o3, o4, o5, o6, o7⟩, oc, or0, og, ot, os⟩ := oo
    have c0 : ShC n ed1 ed1 scr0 eo PP CC DD 0 0 30 := ⟨hi.sep, fun i' x _ hx k hk => by rw [(hi.sm k hk).1]; exact (hgs x (List.mem_of_getElem? hx)).2 k hk, fun i' x _ hx k hk => by rw [(hi.sm k hk).2.1]; exact (hts x (List.mem_of_getElem? hx)).2 k hk, fun k hk => ⟨rfl, rfl, rfl⟩, hsl, fun k hk => by
      rw [(hi.sm k hk).1, (hi.sm k hk).2.1]
      exact hgt k hk⟩
    clear gs sep so
    repeat' (first | specialize "st" | fail)
    refine w_list (xs := eo.gives.map V.int) (fun i σ H' => ∃ (x4 x5 x6 x7 : Option V) (τ : Tau) (la : Nat → Addr) (ed : Nat → Ed) (scr : Nat → List Itm), σ = [some (.ref st), some (.ref a.e), some (.ref EA), some (.ref SA), x4, x5, x6, x7] ∧ TgLe τ0 τ ∧ GS st c wa ch SA EA n ea la ed scr τ 1000 H0 H' d ∧ ShC n ed1 ed scr eo PP CC DD i 0 (30 + 2 * i)) ?_ ?_ ?_ ?_
    · exact ⟨_, _, _, _, τ0, la, ed1, scr0, rfl, TgLe.refl _, g, c0⟩
    · rintro i σ H' _ ⟨x4, x5, x6, x7, τ, la, ed, scr, rfl, le, g, _⟩
      exact sql (ei0.kp g.kp ao).hg
    · rintro i x σ H' hx ⟨x4, x5, x6, x7, τ, la, ed, scr, rfl, le, g, hc⟩
      rw [List.getElem?_map] at hx
      obtain ⟨cn, hcn, rfl⟩ := Option.map_eq_some_iff.mp hx
      have hCc := (hgs cn (List.mem_of_getElem? hcn)).1
      have hi24 : i < 24 := by
        have := (List.getElem?_eq_some_iff.mp hcn).1
        omega
      clear c0 o1 oc or0 og ot os
      have hEA := g.hE
      have so := g.so
      iterate 15 ((first | specialize "st" | fail))
      rw [fle] at n1
      obtain ⟨j, rfl⟩ : ∃ j : Nat, dn = (j : Int) := ⟨dn.toNat, by omega⟩
      have hj : j < n := by omega
      have g2 := g.draw ke so
      obtain ⟨H2, rfl⟩ : ∃ x, x = Hn := ⟨_, rfl⟩
      clear hEA ke so
      have hEA := g2.hE
      have tEA := g2.tE
      obtain ⟨tg1, _, _, _, tg5, _⟩ := g2.te j hj
      obtain ⟨⟨kg, hge, _, _, _, _, hgg, _⟩, _, _, hgl, _, _⟩ := g2.ee j hj
      have hrl : (ed j).gives.length ≤ 100 := by
        have h1 := (hc.ln j hj).1
        omega
      repeat' (first | specialize "st" | fail)
      refine q_ixL (sql hEA) (atI_nat (frow_at hj)) ?_
      repeat' (first | specialize "st" | fail)
      have g3 := g2.env hj ku (fsome hu) tg5 (by decide) (by decide) ((g2.ee j hj).gives (g2.te j hj) ku (cs := (ed j).gives ++ [cn]) (by rw [List.map_append]; exact hu))
      obtain ⟨H3, rfl⟩ : ∃ x, x = Hn := ⟨_, rfl⟩
      clear g2 g hEA hge hgl ku hu
      have hSA := g3.hS
      have so := g3.so
      refine q_ixL (sql hSA) (atI_nat (frow_at hj)) ?_
      repeat' (first | specialize "st" | fail)
      have g4 := g3.draw ke so
      obtain ⟨H4, rfl⟩ : ∃ x, x = Hn := ⟨_, rfl⟩
      clear hSA ke so g3
      obtain ⟨ys, hy1, hy2⟩ := g4.ll j hj
      have hyl : ys.length ≤ 200 := by
        rw [Paired.length hy2]
        exact Nat.le_trans (hc.sl j hj) (by omega)
      have flj : (frow la n).length = n := frow_len
      intro L hL
      have tL : τ L = none := g4.tg.none hL
      refine lc_range (lo := 0) (n := _) (fun m H' => Ex H4 H' ∧ ∃ ts, H' L = some (.lst ts) ∧ ItsT τ 1000 H' ts (List.replicate m (Itm.gt true cn true))) ?_ ?_ ?_
      · exact ⟨Ex.mk hL rfl, [], upd_same, .nil⟩
      · rintro m H' hm ⟨e, ts, h1, h2⟩
        have hlt : ts.length = m := by
          rw [Paired.length h2, List.length_replicate]
        refine ⟨rfl, ?_⟩
        repeat' (first | specialize "st" | fail)
        have h1' := ke _ _ h1
        refine ⟨ts, h1', sl1000' (by omega), ?_⟩
        generalize hq : upd Hn L _ = H9
        have k9 := kp_upd h1' hq
        refine ⟨fun b u hb => k9.out _ _ (nin_c (ne_of_none hb hL) List.not_mem_nil) (ke _ _ (e _ _ hb)), ts ++ [.ref p], at_new hq, ?_⟩
        rw [reps_snoc]
        exact pair_app (Paired.mapP h2 fun v it q => (q.up (N := []) ke.kp (TgLe.refl _) (Nat.le_refl _) (fun x hx => by cases hx)).up k9 (TgLe.refl _) (Nat.le_refl _) fun x hx j' hj' => by
          rw [List.mem_singleton.mp hx, tL] at hj'
          cases hj') (.cons ⟨p, rfl, k9.tup _ _ hn⟩ .nil)
      · rintro H5 ⟨e, ts, h1, h2⟩
        have hm2 : dn.toNat ≤ 2 := by omega
        have g5 := g4.ex e
        have hlt : ts.length ≤ 2 := by
          rw [Paired.length h2, List.length_replicate]
          exact hm2
        have hy1' := e _ _ hy1
        have hy2' : ItsT τ 1000 H5 ys (scr j) := Paired.mapP hy2 fun v it q => q.up (N := []) e.kp (TgLe.refl _) (Nat.le_refl _) (fun x hx => by cases hx)
        clear g4 hy1 hy2 e
        repeat' (first | specialize "st" | fail)
        obtain ⟨τ2, l2, tp, g6⟩ := g5.new ke hp (fsome hn) (26, j)
        refine q_setLN (xs := frow la n) (j := j) g6.hS (by rw [flj]; exact ixN_nat hj) ?_
        intro Hm ku hu
        rw [frow_gset hj] at hu
        have hpm : Hm p = some (.lst (ys ++ ts)) := ku.out _ _ (fun z => by
          rw [List.mem_singleton.mp z, g6.tS] at tp
          cases tp) hn
        have sw : ∀ {xs : List V} {its : List Itm}, ItsT τ 1000 H5 xs its → ItsT τ2 1000 Hm xs its := fun h => Paired.mapP h fun v it q => (q.up (N := []) ke.kp l2 (Nat.le_refl _) (fun x hx => by cases hx)).up ku (TgLe.refl _) (Nat.le_refl _) fun x hx j' hj' => by
          rw [List.mem_singleton.mp hx, g6.tS] at hj'
          cases hj'
        have hc2 := hc.give (m := dn.toNat) ngs hcn hCc hj hm2
        exact ⟨_, _, _, _, τ2, gset la j p, _, _, rfl, le.trans l2, g6.relist hj ku hu tp hpm (pair_app (sw hy2') (sw h2)), hc2⟩
    · rintro σ H' ⟨x4, x5, x6, x7, τ, la, ed, scr, rfl, le, g, hc⟩
      rw [List.length_map] at hc
      clear c0 o1 oc or0 og ot os
      obtain ⟨⟨ko, o1, o2, o3, o4, o5, o6, o7⟩, oc, or0, og, ot, os⟩ := ei0.kp g.kp ao
      repeat' (first | specialize "st" | fail)
      refine w_list (xs := eo.takes.map V.int) (fun i σ H' => ∃ (x4 x5 x6 x7 : Option V) (τ : Tau) (la : Nat → Addr) (ed : Nat → Ed) (scr : Nat → List Itm), σ = [some (.ref st), some (.ref a.e), some (.ref EA), some (.ref SA), x4, x5, x6, x7] ∧ TgLe τ0 τ ∧ GS st c wa ch SA EA n ea la ed scr τ 1000 H0 H' d ∧ ShC n ed1 ed scr eo PP CC DD eo.gives.length i (30 + 2 * eo.gives.length + 2 * i)) ?_ ?_ ?_ ?_
      · exact ⟨_, _, _, _, τ, la, ed, scr, rfl, le, g, hc⟩
      · rintro i σ H' _ ⟨x4, x5, x6, x7, τ, la, ed, scr, rfl, le, g, _⟩
        exact sql (ei0.kp g.kp ao).ht
      · rintro i x σ H' hx ⟨x4, x5, x6, x7, τ, la, ed, scr, rfl, le, g, hc⟩
        rw [List.getElem?_map] at hx
        obtain ⟨cn, hcn, rfl⟩ := Option.map_eq_some_iff.mp hx
        have hCc := (hts cn (List.mem_of_getElem? hcn)).1
        have hi24 : i < 24 := by
          have := (List.getElem?_eq_some_iff.mp hcn).1
          omega
        clear o1 oc or0 og ot os
        have hEA := g.hE
        have so := g.so
        iterate 15 ((first | specialize "st" | fail))
        rw [fle] at n1
        obtain ⟨j, rfl⟩ : ∃ j : Nat, dn = (j : Int) := ⟨dn.toNat, by omega⟩
        have hj : j < n := by omega
        have g2 := g.draw ke so
        obtain ⟨H2, rfl⟩ : ∃ x, x = Hn := ⟨_, rfl⟩
        clear hEA ke so
        have hEA := g2.hE
        have tEA := g2.tE
        obtain ⟨tg1, _, _, _, _, tg5⟩ := g2.te j hj
        obtain ⟨⟨kg, hge, _, _, _, _, _, hgg⟩, _, _, _, hgl, _⟩ := g2.ee j hj
        have hrl : (ed j).takes.length ≤ 100 := by
          have h1 := (hc.ln j hj).2
          omega
        repeat' (first | specialize "st" | fail)
        refine q_ixL (sql hEA) (atI_nat (frow_at hj)) ?_
        repeat' (first | specialize "st" | fail)
        have g3 := g2.env hj ku (fsome hu) tg5 (by decide) (by decide) ((g2.ee j hj).takes (g2.te j hj) ku (cs := (ed j).takes ++ [cn]) (by rw [List.map_append]; exact hu))
        obtain ⟨H3, rfl⟩ : ∃ x, x = Hn := ⟨_, rfl⟩
        clear g2 g hEA hge hgl ku hu
        have hSA := g3.hS
        have so := g3.so
        refine q_ixL (sql hSA) (atI_nat (frow_at hj)) ?_
        repeat' (first | specialize "st" | fail)
        have g4 := g3.draw ke so
        obtain ⟨H4, rfl⟩ : ∃ x, x = Hn := ⟨_, rfl⟩
        clear hSA ke so g3
        obtain ⟨ys, hy1, hy2⟩ := g4.ll j hj
        have hyl : ys.length ≤ 200 := by
          rw [Paired.length hy2]
          exact Nat.le_trans (hc.sl j hj) (by omega)
        have flj : (frow la n).length = n := frow_len
        intro L hL
        have tL : τ L = none := g4.tg.none hL
        refine lc_range (lo := 0) (n := _) (fun m H' => Ex H4 H' ∧ ∃ ts, H' L = some (.lst ts) ∧ ItsT τ 1000 H' ts (List.replicate m (Itm.gt false cn true))) ?_ ?_ ?_
        · exact ⟨Ex.mk hL rfl, [], upd_same, .nil⟩
        · rintro m H' hm ⟨e, ts, h1, h2⟩
          have hlt : ts.length = m := by
            rw [Paired.length h2, List.length_replicate]
          refine ⟨rfl, ?_⟩
          repeat' (first | specialize "st" | fail)
          have h1' := ke _ _ h1
          refine ⟨ts, h1', sl1000' (by omega), ?_⟩
          generalize hq : upd Hn L _ = H9
          have k9 := kp_upd h1' hq
          refine ⟨fun b u hb => k9.out _ _ (nin_c (ne_of_none hb hL) List.not_mem_nil) (ke _ _ (e _ _ hb)), ts ++ [.ref p], at_new hq, ?_⟩
          rw [reps_snoc]
          exact pair_app (Paired.mapP h2 fun v it q => (q.up (N := []) ke.kp (TgLe.refl _) (Nat.le_refl _) (fun x hx => by cases hx)).up k9 (TgLe.refl _) (Nat.le_refl _) fun x hx j' hj' => by
            rw [List.mem_singleton.mp hx, tL] at hj'
            cases hj') (.cons ⟨p, rfl, k9.tup _ _ hn⟩ .nil)
        · rintro H5 ⟨e, ts, h1, h2⟩
          have hm2 : dn.toNat ≤ 2 := by omega
          have g5 := g4.ex e
          have hlt : ts.length ≤ 2 := by
            rw [Paired.length h2, List.length_replicate]
            exact hm2
          have hy1' := e _ _ hy1
          have hy2' : ItsT τ 1000 H5 ys (scr j) := Paired.mapP hy2 fun v it q => q.up (N := []) e.kp (TgLe.refl _) (Nat.le_refl _) (fun x hx => by cases hx)
          clear g4 hy1 hy2 e
          repeat' (first | specialize "st" | fail)
          obtain ⟨τ2, l2, tp, g6⟩ := g5.new ke hp (fsome hn) (26, j)
          refine q_setLN (xs := frow la n) (j := j) g6.hS (by rw [flj]; exact ixN_nat hj) ?_
          intro Hm ku hu
          rw [frow_gset hj] at hu
          have hpm : Hm p = some (.lst (ys ++ ts)) := ku.out _ _ (fun z => by
            rw [List.mem_singleton.mp z, g6.tS] at tp
            cases tp) hn
          have sw : ∀ {xs : List V} {its : List Itm}, ItsT τ 1000 H5 xs its → ItsT τ2 1000 Hm xs its := fun h => Paired.mapP h fun v it q => (q.up (N := []) ke.kp l2 (Nat.le_refl _) (fun x hx => by cases hx)).up ku (TgLe.refl _) (Nat.le_refl _) fun x hx j' hj' => by
            rw [List.mem_singleton.mp hx, g6.tS] at hj'
            cases hj'
          have hc2 := hc.take (m := dn.toNat) nts hcn hCc hj hm2
          exact ⟨_, _, _, _, τ2, gset la j p, _, _, rfl, le.trans l2, g6.relist hj ku hu tp hpm (pair_app (sw hy2') (sw h2)), hc2⟩
      · rintro σ H' ⟨x4, x5, x6, x7, τ', la', ed', scr', rfl, le', g', hc'⟩
        rw [List.length_map] at hc'
        exact q ed' la' scr' τ' H' le' g' hc'.sep (fun k hk => by
          obtain ⟨e1, e2, e3⟩ := hc'.sm k hk
          have h1 := hi.cl k hk
          rw [e1, e2, e3]
          exact ⟨hi.c1 k hk, h1.1, h1.2, (hi.sm k hk).2.2⟩) (fun k hk => Nat.le_trans (hc'.sl k hk) (by omega))
abbrev s__law_par : Stmt := topS 36
theorem sc__law_par : FnScope ["state", "env", "world", "deep", "many", "envs", "scripts", "rows", "k", "thread", "script", "at"] ["state", "env", "world", "deep"] (defScope s__law_par) := ⟨rfl, rfl, rfl, by decide +kernel, rfl, by decide +kernel, by decide +kernel⟩
abbrev p__law_par : List Str := ["state", "env", "world", "deep"]
theorem c_env {st c wa ch : Addr} {d : Wd} {H : Hp} {Q : VK} {E : XK} (so : StOk st c H) (wi : WIn wa ch d H) (nw : wa ∉ [st, c]) (nc : ch ∉ [st, c]) (c0 : 0 ≤ d.cells) (c1 : d.cells ≤ 2000)
    (q : ∀ (a : Ea) (ed : Ed) (m : Int) (H' : Hp), (∀ x ∈ a.all, H x = none) → a.all.Nodup → EIn a ed H' → ed.fresh d.cells m → Kp [st, c, wa] H H' → StOk st c H' → WIn wa ch { d with cells := m } H' → Q (.ref a.e) H') : sp_env [.ref st, .ref wa] H Q E := ⟨st, c, wa, ch, d, rfl, so, wi, nw, nc, c0, c1, q⟩
/-- the ground on which branches are built -/
structure G0 (st c wa ch : Addr) (τ : Tau) (H0 H : Hp) (d : Wd) : Prop where
  kp : Kp (Mw st c wa ch) H0 H
  so : StOk st c H
  wi : WIn wa ch d H
  tg : TgOk τ H
  fr : ∀ x t, τ x = some t → 20 ≤ t.1 → H0 x = none
  t1 : τ st = some (7, 0)
  t2 : τ c = some (7, 1)
  t3 : τ wa = some (8, 0)
  t4 : τ ch = some (8, 1)
section
variable {st c wa ch : Addr} {τ τ' : Tau} {H0 H H' : Hp} {d d' : Wd}
theorem G0.start (so : StOk st c H) (wi : WIn wa ch d H) (nw : wa ∉ [st, c]) (nc : ch ∉ [st, c]) : ∃ τ, G0 st c wa ch τ H H d := by
  have h1 : c ≠ st := so.ne
  have h2 : wa ≠ ch := wi.ne
  simp only [List.mem_cons, List.not_mem_nil, or_false, not_or] at nw nc
  refine ⟨fun x => if x = st then some (7, 0) else if x = c then some (7, 1) else if x = wa then some (8, 0) else if x = ch then some (8, 1) else none, Kp.refl _, so, wi, fun x t hx => ?_, fun x t hx h20 => ?_, if_pos rfl, ?_, ?_, ?_⟩
  · obtain ⟨⟨ns, z, a, b, e⟩, f⟩ := so
    have hx' : (if x = st then some (7, 0) else if x = c then some (7, 1) else if x = wa then some (8, 0) else if x = ch then some (8, 1) else none) = some t := hx
    by_cases q1 : x = st
    · rw [q1]; exact fsome a
    · rw [if_neg q1] at hx'
      by_cases q2 : x = c
      · rw [q2]; exact fsome b
      · rw [if_neg q2] at hx'
        by_cases q3 : x = wa
        · rw [q3]; exact wi.al.1
        · rw [if_neg q3] at hx'
          by_cases q4 : x = ch
          · rw [q4]; exact wi.al.2
          · rw [if_neg q4] at hx'; cases hx'
  · have hx' : (if x = st then some (7, 0) else if x = c then some (7, 1) else if x = wa then some (8, 0) else if x = ch then some (8, 1) else none) = some t := hx
    exfalso
    by_cases q1 : x = st
    · rw [if_pos q1] at hx'; cases hx'; simp at h20
    · rw [if_neg q1] at hx'
      by_cases q2 : x = c
      · rw [if_pos q2] at hx'; cases hx'; simp at h20
      · rw [if_neg q2] at hx'
        by_cases q3 : x = wa
        · rw [if_pos q3] at hx'; cases hx'; simp at h20
        · rw [if_neg q3] at hx'
          by_cases q4 : x = ch
          · rw [if_pos q4] at hx'; cases hx'; simp at h20
          · rw [if_neg q4] at hx'; cases hx'
  · show (if c = st then _ else _) = _
    rw [if_neg h1, if_pos rfl]
  · show (if wa = st then _ else _) = _
    rw [if_neg nw.1, if_neg nw.2, if_pos rfl]
  · show (if ch = st then _ else _) = _
    rw [if_neg nc.1, if_neg nc.2, if_neg (Ne.symm h2), if_pos rfl]
theorem G0.mwt (g : G0 st c wa ch τ H0 H d) : ∀ x ∈ Mw st c wa ch, ∃ t, τ x = some t ∧ t.1 < 20 := fun x hx => by
  simp only [List.mem_cons, List.not_mem_nil, or_false] at hx
  rcases hx with rfl | rfl | rfl | rfl
  · exact ⟨_, g.t1, by decide⟩
  · exact ⟨_, g.t2, by decide⟩
  · exact ⟨_, g.t3, by decide⟩
  · exact ⟨_, g.t4, by decide⟩
theorem G0.frame (g : G0 st c wa ch τ H0 H d) {N : List Addr} (k : Kp N H H') (a : Al H H') (so' : StOk st c H') (wi' : WIn wa ch d' H') (l : ∀ x ∈ N, x ∈ Mw st c wa ch ∨ ∃ t, τ x = some t ∧ 20 ≤ t.1) : G0 st c wa ch τ H0 H' d' :=
  ⟨kp_fresh g.kp k (fun x hx => (l x hx).imp id fun ⟨t, ht, q⟩ => g.fr x t ht q), so', wi', g.tg.al a, g.fr, g.t1, g.t2, g.t3, g.t4⟩
theorem G0.free (g : G0 st c wa ch τ H0 H d) {x : Addr} (hx : H x = none) : H0 x = none ∧ τ x = none := by
  have ht : τ x = none := g.tg.none hx
  refine ⟨free_backK g.kp (fun z => ?_) hx, ht⟩
  obtain ⟨t, h, _⟩ := g.mwt x z
  rw [ht] at h
  cases h
/-- new objects get tags -/
theorem G0.tags (g : G0 st c wa ch τ H0 H d) (g' : G0 st c wa ch τ H0 H' d') (f : Addr → Option (Nat × Nat)) (hf : ∀ x t, f x = some t → H x = none ∧ H' x ≠ none) : ∃ τ', TgLe τ τ' ∧ (∀ x t, f x = some t → τ' x = some t) ∧ G0 st c wa ch τ' H0 H' d' := by
  have le : TgLe τ fun x => match f x with
    | some t => some t
    | none => τ x := fun x t h => by
    cases hx : f x with
    | none => show (match f x with | some t => some t | none => τ x) = some t; rw [hx]; exact h
    | some u => exact absurd (hf x u hx).1 (g.tg x t h)
  refine ⟨_, le, fun x t h => by show (match f x with | some t => some t | none => τ x) = some t; rw [h], g'.kp, g'.so, g'.wi, fun x t h => ?_, fun x t h h2 => ?_, le _ _ g.t1, le _ _ g.t2, le _ _ g.t3, le _ _ g.t4⟩
  · have h' : (match f x with | some t => some t | none => τ x) = some t := h
    cases hx : f x with
    | none => rw [hx] at h'; exact g'.tg x t h'
    | some u => exact (hf x u hx).2
  · have h' : (match f x with | some t => some t | none => τ x) = some t := h
    cases hx : f x with
    | none => rw [hx] at h'; exact g'.fr x t h' h2
    | some u => exact (g.free (hf x u hx).1).1
theorem G0.ex (g : G0 st c wa ch τ H0 H d) (e : Ex H H') : G0 st c wa ch τ H0 H' d := g.frame (e.kp (M := [])) (al_ex e) (st_ex e g.so) (g.wi.exx e) (fun x hx => by cases hx)
theorem G0.new (g : G0 st c wa ch τ H0 H d) (e : Ex H H') {p : Addr} (hp : H p = none) (hn : H' p ≠ none) (t : Nat × Nat) : ∃ τ', TgLe τ τ' ∧ τ' p = some t ∧ G0 st c wa ch τ' H0 H' d := by
  obtain ⟨τ', l, h, g'⟩ := g.tags (g.ex e) (fun x => if x = p then some t else none) (fun x u h => by
    by_cases q : x = p
    · subst q; exact ⟨hp, hn⟩
    · have h' : (if x = p then some t else none) = some u := h
      rw [if_neg q] at h'
      cases h')
  exact ⟨τ', l, h p t (if_pos rfl), g'⟩
theorem G0.one (g : G0 st c wa ch τ H0 H d) {x : Addr} {t : Nat × Nat} (k : Kp [x] H H') (hn : H' x ≠ none) (hx : τ x = some t) (h : 20 ≤ t.1) : G0 st c wa ch τ H0 H' d := by
  have nx : ∀ {y : Addr} {u : Nat × Nat}, τ y = some u → u.1 < 20 → y ∉ [x] := fun {y u} hy hu z => by
    rw [List.mem_singleton.mp z, hx] at hy
    cases hy
    omega
  refine g.frame k (al_one k hn) (st_out k g.so (nx g.t1 (by decide)) (nx g.t2 (by decide))) (g.wi.kp k (nx g.t3 (by decide)) (nx g.t4 (by decide))) (fun y hy => ?_)
  rw [List.mem_singleton.mp hy]
  exact .inr ⟨t, hx, h⟩
/-- a new env -/
theorem G0.env (g : G0 st c wa ch τ H0 H d) {a : Ea} {ed : Ed} {m : Int} {i : Nat} (hf : ∀ x ∈ a.all, H x = none) (nd : a.all.Nodup) (he : EIn a ed H') (k : Kp [st, c, wa] H H') (so' : StOk st c H') (wi' : WIn wa ch { d with cells := m } H') : ∃ τ', TgLe τ τ' ∧ a.tg τ' i ∧ G0 st c wa ch τ' H0 H' { d with cells := m } := by
  have g' : G0 st c wa ch τ H0 H' { d with cells := m } := g.frame k (al_kp k fun x hx => by
    obtain ⟨⟨ns, z, a, b, _⟩, _⟩ := so'
    simp only [List.mem_cons, List.not_mem_nil, or_false] at hx
    rcases hx with rfl | rfl | rfl
    · exact fsome a
    · exact fsome b
    · exact wi'.al.1) so' wi' (fun x hx => .inl (by
      simp only [List.mem_cons, List.not_mem_nil, or_false] at hx ⊢
      rcases hx with h | h | h <;> simp [h]))
  have nd' : [a.e, a.ca, a.ra, a.sa, a.ga, a.ta].Nodup := nd
  simp only [List.nodup_cons, List.mem_cons, List.not_mem_nil, or_false, not_or] at nd'
  obtain ⟨⟨n01, n02, n03, n04, n05⟩, ⟨n12, n13, n14, n15⟩, ⟨n23, n24, n25⟩, ⟨n34, n35⟩, n45, _⟩ := nd'
  obtain ⟨τ', l, h, g2⟩ := g.tags g' (fun x => if x = a.e then some (20, i) else if x = a.ca then some (21, i) else if x = a.ra then some (22, i) else if x = a.sa then some (23, i) else if x = a.ga then some (24, i) else if x = a.ta then some (25, i) else none) (fun x u h => by
    have hm : x ∈ a.all := by
      show x ∈ [a.e, a.ca, a.ra, a.sa, a.ga, a.ta]
      by_cases q0 : x = a.e
      · simp [q0]
      by_cases q1 : x = a.ca
      · simp [q1]
      by_cases q2 : x = a.ra
      · simp [q2]
      by_cases q3 : x = a.sa
      · simp [q3]
      by_cases q4 : x = a.ga
      · simp [q4]
      by_cases q5 : x = a.ta
      · simp [q5]
      simp [q0, q1, q2, q3, q4, q5] at h
    exact ⟨hf x hm, he.live x hm⟩)
  refine ⟨τ', l, ⟨h _ _ (if_pos rfl), h _ _ ?_, h _ _ ?_, h _ _ ?_, h _ _ ?_, h _ _ ?_⟩, g2⟩
  · simp [Ne.symm n01]
  · simp [Ne.symm n02, Ne.symm n12]
  · simp [Ne.symm n03, Ne.symm n13, Ne.symm n23]
  · simp [Ne.symm n04, Ne.symm n14, Ne.symm n24, Ne.symm n34]
  · simp [Ne.symm n05, Ne.symm n15, Ne.symm n25, Ne.symm n35, Ne.symm n45]
end
/-! fresh envs are apart -/
theorem bmono {n : Nat} {b : Nat → Int} (h : ∀ k, k < n → b k ≤ b (k + 1)) : ∀ {i j : Nat}, i ≤ j → j ≤ n → b i ≤ b j := by
  intro i j hij
  induction j with
  | zero => intro _; rw [Nat.le_zero.mp hij]; exact Int.le_refl _
  | succ j ih =>
    intro hj
    by_cases q : i ≤ j
    · have := ih q (by omega)
      have := h j (by omega)
      omega
    · rw [show i = j + 1 by omega]
      exact Int.le_refl _
theorem bfr_fresh {ed : Nat → Ed} {i : Nat} {lo hi x : Int} (h : (ed i).fresh lo hi) (r : (bfr ed (fun _ => []) i).R x) : lo ≤ x ∧ x < hi := by
  have h1 := h.lo
  rcases r with r | ⟨p, hp, a, b⟩ | r
  · rw [h.reads] at r
    simp only [List.mem_cons, List.not_mem_nil, or_false] at r
    omega
  · have := h.spans p hp
    omega
  · cases r
theorem sep_fresh {n : Nat} {ed : Nat → Ed} {b : Nat → Int} {P C D : Int → Prop} (h : ∀ k, k < n → (ed k).fresh (b k) (b (k + 1))) (hP : ∀ x, b 0 ≤ x → x < b n → P x) : Sep n ed (fun _ => []) P C D := by
  have hb : ∀ k, k < n → b k ≤ b (k + 1) := fun k hk => by have := (h k hk).lo; omega
  have wr : ∀ i, i < n → ∀ x, (bfr ed (fun _ => []) i).W x → (bfr ed (fun _ => []) i).R x := fun i hi x w => by
    rcases w with w | w
    · refine .inl ?_
      rw [(h i hi).cells] at w
      rw [(h i hi).reads]
      exact w
    · exact .inr w
  have ap : ∀ i j, i < n → j < n → i ≠ j → ∀ x, (bfr ed (fun _ => []) i).R x → ¬ (bfr ed (fun _ => []) j).R x := fun i j hi hj ne x r r' => by
    have h1 := bfr_fresh (h i hi) r
    have h2 := bfr_fresh (h j hj) r'
    by_cases q : i < j
    · have := bmono hb (i := i + 1) (j := j) (by omega) (by omega)
      omega
    · have := bmono hb (i := j + 1) (j := i) (by omega) (by omega)
      omega
  refine ⟨fun i j hi hj ne => ⟨fun x w => ⟨fun w' => ap i j hi hj ne x (wr i hi x w) (wr j hj x w'), fun r' => ap i j hi hj ne x (wr i hi x w) r'⟩, fun x w' r => ap i j hi hj ne x r (wr j hj x w'), fun x g => ?_, fun x g => ?_⟩, fun i hi x r => ?_, fun i hi x g => ?_, fun i hi x g => ?_, fun i hi x g => ?_, fun i hi p hp => ?_, fun i hi => ?_, fun i hi => ?_, fun i hi => ?_, fun i hi it hit => ?_⟩
  · have g' : x ∈ (ed i).gives := g
    rw [(h i hi).gives] at g'
    cases g'
  · have g' : x ∈ (ed i).takes := g
    rw [(h i hi).takes] at g'
    cases g'
  · have h1 := bfr_fresh (h i hi) r
    have := bmono hb (i := 0) (j := i) (by omega) (by omega)
    have := bmono hb (i := i + 1) (j := n) (by omega) (by omega)
    exact hP x (by omega) (by omega)
  · rw [(h i hi).gives] at g
    cases g
  · rw [(h i hi).takes] at g
    cases g
  · rw [(h i hi).cells] at g
    rw [(h i hi).reads]
    exact g
  · have := (h i hi).spans p hp
    exact ⟨this.2.1, this.2.2.1⟩
  · rw [(h i hi).cells]
    simp
    omega
  · rw [(h i hi).gives]
    exact List.nodup_nil
  · rw [(h i hi).takes]
    exact List.nodup_nil
  · cases hit
/-! the rows of a par -/
theorem Ps.fits_app : ∀ {a b : Ps} {fs gs : List Fr}, a.fits fs → b.fits gs → (a.app b).fits (fs ++ gs)
  | .nil, _, _, _, h, g => by cases h; exact g
  | .cons _ _ r, _, _, _, ⟨f, l, e, h, t⟩, g => by subst e; exact ⟨f, l ++ _, rfl, h, Ps.fits_app t g⟩
theorem Ps.fits_fit {F : Fr} : ∀ {a : Ps} {fs : List Fr}, a.fits fs → (∀ f ∈ fs, f.le F) → a.fit F
  | .nil, _, _, _ => trivial
  | .cons _ _ r, _, ⟨f, l, e, h, t⟩, g => by
    subst e
    exact ⟨h.mono (g f (List.mem_cons_self ..)), Ps.fits_fit t fun f' hf => g f' (List.mem_cons_of_mem _ hf)⟩
/-- the frame of branch k: its base and what came new from d to d' -/
def rowFr (b : Fr) (d d' : Wd) : Fr := ⟨fun x => b.W x ∨ d.cells ≤ x ∧ x < d'.cells, fun x => b.R x ∨ d.cells ≤ x ∧ x < d'.cells, fun x => b.G x ∨ (d.chs.length : Int) ≤ x ∧ x < d'.chs.length, fun x => b.T x ∨ (d.chs.length : Int) ≤ x ∧ x < d'.chs.length⟩
theorem rowFr.bas {b : Fr} {d d' : Wd} : b.le (rowFr b d d') := ⟨fun _ h => .inl h, fun _ h => .inl h, fun _ h => .inl h, fun _ h => .inl h⟩
theorem rowFr.rg {b : Fr} {d d' : Wd} : Rg d d' (rowFr b d d') := ⟨fun k a e => ⟨.inr ⟨a, e⟩, .inr ⟨a, e⟩⟩, fun c a e => ⟨.inr ⟨a, e⟩, .inr ⟨a, e⟩⟩⟩
theorem rowFr.le {b F : Fr} {d d' : Wd} (h : b.le F) (r : Rg d d' F) : (rowFr b d d').le F := ⟨fun x z => z.elim (h.w x) fun ⟨p, q⟩ => (r.c x p q).1, fun x z => z.elim (h.r x) fun ⟨p, q⟩ => (r.c x p q).2, fun x z => z.elim (h.g x) fun ⟨p, q⟩ => (r.h x p q).1, fun x z => z.elim (h.t x) fun ⟨p, q⟩ => (r.h x p q).2⟩
/-- bases under a bound are apart from what comes new, and from each other -/
structure Fr.under (b : Fr) (s l : Int) : Prop where
  wr : ∀ x, b.W x → b.R x
  r : ∀ x, b.R x → x < s
  g : ∀ x, b.G x → x < l
  t : ∀ x, b.T x → x < l
theorem rowFr.apart {b b' : Fr} {d d1 e e1 : Wd} {s l : Int} (ap : b.apart b') (u : b.under s l) (u' : b'.under s l) (c0 : s ≤ d.cells) (c1 : s ≤ e.cells) (c2 : d1.cells ≤ e.cells) (l0 : l ≤ (d.chs.length : Int)) (l1 : l ≤ (e.chs.length : Int)) (l2 : d1.chs.length ≤ e.chs.length) : (rowFr b d d1).apart (rowFr b' e e1) := by
  refine ⟨fun x w => ⟨fun z => ?_, fun z => ?_⟩, fun x w z => ?_, fun x w z => ?_, fun x w z => ?_⟩
  · rcases w with w | w <;> rcases z with z | z
    · exact (ap.w x w).1 z
    · have := u.r x (u.wr x w); omega
    · have := u'.r x (u'.wr x z); omega
    · omega
  · rcases w with w | w <;> rcases z with z | z
    · exact (ap.w x w).2 z
    · have := u.r x (u.wr x w); omega
    · have := u'.r x z; omega
    · omega
  · rcases w with w | w <;> rcases z with z | z
    · exact ap.r x w z
    · have := u'.r x (u'.wr x w); omega
    · have := u.r x z; omega
    · omega
  · rcases w with w | w <;> rcases z with z | z
    · exact ap.g x w z
    · have := u.g x w; omega
    · have := u'.g x z; omega
    · omega
  · rcases w with w | w <;> rcases z with z | z
    · exact ap.t x w z
    · have := u.t x w; omega
    · have := u'.t x z; omega
    · omega
/-- k rows of a par, from the world d0 (branches made, none started) to d; fs their frames -/
structure RwI (q : Nat) (n : Nat) (bf : Nat → Fr) (F0 : Fr) (d0 d : Wd) (k : Nat) (ps : Ps) (fs : List Fr) : Prop where
  cnt : k ≤ ps.cnt
  th : d.threads = d0.threads + ps.cnt
  lf : d.left = d0.left - (ps.cnt - k : Nat)
  lf0 : 0 ≤ d.left
  it : d.items ≤ d0.items
  it0 : 0 ≤ d.items
  ce : d0.cells ≤ d.cells
  pot : d.cells + 9 * d.left + d.items ≤ d0.cells + 9 * d0.left + d0.items
  al : d.alts = d0.alts
  lo : d.loops = d0.loops
  ch : ∃ j, d.chs = d0.chs ++ List.replicate j ("inner" : Str)
  c24 : d.chs.length ≤ 24
  c61 : d.cells + 2 * d.left ≤ 61
  fits : ps.fits fs
  fr : ∀ f ∈ fs, ∃ i e e', i < k ∧ f = rowFr (bf i) e e' ∧ d0.cells ≤ e.cells ∧ e.cells ≤ e'.cells ∧ e'.cells ≤ d.cells ∧ d0.chs.length ≤ e.chs.length ∧ e.chs.length ≤ e'.chs.length ∧ e'.chs.length ≤ d.chs.length
  ap : fs.Pairwise Fr.apart
  rule : ps.rule
  num : ps.num d0.threads
  dep : (ps.dep : Int) ≤ 4 * d0.left + 15
  sz : (ps.sz : Int) ≤ 6 * k + 140 * (d0.items - d.items) + 7 * (d0.left - d.left)
  wk0 : 0 ≤ ps.wk
  wk : ps.wk ≤ 8 * k + wkb q d0.loops (d0.items - d.items) (d0.left - d.left)
theorem RwI.zero {q n : Nat} {bf : Nat → Fr} {F0 : Fr} {d0 : Wd} (o : d0.ok) : RwI q n bf F0 d0 d0 0 .nil [] :=
  ⟨Nat.zero_le _, by simp [Ps.cnt], by simp [Ps.cnt], o.lf0, Int.le_refl _, o.it0, Int.le_refl _, Int.le_refl _, rfl, rfl, ⟨0, by simp⟩, o.c24, o.c61, rfl, (fun f hf => by cases hf), .nil, trivial, trivial, by have := o.lf0; simp only [Ps.dep]; omega, by simp [Ps.sz], by simp [Ps.wk], by
    have := @wkb_nn q d0.loops (d0.items - d0.items) (d0.left - d0.left) (by omega) (by omega)
    simp only [Ps.wk]
    omega⟩
theorem RwI.wok {q n : Nat} {bf : Nat → Fr} {F0 : Fr} {d0 d : Wd} {k : Nat} {ps : Ps} {fs : List Fr} (h : RwI q n bf F0 d0 d k ps fs) (o : d0.ok) : d.ok := ⟨h.lf0, h.it0, by have := h.ce; have := o.ce0; omega, by have := h.pot; have := o.pot; omega, h.c24, h.c61, by have := h.lf; have := o.l11; omega⟩
theorem RwI.chl {q n : Nat} {bf : Nat → Fr} {F0 : Fr} {d0 d : Wd} {k : Nat} {ps : Ps} {fs : List Fr} (h : RwI q n bf F0 d0 d k ps fs) : d0.chs.length ≤ d.chs.length := by
  obtain ⟨m, em⟩ := h.ch
  rw [em, List.length_append]
  omega
/-- one row more: the items' statements and a simple one -/
theorem RwI.step {q n : Nat} {bf : Nat → Fr} {F0 : Fr} {d0 d d' : Wd} {k : Nat} {ps : Ps} {fs : List Fr} {ss : Ss} {sx : Sx} {s l : Int} (h : RwI q n bf F0 d0 d k ps fs) (hk : k < n) (hi : ItOut q (bf k) { d with threads := d.threads + 1 } d' ss) (hs : sx.Pl (bf k) 3 5 7) (o : d0.ok)
    (un : ∀ i, i < n → (bf i).under s l) (ap : ∀ i j, i < n → j < n → i ≠ j → (bf i).apart (bf j)) (hs0 : s ≤ d0.cells) (hl0 : l ≤ (d0.chs.length : Int)) :
    RwI q n bf F0 d0 d' (k + 1) (ps.app (.cons d.threads (.seq (ss.app (.cons sx .nil))) .nil)) (fs ++ [rowFr (bf k) d d']) := by
  have e := hi.evo
  have th := e.th
  have lf := e.lf
  have lf0 := e.lf0
  have it := e.it
  have ce := e.ce
  have pot := e.pot
  have chl := e.chl
  have hdep := hi.dep
  have hsz := hi.sz
  have hwk0 := hi.wk0
  have hwk := hi.wk
  have pc := hs.cnt
  have pd := hs.dep
  have pz := hs.sz
  have pw := hs.wk
  have pw0 := Sx.wk0 hs.fit
  have hcnt := h.cnt
  have hth := h.th
  have hlf := h.lf
  have hce := h.ce
  have hit := h.it
  have hpot := h.pot
  have hd := h.dep
  have hz := h.sz
  have hw0 := h.wk0
  have hw := h.wk
  have hcl := h.chl
  dsimp only at th lf it ce pot chl hdep hsz hwk
  have cn : (ps.app (.cons d.threads (.seq (ss.app (.cons sx .nil))) .nil)).cnt = ps.cnt + (1 + ss.cnt) := by
    simp only [Ps.app_cnt, Ps.cnt, Sx.cnt, Ss.app_cnt, Ss.cnt, pc]
    omega
  refine ⟨by rw [cn]; omega, by rw [cn]; omega, by rw [cn]; omega, lf0, by omega, e.it0, by omega, by omega, e.al.trans h.al, e.lo.trans h.lo, ?_, e.c24, e.c61, Ps.fits_app h.fits ⟨_, [], rfl, Ss.app_fit.mpr ⟨hi.fit _ rowFr.bas ⟨fun k a b => rowFr.rg.c k a b, fun c a b => rowFr.rg.h c a b⟩, hs.fit.mono rowFr.bas, trivial⟩, rfl⟩, ?_, ?_, Ps.app_rule.mpr ⟨h.rule, Ss.app_rule.mpr ⟨hi.rule, hs.rule, trivial⟩, trivial⟩, Ps.app_num.mpr ⟨h.num, hth, ?_, trivial⟩, ?_, ?_, ?_, ?_⟩
  · obtain ⟨i, ei⟩ := h.ch
    obtain ⟨j, ej⟩ := e.ch
    dsimp only at ej
    exact ⟨i + j, by rw [ej, ei, List.append_assoc, List.replicate_append_replicate]⟩
  · intro f hf
    rcases List.mem_append.mp hf with hf | hf
    · obtain ⟨i, e1, e2, h1, h2, h3, h4, h5, h6, h7, h8⟩ := h.fr f hf
      exact ⟨i, e1, e2, by omega, h2, h3, h4, by omega, h6, h7, by omega⟩
    · rw [List.mem_singleton.mp hf]
      exact ⟨k, d, d', by omega, rfl, hce, by omega, Int.le_refl _, hcl, chl, Nat.le_refl _⟩
  · rw [List.pairwise_append]
    refine ⟨h.ap, List.pairwise_singleton _ _, fun f hf g hg => ?_⟩
    obtain ⟨i, e1, e2, h1, h2, h3, h4, h5, h6, h7, h8⟩ := h.fr f hf
    rw [List.mem_singleton.mp hg, h2]
    exact rowFr.apart (ap i k (by omega) hk (by omega)) (un i (by omega)) (un k hk) (by omega) (by omega) h5 (by omega) (by omega) h8
  · refine Ss.app_num.mpr ⟨?_, Sx.num0 pc _, trivial⟩
    have hn := hi.num
    dsimp only at hn
    rw [hth] at hn
    exact hn
  · have := @depb_mono q d.left d0.left (by omega)
    have o0 := o.lf0
    have hb : depb q d0.left ≤ 4 * d0.left + 14 := by
      unfold depb
      split <;> omega
    simp only [Ps.app_dep, Ps.dep, Sx.dep, Ss.app_dep, Ss.dep]
    omega
  · simp only [Ps.app_sz, Ps.sz, Sx.sz, Ss.app_sz, Ss.sz]
    omega
  · simp only [Ps.app_wk, Ps.wk, Sx.wk, Ss.app_wk, Ss.wk]
    omega
  · rw [h.lo] at hwk
    have h3 := @wkb_add q d0.loops (d0.items - d.items) (d.items - d'.items) (d0.left - d.left) (d.left - d'.left)
    rw [show d0.items - d.items + (d.items - d'.items) = d0.items - d'.items by omega, show d0.left - d.left + (d.left - d'.left) = d0.left - d'.left by omega] at h3
    simp only [Ps.app_wk, Ps.wk, Sx.wk, Ss.app_wk, Ss.wk]
    omega
/-- the par itself: n rows over the world dS, from which n branches were taken -/
theorem RwI.par {n : Nat} {bf : Nat → Fr} {F0 : Fr} {dS d0 d : Wd} {ps : Ps} {fs : List Fr} {dp : Int} (h : RwI (if dp = 0 then 2 else 3) n bf F0 d0 d n ps fs) (n2 : 2 ≤ n) (oS : dS.ok) (et : d0.threads = dS.threads) (el : d0.left = dS.left - n) (ei : d0.items = dS.items) (ea : d0.alts = dS.alts) (eo : d0.loops = dS.loops) (ec : dS.cells ≤ d0.cells) (ec2 : d0.cells ≤ dS.cells + 9 * n) (eh : ∃ j, d0.chs = dS.chs ++ List.replicate j ("inner" : Str))
    (hF : ∀ F : Fr, F0.le F → Rg dS d0 F → ∀ i, i < n → (bf i).le F) : ParOut dp F0 dS d (.par ps) := by
  have th := h.th
  have lf := h.lf
  have lf0 := h.lf0
  have it := h.it
  have ce := h.ce
  have pot := h.pot
  have cn := h.cnt
  have o1 := oS.lf0
  have hcl := h.chl
  obtain ⟨j, ej⟩ := eh
  obtain ⟨j', ej'⟩ := h.ch
  have hS : dS.chs.length ≤ d0.chs.length := by
    rw [ej, List.length_append]
    omega
  refine ⟨⟨?_, ?_, lf0, by omega, h.it0, by omega, by omega, h.al.trans ea, h.lo.trans eo, ⟨j + j', by rw [ej', ej, List.append_assoc, List.replicate_append_replicate]⟩, h.c24, h.c61⟩, fun F l r => Ps.fits_fit h.fits fun f hf => ?_, ⟨⟨fs, h.fits, h.ap⟩, h.rule⟩, ?_, ?_, ?_, ?_, ?_⟩
  · show d.threads = dS.threads + (ps.cnt : Nat)
    omega
  · show d.left = dS.left - (ps.cnt : Nat)
    omega
  · obtain ⟨i, e1, e2, h1, h2, h3, h4, h5, h6, h7, h8⟩ := h.fr f hf
    rw [h2]
    exact rowFr.le (hF F l ⟨fun k a b => r.c k a (by omega), fun c a b => r.h c a (by omega)⟩ i h1) ⟨fun k a b => r.c k (by omega) (by omega), fun c a b => r.h c (by omega) (by omega)⟩
  · have := h.num
    rw [et] at this
    exact this
  · have := h.dep
    simp only [Sx.dep]
    omega
  · have := h.sz
    simp only [Sx.sz]
    omega
  · have := h.wk0
    simp only [Sx.wk]
    omega
  · have hw := h.wk
    rw [eo] at hw
    simp only [Sx.wk]
    unfold wkb at hw ⊢
    by_cases q : dp = 0
    · rw [if_pos q, if_neg (by omega), if_pos (.inl rfl)] at hw
      rw [if_pos q, if_neg (by omega), if_pos (.inl rfl)]
      omega
    · rw [if_neg q, if_neg (by omega)] at hw
      rw [if_neg q, if_neg (by omega)]
      cases hl : dS.loops
      · rw [hl, if_pos (.inr rfl)] at hw
        rw [if_pos (.inr rfl)]
        omega
      · rw [hl, if_neg (by rintro (z | z); omega; cases z)] at hw
        rw [if_neg (by rintro (z | z); omega; cases z)]
        omega
theorem ParOut.skip {dp : Int} {F0 : Fr} {d : Wd} (o : d.ok) : ParOut dp F0 d d .skip := by
  have := o.lf0
  have h5 := @wkb_nn (if dp = 0 then 2 else 3) d.loops (d.items - d.items) (d.left - d.left) (by omega) (by omega)
  exact ⟨Evo.refl o, fun _ _ _ => trivial, trivial, trivial, by simp only [Sx.dep]; omega, by simp only [Sx.sz]; omega, by decide, by simp only [Sx.wk]; omega⟩
theorem frow_fn {ea : Nat → Ea} {i : Nat} {a : Ea} : frow (fun k => (gset ea i a k).e) (i + 1) = frow (fun k => (ea k).e) i ++ [.ref a.e] := by
  unfold frow
  rw [List.range_succ, List.map_append]
  congr 1
  · refine List.map_congr_left fun k hk => ?_
    show V.ref (gset ea i a k).e = V.ref (ea k).e
    rw [gset_ne (by have := List.mem_range.mp hk; omega)]
  · show [V.ref (gset ea i a i).e] = _
    rw [gset_eq]
theorem tg_nin {τ : Tau} {a : Ea} {k : Nat} {N : List Addr} (h : a.tg τ k) (n : ∀ x ∈ N, ∃ t, τ x = some t ∧ ¬ (20 ≤ t.1 ∧ t.1 ≤ 25)) : a.out N := fun x hx z => by
  obtain ⟨f, f0, f1, hf⟩ := h.all x hx
  obtain ⟨t, ht, q⟩ := n x z
  rw [hf] at ht
  cases ht
  exact q ⟨f0, f1⟩
theorem EdB.up {ed : Ed} {d d' : Wd} (h : EdB ed d) (c : d.cells ≤ d'.cells) (l : d.chs.length ≤ d'.chs.length) (f : d'.left ≤ d.left) : EdB ed d' := ⟨h.ok, h.cn, fun k hk => ⟨(h.cb k hk).1, by have := (h.cb k hk).2; omega⟩, h.gn, fun c hc => ⟨(h.gb c hc).1, by have := (h.gb c hc).2; omega⟩, h.tn, fun c hc => ⟨(h.tb c hc).1, by have := (h.tb c hc).2; omega⟩, by have := h.cl; omega, h.gl, h.tl⟩
theorem Itm.alw.up {q q' : Nat} (h : q ≤ q') : ∀ {it : Itm}, it.alw q → it.alw q'
  | .gt _ _ _, a => fun z => Nat.le_trans (a z) h
  | .loop _ _ _, a => Nat.le_trans a h
  | .nest, a => Nat.le_trans a h
theorem ok_par (T : Glo K w mg) (D : Dn K mg "_law_par" s__law_par p__law_par) (L : Nat) (hL : 9 ≤ L) (n : Nat) {sI : Sp} (hI : ∀ m, n = m + 1 → ∀ q, (q = 2 ∨ q = 3) → ∀ vs H Q E, sp_items q m vs H Q E → sI vs H Q E)
    (G__law_draw : Cal P w K mg base "_law_draw" 1 p__law_draw sp_draw) (G__law_env : Cal P w K mg base "_law_env" 2 p__law_env sp_env) (G__law_meetings : Cal P w K mg base "_law_meetings" 3 p__law_meetings sp_meet) (G__law_shared : Cal P w K mg base "_law_shared" 2 p__law_shared sp_shared)
    (G__law_faulty : Cal P w K mg base "_law_faulty" 2 p__law_faulty sp_faulty) (G__law_simple : Cal P w K mg base "_law_simple" 9 p__law_simple (sp_sx 3 5 7)) (G__law_items : Cal P w K mg base "_law_items" L p__law_items sI) :
    Cal P w K mg base "_law_par" (L + 1) p__law_par (sp_par n) := by
  refine D.ok sc__law_par (fun vs H Q E h => ?_) (fun f cdv A outer s H vs Q E hr h => ?_)
  · obtain ⟨_, _, _, _, _, _, _, _, _, rfl, _⟩ := h
    rfl
  obtain ⟨a, eo, M, st, c, wa, ch, d, dp, rfl, ms, mo, so, wi, nw, nc, ei, ao, eb, dok, hl, hdp, q⟩ := h
  refine ⟨_, (pss_cons (ps_set (i := 4) sc__law_par.nd rfl (by first | exact Or.inl rfl | exact Or.inr rfl) (pe_callB (call_min2 rfl) rfl T.n_min (by decide +kernel) (pa_cons (pe_dget (hu_of hr) (pv 2) pe_str (fun _ _ => rfl)) (pa_cons (pe_op op_addA pe_int (pe_cal G__law_draw (hr.mono (by (first | subst "lev" | fail))) rfl (pa_cons (pv 0) (pa_cons pe_int pa_nil)))) pa_nil)))) (pss_cons (ps_if (pt_cmpR op_lt (pv 4) pe_int (nomark _)) (pss_one (ps_ret (pe_tup (pa_cons pe_str pa_nil)))) pss_nil) (pss_cons (ps_dput (hu_of hr) (pv 2) pe_str (pe_op op_sub (pe_dget (hu_of hr) (pv 2) pe_str (fun _ _ => rfl)) (pv 4)) rfl) (pss_cons (ps_setLc (i := 5) (own := [("k", 8)]) (tt := tYes) rfl sc__law_par.nd rfl rfl (sw_true rfl rfl rfl (by decide +kernel)) (pi_range1 rfl T.n_range (pa_cons (pv 4) pa_nil)) (blkOk_by (N := ["state", "env", "world", "deep", "many", "envs", "scripts", "rows", "k", "thread", "script", "at"]) (sc := defScope s__law_par) (by decide +kernel)) (fun _ _ _ _ _ => (pg_name (i := 8) sc__law_par.nd rfl (by first | exact Or.inl rfl | exact Or.inr rfl))) (fun _ _ _ _ _ => pts_nil) (fun _ _ _ _ _ => (pe_cal G__law_env (hr.mono (by (first | subst "lev" | fail))) rfl (pa_cons (pv 0) (pa_cons (pv 2) pa_nil))))) (pss_cons (ps_setLc (i := 6) (own := [("k", 8)]) (tt := tYes) rfl sc__law_par.nd rfl rfl (sw_true rfl rfl rfl (by decide +kernel)) (pi_range1 rfl T.n_range (pa_cons (pv 4) pa_nil)) (blkOk_by (N := ["state", "env", "world", "deep", "many", "envs", "scripts", "rows", "k", "thread", "script", "at"]) (sc := defScope s__law_par) (by decide +kernel)) (fun _ _ _ _ _ => (pg_name (i := 8) sc__law_par.nd rfl (by first | exact Or.inl rfl | exact Or.inr rfl))) (fun _ _ _ _ _ => pts_nil) (fun _ _ _ _ _ => (pe_lst pa_nil))) (pss_cons (ps_expr (pe_cal G__law_meetings (hr.mono (by (first | subst "lev" | fail))) rfl (pa_cons (pv 0) (pa_cons (pv 2) (pa_cons (pv 6) (pa_cons (pv 5) pa_nil)))))) (pss_cons (ps_expr (pe_cal G__law_shared (hr.mono (by (first | subst "lev" | fail))) rfl (pa_cons (pv 0) (pa_cons (pv 1) (pa_cons (pv 5) (pa_cons (pv 6) pa_nil)))))) (pss_cons (ps_set (i := 7) sc__law_par.nd rfl (by first | exact Or.inl rfl | exact Or.inr rfl) (pe_lst pa_nil)) (pss_cons (ps_for PassesOwn.never rfl (pi_range1 rfl T.n_range (pa_cons (pv 4) pa_nil)) (pg_name (i := 8) sc__law_par.nd rfl (by first | exact Or.inl rfl | exact Or.inr rfl)) (pss_cons (ps_set (i := 9) sc__law_par.nd rfl (by first | exact Or.inl rfl | exact Or.inr rfl) (pe_dget (hu_of hr) (pv 2) pe_str (fun _ _ => rfl))) (pss_cons (ps_dput (hu_of hr) (pv 2) pe_str (pe_op op_addA (pv 9) pe_int) rfl) (pss_cons (ps_set (i := 10) sc__law_par.nd rfl (by first | exact Or.inl rfl | exact Or.inr rfl) (pe_cal G__law_faulty (hr.mono (by (first | subst "lev" | fail))) rfl (pa_cons (pv 0) (pa_cons (pe_ix ix_seq (pv 6) (pv 8) (fun _ _ => rfl)) pa_nil)))) (pss_cons (ps_if (PW.pt (pw_and (pt_cmpR op_gt (pv 3) pe_int (nomark _)) (pw_and1 (pt_cmpR (op_eqA (hu64 hr)) (pe_cal G__law_draw (hr.mono (by (first | subst "lev" | fail))) rfl (pa_cons (pv 0) (pa_cons pe_int pa_nil))) pe_int (nomark _))))) (pss_cons (ps_set (i := 11) sc__law_par.nd rfl (by first | exact Or.inl rfl | exact Or.inr rfl) (pe_cal G__law_draw (hr.mono (by (first | subst "lev" | fail))) rfl (pa_cons (pv 0) (pa_cons (pe_op op_addA (pe_callB call_lenA rfl T.n_len (by decide +kernel) (pa_cons (pv 10) pa_nil)) pe_int) pa_nil)))) (pss_one (ps_set (i := 10) sc__law_par.nd rfl (by first | exact Or.inl rfl | exact Or.inr rfl) (pe_op op_addA (pe_op op_addA (pe_slice sl_any (pv 10) po_none (po_some (pv 11))) (pe_lst (pa_cons (pe_tup (pa_cons pe_str pa_nil)) pa_nil))) (pe_slice sl_any (pv 10) (po_some (pv 11)) po_none))))) pss_nil) (pss_one (ps_expr (pe_bm PySem.F.plainAttrs_list PySem.F.slot_list_append PySem.F.type_list_append mt_append (pv 7) (pa_cons (pe_tup (pa_cons (pv 9) (pa_cons (pe_tup (pa_cons pe_str (pa_cons (pe_op op_addA (pe_cal G__law_items (hr.mono (by (first | subst "lev" | fail))) rfl (pa_cons (pv 0) (pa_cons (pe_ix ix_seq (pv 5) (pv 8) (fun _ _ => rfl)) (pa_cons (pv 2) (pa_cons (pv 10) pa_nil))))) (pe_lst (pa_cons (pe_cal G__law_simple (hr.mono (by (first | subst "lev" | fail))) rfl (pa_cons (pv 0) (pa_cons (pe_ix ix_seq (pv 5) (pv 8) (fun _ _ => rfl)) pa_nil))) pa_nil))) pa_nil))) pa_nil))) pa_nil))))))))) (pss_one (ps_ret (pe_tup (pa_cons pe_str (pa_cons (pv 7) pa_nil)))))))))))))), ?_⟩
  try dsimp only [cxOf, Cx.nox]
  have soH := so
  obtain ⟨τ0, g0⟩ := G0.start so wi nw nc
  repeat' (first | specialize "st" | fail)
  refine ⟨_, _, rfl, ?_⟩
  obtain ⟨mm, em⟩ : ∃ mm : Int, mm = (if 2 + dn < d.left then 2 + dn else d.left) := ⟨_, rfl⟩
  have hm : mm ≤ d.left ∧ mm ≤ 4 := by
    rw [em]
    split <;> omega
  rw [← em]
  clear em
  have so0 := so
  have g1 := g0.frame ke (al_st ke so) so (wi.kp ke nw nc) (fun x hx => .inl (by
    simp only [List.mem_cons, List.not_mem_nil, or_false] at hx ⊢
    rcases hx with h | h <;> simp [h]))
  by_cases h2 : mm < 2
  · repeat' (first | specialize "st" | fail)
    exact q .skip _ d _ ⟨_, rfl, hn⟩ (ParOut.skip dok) (by (first | subst "kpx" | fail)) (by (first | subst "st_ok" | fail)) (by (first | subst "win" | fail))
  · obtain ⟨H1, rfl⟩ : ∃ x, x = Hn := ⟨_, rfl⟩
    have hkH : Kp [st, c] H H1 := ke
    clear ke
    obtain ⟨nm, rfl⟩ : ∃ nm : Nat, mm = (nm : Int) := ⟨mm.toNat, by omega⟩
    have wi1 := g1.wi
    repeat' (first | specialize "st" | fail)
    have g2 := g1.frame kw (al_one kw wi.al.1) (st_kpx kw (alln_c nw alln_n) g1.so) wi (fun y hy => by
      rw [List.mem_singleton.mp hy]
      exact .inl (by simp))
    obtain ⟨H2, rfl⟩ : ∃ x, x = Hn := ⟨_, rfl⟩
    clear g1 wi1 hkH kw so
    obtain ⟨d1, ed1⟩ : ∃ x, x = { d with left := d.left - (nm : Int) } := ⟨_, rfl⟩
    have cd1 : d1.cells = d.cells := by rw [ed1]
    rw [← ed1] at g2 wi
    clear wi
    have hnl : (nm : Int) ≤ 4 := hm.2
    have pt := dok.pot
    have c0 := dok.ce0
    have l0 := dok.lf0
    have i0 := dok.it0
    intro EA hEA
    obtain ⟨τ1, l1, tE, g3⟩ := g2.new (Ex.mk (o := .lst []) hEA rfl) hEA (fsome upd_same) (28, 1)
    refine lc_range (lo := 0) (n := _) (fun i H' => ∃ (τ : Tau) (ea : Nat → Ea) (ed : Nat → Ed) (b : Nat → Int), TgLe τ1 τ ∧ G0 st c wa ch τ H H' { d1 with cells := b i } ∧ b 0 = d.cells ∧ (∀ k, k < i → (ed k).fresh (b k) (b (k + 1))) ∧ d.cells ≤ b i ∧ (b i ≤ d.cells + 6 * i ∧ (b i = d.cells + 2 * i ∨ b i ≤ 31 + 2 * i)) ∧ H' EA = some (.lst (frow (fun k => (ea k).e) i)) ∧ ∀ k, k < i → (ea k).tg τ k ∧ EIn (ea k) (ed k) H') ?_ ?_ ?_
    · refine ⟨τ1, fun _ => a, fun _ => eo, fun _ => d.cells, TgLe.refl _, ?_, rfl, fun k hk => absurd hk (Nat.not_lt_zero k), Int.le_refl _, ⟨by simp, .inl (by simp)⟩, upd_same, fun k hk => absurd hk (Nat.not_lt_zero k)⟩
      rw [← cd1]
      exact g3
    · rintro i H' hi ⟨τ, ea, ed, b, le, g, b0, hb, hb1, hb2, hE, he⟩
      have hi4 : i < 4 := by omega
      refine ⟨rfl, ?_⟩
      repeat' (first | specialize "st" | fail)
      refine c_env g.so g.wi nw nc (by show 0 ≤ b i; omega) (by show b i ≤ 2000; omega) ?_
      intro a1 e1 m1 H3 hf nd hin fr1 k1 so3 wi3
      obtain ⟨τ2, l2, t2, g4⟩ := g.env (i := i) hf nd hin k1 so3 wi3
      have tE2 : τ2 EA = some (28, 1) := l2 _ _ (le _ _ tE)
      have nst : ∀ {x : Addr} {t : Nat × Nat}, τ2 x = some t → 20 ≤ t.1 → x ∉ [st, c, wa] := fun {x t} hx h z => by
        simp only [List.mem_cons, List.not_mem_nil, or_false] at z
        rcases z with rfl | rfl | rfl
        · rw [g4.t1] at hx; cases hx; simp at h
        · rw [g4.t2] at hx; cases hx; simp at h
        · rw [g4.t3] at hx; cases hx; simp at h
      have hE3 := k1.out _ _ (nst tE2 (by simp)) hE
      refine ⟨_, hE3, sl1000' (by rw [frow_len]; omega), ?_⟩
      generalize hq : upd H3 EA _ = H9
      have k9 := kp_upd hE3 hq
      have h9 := at_new hq
      have g5 := g4.one k9 (fsome h9) tE2 (by simp)
      have f1 : e1.fresh (b i) m1 := fr1
      have out9 : ∀ {x : Ea} {k : Nat}, x.tg τ2 k → x.out [EA] := fun {x k} hx => tg_nin hx fun y hy => ⟨(28, 1), by rw [List.mem_singleton.mp hy]; exact tE2, by simp⟩
      refine ⟨τ2, gset ea i a1, gset ed i e1, gset b (i + 1) m1, le.trans l2, ?_, ?_, fun k hk => ?_, ?_, ?_, ?_, fun k hk => ?_⟩
      · rw [gset_eq]
        exact g5
      · rw [gset_ne (by omega)]
        exact b0
      · by_cases q1 : k = i
        · subst q1
          rw [gset_eq, gset_eq, gset_ne (by omega)]
          exact f1
        · rw [gset_ne q1, gset_ne (by omega), gset_ne (by omega)]
          exact hb k (by omega)
      · rw [gset_eq]
        have := f1.lo
        omega
      · rw [gset_eq]
        have := f1.hi
        have := f1.h33
        have := f1.lo
        omega
      · rw [h9, frow_fn]
      · by_cases q1 : k = i
        · subst q1
          rw [gset_eq, gset_eq]
          exact ⟨t2, hin.kp k9 (out9 t2)⟩
        · rw [gset_ne q1, gset_ne q1]
          have h1 := he k (by omega)
          have tk := h1.1.le l2
          refine ⟨tk, (h1.2.kp k1 fun x hx => ?_).kp k9 (out9 tk)⟩
          obtain ⟨f, f0, f1, hf⟩ := tk.all x hx
          exact nst hf f0
    · rintro H3 ⟨τ3, ea, ed, b, le3, g4, b0, hb, hb1, hb2, hE, he⟩
      have e1 : ((nm : Int)).toNat = nm := by omega
      rw [e1] at g4 hb hb1 hb2 hE he
      have tE3 := le3 _ _ tE
      obtain ⟨d2, ed2⟩ : ∃ x, x = { d1 with cells := b nm } := ⟨_, rfl⟩
      rw [← ed2] at g4
      clear g3 g2 hEA
      repeat' (first | specialize "st" | fail)
      intro SA hSA
      obtain ⟨τ4, l4, tS, g5⟩ := g4.new (Ex.mk (o := .lst []) hSA rfl) hSA (fsome upd_same) (28, 0)
      refine lc_range (lo := 0) (n := _) (fun i H' => ∃ (τ : Tau) (la : Nat → Addr), TgLe τ4 τ ∧ G0 st c wa ch τ H H' d2 ∧ H' SA = some (.lst (frow la i)) ∧ H' EA = some (.lst (frow (fun k => (ea k).e) nm)) ∧ (∀ k, k < nm → EIn (ea k) (ed k) H') ∧ ∀ k, k < i → τ (la k) = some (26, k) ∧ H' (la k) = some (.lst [])) ?_ ?_ ?_
      · have ex : Ex H3 (upd H3 SA (.lst [])) := Ex.mk hSA rfl
        exact ⟨τ4, fun _ => 0, TgLe.refl _, g5, upd_same, ex _ _ hE, fun k hk => (he k hk).2.exx ex, fun k hk => absurd hk (Nat.not_lt_zero k)⟩
      · rintro i H' hi ⟨τ, la, le, g, hS, hE, hen, hla⟩
        have hi4 : i < 4 := by omega
        refine ⟨rfl, ?_⟩
        repeat' (first | specialize "st" | fail)
        obtain ⟨τ5, l5, tp, g6⟩ := g.new ke hp (fsome hn) (26, i)
        have hS2 := ke _ _ hS
        have tS5 : τ5 SA = some (28, 0) := l5 _ _ (le _ _ tS)
        have tE5 : τ5 EA = some (28, 1) := l5 _ _ (le _ _ (l4 _ _ tE3))
        refine ⟨_, hS2, sl1000' (by rw [frow_len]; omega), ?_⟩
        generalize hq : upd Hn SA _ = H9
        have k9 := kp_upd hS2 hq
        have h9 := at_new hq
        have nS : ∀ {x : Addr} {t : Nat × Nat}, τ5 x = some t → t ≠ (28, 0) → x ∉ [SA] := fun {x t} hx h z => by
          rw [List.mem_singleton.mp z, tS5] at hx
          exact h (Option.some.inj hx).symm
        refine ⟨τ5, fset la i p, le.trans l5, g6.one k9 (fsome h9) tS5 (by simp), by rw [h9, frow_set], k9.out _ _ (nS tE5 (by intro z; cases z)) (ke _ _ hE), fun k hk => ((hen k hk).exx ke).kp k9 (fun x hx => ?_), fam_step (P := fun k x => τ5 x = some (26, k) ∧ H9 x = some (.lst [])) (fun k hk => ⟨l5 _ _ (hla k hk).1, k9.out _ _ (nS (l5 _ _ (hla k hk).1) (by intro z; cases z)) (ke _ _ (hla k hk).2)⟩) ⟨tp, k9.out _ _ (nS tp (by intro z; cases z)) hn⟩⟩
        obtain ⟨f, f0, f1, hf⟩ := ((he k hk).1.le (l4.trans (le.trans l5))).all x hx
        exact nS hf (by intro z; cases z; omega)
      · rintro H4 ⟨τ, la, le, g, hS, hE, hen, hla⟩
        rw [e1] at hS hla
        have gs : GS st c wa ch SA EA nm ea la ed (fun _ => []) τ 0 H H4 d2 := ⟨g.kp, g.so, g.wi, g.tg, g.fr, g.t1, g.t2, g.t3, g.t4, le _ _ tS, le _ _ (l4 _ _ tE3), hS, hE, fun k hk => (he k hk).1.le (l4.trans le), hen, fun k hk => (hla k hk).1, fun k hk => ⟨[], (hla k hk).2, .nil⟩⟩
        clear g g5 hSA hla hS hE hen he
        repeat' (first | specialize "st" | fail)
        have cd2 : d2.cells = b nm := by rw [ed2]
        have hd2 : d2.chs = d.chs := by rw [ed2, ed1]
        have hb0 : d.cells ≤ d2.cells := by rw [cd2]; exact hb1
        refine ⟨st, c, wa, ch, SA, EA, nm, ea, la, ed, (fun _ => []), τ, H, d2, d.cells, rfl, by omega, by omega, gs, sep_fresh hb (fun x h1 h2 => ⟨by omega, by omega⟩), hb0, by rw [hd2]; exact dok.c24, fun _ _ => rfl, ?_⟩
        intro ed3 scr3 τ5 d3 H5 l5 gs3 sep3 ev3 ce3 sm3 sl3
        clear gs
        repeat' (first | specialize "st" | fail)
        refine ⟨st, c, wa, ch, SA, EA, nm, ea, la, ed3, scr3, τ5, H, d3, a, eo, fun x => x ∈ eo.cells ∨ d.cells ≤ x ∧ x < d3.cells, fun x => x ∈ eo.gives ∨ (d.chs.length : Int) ≤ x ∧ x < d3.chs.length, fun x => x ∈ eo.takes ∨ (d.chs.length : Int) ≤ x ∧ x < d3.chs.length, rfl, by omega, by omega, gs3, ei, ao.sub ms,
          sep3.mono (fun x h => .inr h) (fun x h => .inr ⟨by rw [← hd2]; exact h.1, h.2⟩) (fun x h => .inr ⟨by rw [← hd2]; exact h.1, h.2⟩), eb.cn, eb.gn, eb.tn, by have := eb.cl; omega, eb.gl, eb.tl, fun x hx => ⟨.inl hx, fun k hk r => by have := (sep3.rb k hk x r).1; have := (eb.cb x hx).2; omega⟩,
          fun x hx => ⟨.inl hx, fun k hk r => by have := (sep3.gb k hk x r).1; have := (eb.gb x hx).2; rw [hd2] at *; omega⟩, fun x hx => ⟨.inl hx, fun k hk r => by have := (sep3.tb k hk x r).1; have := (eb.tb x hx).2; rw [hd2] at *; omega⟩, sl3,
          fun k hk => ⟨Nat.le_trans (nd_len d3.chs.length _ (sep3.gn k hk) fun x hx => by have := sep3.gb k hk x hx; omega) ev3.c24, Nat.le_trans (nd_len d3.chs.length _ (sep3.tn k hk) fun x hx => by have := sep3.tb k hk x hx; omega) ev3.c24⟩,
          fun k hk => by rw [(sm3 k hk).1, (sm3 k hk).2.1, (hb k hk).cells, (hb k hk).reads]; simp, ?_⟩
        intro ed4 la4 scr4 τ6 H6 l6 gs4 sep4 cl4 sl4
        clear gs3
        repeat' (first | specialize "st" | fail)
        obtain ⟨rl, rfl⟩ : ∃ x, x = p := ⟨_, rfl⟩
        obtain ⟨HR, rfl⟩ : ∃ x, x = Hn := ⟨_, rfl⟩
        have gsR := gs4.ex ke
        have frM : ∀ x, H x = none → x ∉ M := fun x hx => mo.fresh soH hx
        have hrlw : rl ∉ Mw st c wa ch := fun z => by
          obtain ⟨t, ht, _⟩ := gs4.mwt rl z
          exact gs4.tg rl t ht hp
        have hrl0 : H rl = none := free_backK gs4.kp hrlw hp
        obtain ⟨M6, e6⟩ : ∃ M6, M6 = rl :: M := ⟨_, rfl⟩
        have out6 : ∀ {x : Addr} {t : Nat × Nat}, τ6 x = some t → 20 ≤ t.1 → x ∉ M6 := fun {x t} hx h z => by
          rw [e6] at z
          rcases List.mem_cons.mp z with rfl | z
          · exact gs4.tg _ _ hx hp
          · exact frM _ (gs4.fr _ _ hx h) z
        have ms6 : ∀ x, x ∈ Mw st c wa ch → x ∈ M6 := fun x hx => e6 ▸ List.mem_cons_of_mem _ (ms _ hx)
        have ml6 : ∀ x, x ∈ M → x ∈ M6 := fun x hx => e6 ▸ List.mem_cons_of_mem _ hx
        have m51 : st ∈ M6 := ms6 _ (by simp)
        have m52 : c ∈ M6 := ms6 _ (by simp)
        have m53 : wa ∈ M6 := ms6 _ (by simp)
        have m54 : ch ∈ M6 := ms6 _ (by simp)
        have m55 : rl ∈ M6 := e6 ▸ List.mem_cons_self ..
        have nrM : rl ∉ M := frM _ hrl0
        have nrs : rl ∉ [st, c] := fun z => hrlw (by
          simp only [List.mem_cons, List.not_mem_nil, or_false] at z ⊢
          rcases z with z | z <;> simp [z])
        have nfw : wa ≠ rl := fun z => hrlw (by simp [z])
        have nfc : ch ≠ rl := fun z => hrlw (by simp [z])
        have mo6 : MoS M6 st c HR := by
          rw [e6]
          exact (mo.al (al_mw gsR.kp gsR.so gsR.wi)).cons (fsome hn)
        have eaO : ∀ k, k < nm → (ea k).out M6 := fun k hk x hx => by
          obtain ⟨f, f0, f1, hf⟩ := (gsR.te k hk).all x hx
          exact out6 hf f0
        have eaR := gsR.ee
        have itR : ∀ k, k < nm → ∃ xs, HR (la4 k) = some (.lst xs) ∧ la4 k ∉ M6 ∧ Its M6 HR xs (scr4 k) := fun k hk => by
          obtain ⟨xs, h1, h2⟩ := gsR.ll k hk
          exact ⟨xs, h1, out6 (gsR.tl k hk) (by simp), Paired.mapP h2 fun v it q => q.out fun x j hx => out6 hx (by simp)⟩
        have hSA := gsR.hS
        have hEA := gsR.hE
        have nSA : SA ∉ M6 := out6 gsR.tS (by simp)
        have nEA : EA ∉ M6 := out6 gsR.tE (by simp)
        have kHR := gsR.kp
        have soR := gsR.so
        have wiR := gsR.wi
        have fl4 : (frow la4 nm).length = nm := frow_len
        have fle : (frow (fun k => (ea k).e) nm).length = nm := frow_len
        have evc := ev3.ce
        have evl := ev3.lf
        have evi := ev3.it
        have ecd : d2.left = d.left - (nm : Int) ∧ d2.items = d.items ∧ d2.threads = d.threads ∧ d2.alts = d.alts ∧ d2.loops = d.loops := by
          rw [ed2, ed1]
          exact ⟨rfl, rfl, rfl, rfl, rfl⟩
        have chl3 : d.chs.length ≤ d3.chs.length := by
          obtain ⟨j, ej⟩ := ev3.ch
          rw [ej, hd2, List.length_append]
          omega
        have l11 := dok.l11
        have c61 := dok.c61
        have c38 := ev3.c38
        have ok3 : d3.ok := ⟨by omega, by omega, by omega, by omega, ev3.c24, by omega, by omega⟩
        have un : ∀ i, i < nm → (bfr ed4 scr4 i).under d3.cells d3.chs.length := fun i hi => ⟨sep4.wr hi, fun x r => by
          rcases sep4.rb i hi x r with h | h
          · have := (eb.cb x h).2; omega
          · exact h.2, fun x r => by
          rcases sep4.gb i hi x r with h | h
          · have := (eb.gb x h).2; omega
          · exact h.2, fun x r => by
          rcases sep4.tb i hi x r with h | h
          · have := (eb.tb x h).2; omega
          · exact h.2⟩
        have eb4 : ∀ k, k < nm → EdB (ed4 k) d3 := fun k hk => by
          obtain ⟨q1, q2, q3, q4⟩ := cl4 k hk
          have ecl := eb.cl
          have gb' : ∀ c ∈ (ed4 k).gives, 0 ≤ c ∧ c < (d3.chs.length : Int) := fun c hc => by
            rcases sep4.gb k hk c hc with h | h
            · have := eb.gb c h; omega
            · omega
          have tb' : ∀ c ∈ (ed4 k).takes, 0 ≤ c ∧ c < (d3.chs.length : Int) := fun c hc => by
            rcases sep4.tb k hk c hc with h | h
            · have := eb.tb c h; omega
            · omega
          refine ⟨⟨sep4.cr k hk, sep4.sp k hk, q1, by omega, by omega, ?_⟩, sep4.cn k hk, fun x hx => ?_, sep4.gn k hk, gb', sep4.tn k hk, tb', by omega, Nat.le_trans (nd_len _ _ (sep4.gn k hk) gb') ev3.c24, Nat.le_trans (nd_len _ _ (sep4.tn k hk) tb') ev3.c24⟩
          · rw [q4, (sm3 k hk).2.2]
            have := (hb k hk).sl
            omega
          · rcases sep4.rb k hk x (.inl (sep4.cr k hk x hx)) with h | h
            · have := eb.cb x h; omega
            · omega
        have fit4 := sep4.fits
        have hF : ∀ F : Fr, (eo.fr []).le F → Rg d d3 F → ∀ i, i < nm → (bfr ed4 scr4 i).le F := fun F lF rF i hi => by
          have hr : ∀ x, (bfr ed4 scr4 i).R x → F.W x ∧ F.R x := fun x r => by
            rcases sep4.rb i hi x r with h | h
            · exact ⟨lF.w x (.inl h), lF.r x (.inl (eb.ok.cr x h))⟩
            · exact rF.c x h.1 h.2
          exact ⟨fun x w => (hr x (sep4.wr hi x w)).1, fun x r => (hr x r).2, fun x g => by
            rcases sep4.gb i hi x g with h | h
            · exact lF.g x h
            · exact (rF.h x h.1 h.2).1, fun x g => by
            rcases sep4.tb i hi x g with h | h
            · exact lF.t x h
            · exact (rF.h x h.1 h.2).2⟩
        have ap4 := sep4.ap
        obtain ⟨m, hmn⟩ : ∃ m, n = m + 1 := ⟨n - 1, by omega⟩
        have hl3 : d3.left ≤ 2 * m + 1 := by omega
        obtain ⟨qq, hqq⟩ : ∃ qq : Nat, qq = (if dp = 0 then 2 else 3) := ⟨_, rfl⟩
        have hq23 : qq = 2 ∨ qq = 3 := by
          rw [hqq]
          split
          · exact .inl rfl
          · exact .inr rfl
        have hIt := hI m hmn qq hq23
        have hc9 : d.cells ≤ d3.cells ∧ d3.cells ≤ d.cells + 9 * (nm : Int) := by omega
        have kR0 : True ∧ Kp (Mw st c wa ch) H HR := ⟨trivial, kHR⟩
        clear gs4 gsR kHR hp ke mo sep4 sep3 out6 frM so0 soH g0 tE l1 le3 l4 tS le l5 l6 sm3 sl3 hb hb1 hb2 b0
        refine w_rng (lo := 0) (n := _) (fun k σ H' => ∃ (x8 x9 x10 x11 : Option V) (d' : Wd) (ps : Ps) (fs : List Fr) (rs : List V), σ = [some (.ref st), some (.ref a.e), some (.ref wa), some (.int dp), some (.int (nm : Int)), some (.ref EA), some (.ref SA), some (.ref rl), x8, x9, x10, x11] ∧ H' rl = some (.lst rs) ∧ ps.In M6 H' rs ∧ RwI qq nm (bfr ed4 scr4) (eo.fr []) d3 d' k ps fs ∧ Kp M6 HR H' ∧ Kp (Mw st c wa ch) H H' ∧ StOk st c H' ∧ WIn wa ch d' H' ∧ MoS M6 st c H') ?_ ?_ ?_
        · exact ⟨none, none, none, none, d3, .nil, [], [], rfl, hn, rfl, RwI.zero ok3, Kp.refl _, kR0.2, soR, wiR, mo6⟩
        · rintro k σ H' hk ⟨x8, x9, x10, x11, d', ps, fs, rs, rfl, hrs, hps, hR, kM, kH, so, wi, mo⟩
          have hkn : k < nm := by omega
          obtain ⟨xs, hxs, nxs, hits⟩ := itR k hkn
          have hxs := kM.out _ _ nxs hxs
          have hits := its_ksub kM (fun _ h => h) hits
          have ei4 : EIn (ea k) (ed4 k) H' := (eaR k hkn).ksub kM (eaO k hkn) (fun _ h => h)
          have hSA := kM.out _ _ nSA hSA
          have hEA := kM.out _ _ nEA hEA
          have ok' := hR.wok ok3
          have ebk : EdB (ed4 k) d' := (eb4 k hkn).up hR.ce hR.chl (by have := hR.lf; omega)
          have nSs : SA ∉ [st, c] := fun z => nSA (subm_c m51 (subm_c m52 subm_n) _ z)
          have nEs : EA ∉ [st, c] := fun z => nEA (subm_c m51 (subm_c m52 subm_n) _ z)
          have nSw : SA ∉ [wa] := fun z => nSA (subm_c m53 subm_n _ z)
          have nEw : EA ∉ [wa] := fun z => nEA (subm_c m53 subm_n _ z)
          have nxw : la4 k ∉ [wa] := fun z => nxs (subm_c m53 subm_n _ z)
          have hlen : (scr4 k).length ≤ 200 := sl4 k hkn
          have hfk := fit4 k hkn
          have hrl2 : rs.length ≤ 60000 := by
            have h1 := Ps.in_len hps
            have h2 := hR.sz
            have h3 := ok3.pot
            have h4 := ok'.lf0
            have h5 := ok'.it0
            have h6 := ok3.ce0
            have h7 := ok3.lf0
            have h8 := ok3.it0
            omega
          have kG : True ∧ Kp M6 HR H' ∧ Kp (Mw st c wa ch) H H' := ⟨trivial, kM, kH⟩
          clear kM kH eb4 fit4 eaR itR hF sl4 cl4
          clear mo6 wiR soR
          repeat' (first | specialize "st" | fail)
          obtain ⟨H2, rfl⟩ : ∃ x, x = Hn := ⟨_, rfl⟩
          obtain ⟨d6, e6d⟩ : ∃ x, x = { d' with threads := d'.threads + 1 } := ⟨_, rfl⟩
          rw [← e6d] at wi
          have sw : ∀ x, x ∈ [wa] → x ∈ M6 := subm_c m53 subm_n
          have so2 : StOk st c H2 := st_kpx kw (alln_c nw alln_n) so
          have mo2 : MoS M6 st c H2 := mo.al (al_one kw wi.al1)
          have hxs2 := kw.out _ _ nxw hxs
          have hits2 := its_ksub kw sw hits
          have ei2 : EIn (ea k) (ed4 k) H2 := ei4.ksub kw (eaO k hkn) sw
          have hSA2 := kw.out _ _ nSw hSA
          have hEA2 := kw.out _ _ nEw hEA
          have hrs2 : H2 rl = some (.lst rs) := kw.out _ _ (fun z => nfw (List.mem_singleton.mp z).symm) hrs
          have hps2 : ps.In M6 H2 rs := hps.kp (kw.sub sw)
          have kG2 : True ∧ Kp M6 HR H2 ∧ Kp (Mw st c wa ch) H H2 := ⟨trivial, kG.2.1.trans (kw.sub sw), kG.2.2.trans (kw.sub (subm_c (by simp) subm_n))⟩
          have ok6 : d6.ok := by
            rw [e6d]
            exact ⟨ok'.lf0, ok'.it0, ok'.ce0, ok'.pot, ok'.c24, ok'.c61, ok'.l11⟩
          have eb6 : EdB (ed4 k) d6 := by
            rw [e6d]
            exact ⟨ebk.ok, ebk.cn, ebk.cb, ebk.gn, ebk.gb, ebk.tn, ebk.tb, ebk.cl, ebk.gl, ebk.tl⟩
          have hl6 : d6.left ≤ 2 * m + 1 := by
            rw [e6d]
            have := hR.lf
            show d'.left ≤ _
            omega
          clear hxs hits ei4 hSA hEA hrs hps kw so mo kG
          refine q_ixL (sql hSA2) (frow_atI hkn) ?_
          iterate 1 ((first | specialize "st" | fail))
          refine ⟨M6, st, c, la4 k, xs, scr4 k, fun it => it.fits (ed4 k) (ctr (scr4 k)) ∧ it.alw 2, rfl, m51, m52, mo2, so2, hxs2, nxs, hits2, hfk, by omega, ?_⟩
          intro l1 ys1 its1 H3 hl1 nl1 hits1 hP1 hlen1 k3 so3
          have sw2 : ∀ x, x ∈ [st, c] → x ∈ M6 := subm_c m51 (subm_c m52 subm_n)
          have mo3 : MoS M6 st c H3 := mo2.kp k3
          have wi3 : WIn wa ch d6 H3 := by
            rename_i wi'
            exact WIn.kp k3 nw nc (by assumption)
          have ei3 : EIn (ea k) (ed4 k) H3 := ei2.ksub k3 (eaO k hkn) sw2
          have hEA3 := k3.out _ _ nEs hEA2
          have hrs3 : H3 rl = some (.lst rs) := k3.out _ _ nrs hrs2
          have hps3 : ps.In M6 H3 rs := hps2.kp (k3.sub sw2)
          have kG3 : True ∧ Kp M6 HR H3 ∧ Kp (Mw st c wa ch) H H3 := ⟨trivial, kG2.2.1.trans (k3.sub sw2), kG2.2.2.trans (kp_sub2 k3 (by simp) (by simp))⟩
          have nl1s : l1 ∉ [st, c] := fun z => nl1 (sw2 _ z)
          have hl1l : ys1.length ≤ 200 := by
            rw [Paired.length hits1]
            omega
          clear hxs2 hits2 ei2 hSA2 hEA2 hrs2 hps2 so2 mo2 kG2 k3 wi
          iterate 2 ((first | specialize "st" | fail))
          refine ifsj (fun σ' H4 => ∃ (y11 : Option V) (l3 : Addr) (ys3 : List V) (its3 : List Itm), σ' = [some (.ref st), some (.ref a.e), some (.ref wa), some (.int dp), some (.int (nm : Int)), some (.ref EA), some (.ref SA), some (.ref rl), some (.int (0 + (k : Int))), some (.int d'.threads), some (.ref l3), y11] ∧ H4 rl = some (.lst rs) ∧ H4 l3 = some (.lst ys3) ∧ l3 ∉ M6 ∧ Its M6 H4 ys3 its3 ∧ (∀ it ∈ its3, it.fits (ed4 k) (ctr (scr4 k)) ∧ it.alw qq) ∧ Kp M6 H3 H4 ∧ Kp (Mw st c wa ch) H H4 ∧ StOk st c H4 ∧ WIn wa ch d6 H4 ∧ MoS M6 st c H4) (fun nx' hn' => ?_) (fun σ' H4 hR4 => ?_)
          · have ph : ∀ it ∈ its1, it.fits (ed4 k) (ctr (scr4 k)) ∧ it.alw qq := fun it hit => ⟨(hP1 it hit).1, (hP1 it hit).2.up (by omega)⟩
            rcases hdp with rfl | rfl
            · repeat' (first | specialize "st" | fail)
              exact hn' _ _ ⟨_, l1, ys1, its1, rfl, hrs3, hl1, nl1, hits1, ph, Kp.refl _, kG3.2.2, so3, wi3, mo3⟩
            · have hq3 : 3 ≤ qq := by
                rw [hqq]
                decide
              repeat' (first | specialize "st" | fail)
              · refine q_cutTo (xs := ys1) (c := dn.toNat) (by omega) (by (first | exists "lift" | fail)) (fun p1 A1 f1 c1 h1 => ?_)
                obtain ⟨kn, hkn2⟩ : ∃ kn, kn = dn.toNat := ⟨_, rfl⟩
                rw [← hkn2] at h1
                repeat' (first | specialize "st" | fail)
                refine q_cutFrom (xs := ys1) (c := kn) (by omega) (by (first | exists "lift" | fail)) (fun p2 A2 f2 c2 h2' => ?_)
                refine q_catN (by (first | exists "lift" | fail)) h2' (by simp only [List.length_append, List.length_take, List.length_drop, List.length_cons, List.length_nil]; omega) (fun p Hn hp ke hn => ?_)
                repeat' (first | specialize "st" | fail)
                have hN : Its M6 Hn ys1 its1 := by (first | subst "its" | fail)
                have kH := kG3.2.2
                exact hn' _ _ ⟨_, p, _, its1.take kn ++ [Itm.nest] ++ its1.drop kn, rfl, by (first | exists "lift" | fail), hn, by (first | exists "nm" | fail), pair_app (pair_app (pair_take kn hN) (.cons ⟨_, rfl, by (first | exists "lift" | fail)⟩ .nil)) (pair_drop kn hN), fun it hit => (by
                  rcases List.mem_append.mp hit with hit | hit
                  · rcases List.mem_append.mp hit with hit | hit
                    · exact ph it (List.mem_of_mem_take hit)
                    · rw [List.mem_singleton.mp hit]
                      exact ⟨trivial, hq3⟩
                  · exact ph it (List.mem_of_mem_drop hit)), by (first | subst "kp5" | fail), by (first | subst "kpx" | fail), by (first | subst "st_ok" | fail), by (first | subst "win" | fail), by (first | exists "mok" | fail)⟩
              · have kH := kG3.2.2
                exact hn' _ _ ⟨_, l1, ys1, its1, rfl, by (first | exists "lift" | fail), by (first | exists "lift" | fail), nl1, by (first | subst "its" | fail), ph, by (first | subst "kp5" | fail), by (first | subst "kpx" | fail), by (first | subst "st_ok" | fail), by (first | subst "win" | fail), by (first | exists "mok" | fail)⟩
          · obtain ⟨y11, l3, ys3, its3, rfl, hrs4, hl3, nl3, hits3, hP3, kM3, kH4, so4, wi4, mo4⟩ := hR4
            have ei4 : EIn (ea k) (ed4 k) H4 := ei3.ksub kM3 (eaO k hkn) (fun _ h => h)
            have hEA4 := kM3.out _ _ nEA hEA3
            have hps4 : ps.In M6 H4 rs := hps3.kp kM3
            have kG4 : True ∧ Kp M6 HR H4 ∧ Kp (Mw st c wa ch) H H4 := ⟨trivial, kG3.2.1.trans kM3, kH4⟩
            clear kM3 kH4 kG3 hps3 hrs3 hEA3 ei3 wi3 mo3 so3 hits1 hl1
            repeat' (first | specialize "st" | fail)
            refine q_ixL (sql hEA4) (frow_atI hkn) ?_
            repeat' (first | specialize "st" | fail)
            refine hIt _ _ _ _ (c_items (cs := ctr (scr4 k)) ms6 mo4 so4 wi4 nw nc ei4 (eaO k hkn) eb6 ok6 hl6 hl3 nl3 hits3 hP3 ?_)
            intro ss l7 ys7 d7 H5 hl7 nl7 hss po kp5 so5 wi5
            have mo5 : MoS M6 st c H5 := moS_mw kp5 so5 wi5 mo4
            have ei5 : EIn (ea k) (ed4 k) H5 := ei4.ksub kp5 (eaO k hkn) ms6
            have en5 : EnvOk ((ed4 k).fr (ctr (scr4 k))).W ((ed4 k).fr (ctr (scr4 k))).R st c (ea k).e H5 := ei5.env2 eb6.ok (eaO k hkn) m51 m52
            have hEA5 := kp5.out _ _ (fun z => nEA (ms6 _ z)) hEA4
            have hrs5 := kp5.out _ _ hrlw hrs4
            have hps5 : ps.In M6 H5 rs := hps4.kp (kp5.sub ms6)
            have nl7s : l7 ∉ [st, c] := fun z => nl7 (sw2 _ z)
            have hy7 : ys7.length ≤ 60000 := by
              have h1 := Ss.in_len hss
              have h2 := po.sz
              have h3 := ok6.pot
              have h4 := po.evo.lf0
              have h5 := po.evo.it0
              have h6 := ok6.ce0
              have h7 := ok6.lf0
              have h8 := ok6.it0
              omega
            have kG5 : True ∧ Kp M6 HR H5 ∧ Kp (Mw st c wa ch) H H5 := ⟨trivial, kG4.2.1.trans (kp5.sub ms6), kG4.2.2.trans kp5⟩
            clear hEA4 hrs4 hps4 kG4 ei4 kp5 so4 wi4 mo4 hl3 hits3
            repeat' (first | specialize "st" | fail)
            refine q_ixL (sql hEA5) (frow_atI hkn) ?_
            repeat' (first | specialize "st" | fail)
            rename_i B1 kb1 p1 B2 hp1 eb2 hn1 p2 B3 hp2 eb3 hn2 p3 B4 hp3 eb4' hn3 B5
            have nm2 : p2 ∉ M6 := MoS.fresh (st := st) (c := c) (H := B2) (by (first | subst "st_ok" | fail)) (by (first | exists "mok" | fail)) hp2
            have n2r : p2 ≠ rl := fun z => nm2 (z ▸ m55)
            have hx2 : Hn p2 = some (.lst (ys7 ++ [v])) := by (first | exists "lift" | fail)
            have po' : ItOut qq (bfr ed4 scr4 k) { d' with threads := d'.threads + 1 } d7 ss := by
              rw [← e6d]
              exact po
            have hR' := hR.step hkn po' sk ok3 un ap4 (Int.le_refl _) (Int.le_refl _)
            have kM := kG5.2.1
            have kH := kG5.2.2
            exact ⟨_, _, _, _, d7, ps.app (.cons d'.threads (.seq (ss.app (.cons sx .nil))) .nil), _, rs ++ [.ref p], rfl, hu, Ps.app_in (by (first | subst "ps" | fail)) ⟨p, .ref p3, [], rfl, by (first | exists "lift" | fail), sxi_seq (l := p2) (by (first | exists "lift" | fail)) hx2 nm2 (Ss.app_in (by (first | subst "ss" | fail)) ⟨v, [], rfl, by (first | subst "sx" | fail), rfl⟩), rfl⟩, hR', by (first | subst "kp5" | fail), by (first | subst "kpx" | fail), by (first | subst "st_ok" | fail), by (first | subst "win" | fail), by (first | exists "mok" | fail)⟩
        · rintro σ H' ⟨x8, x9, x10, x11, d', ps, fs, rs, rfl, hrs, hps, hR, kM, kH, so, wi, mo⟩
          rw [e1] at hR
          rw [hqq] at hR
          repeat' (first | specialize "st" | fail)
          have hpar : ParOut dp (eo.fr []) d d' (.par ps) := hR.par (by omega) dok (by rw [ev3.th]; exact ecd.2.2.1) (by rw [evl]; exact ecd.1) (by rw [evi]; exact ecd.2.1) (by rw [ev3.al]; exact ecd.2.2.2.1) (by rw [ev3.lo]; exact ecd.2.2.2.2) hc9.1 hc9.2 (by obtain ⟨j, ej⟩ := ev3.ch; exact ⟨j, by rw [ej, hd2]⟩) hF
          exact q (.par ps) _ d' _ ⟨_, rl, rs, rfl, by (first | exists "lift" | fail), by (first | exists "lift" | fail), nrM, Ps.In.less ml6 (hps.kp ke.kp)⟩ hpar (by (first | subst "kpx" | fail)) (by (first | subst "st_ok" | fail)) (by (first | subst "win" | fail))
theorem cal_false {x : Str} {st : Stmt} {N ps : List Str} (D : Dn K mg x st ps) (S : FnScope N ps (defScope st)) (k : Nat) : Cal P w K mg base x (k + 1) ps (fun _ _ _ _ => False) :=
  D.ok S (fun _ _ _ _ h => h.elim) (fun _ _ _ _ _ _ _ _ _ _ h => h.elim)
section
variable (T : Glo K w mg) (D_items : Dn K mg "_law_items" s__law_items p__law_items) (D_par : Dn K mg "_law_par" s__law_par p__law_par)
  (G__law_draw : Cal P w K mg base "_law_draw" 1 p__law_draw sp_draw) (G__law_expression : Cal P w K mg base "_law_expression" 7 p__law_expression (sp_expr 3)) (G__law_target : Cal P w K mg base "_law_target" 4 p__law_target sp_target)
  (G__law_simple : Cal P w K mg base "_law_simple" 9 p__law_simple (sp_sx 3 5 7)) (G__law_alt : Cal P w K mg base "_law_alt" 10 p__law_alt sp_alt) (G__law_wrapped : Cal P w K mg base "_law_wrapped" 9 p__law_wrapped sp_wrap)
  (G__law_env : Cal P w K mg base "_law_env" 2 p__law_env sp_env) (G__law_meetings : Cal P w K mg base "_law_meetings" 3 p__law_meetings sp_meet) (G__law_shared : Cal P w K mg base "_law_shared" 2 p__law_shared sp_shared) (G__law_faulty : Cal P w K mg base "_law_faulty" 2 p__law_faulty sp_faulty)
include T D_items D_par G__law_draw G__law_expression G__law_target G__law_simple G__law_alt G__law_wrapped G__law_env G__law_meetings G__law_shared G__law_faulty
/-- items without pars and loops, at any level -/
theorem items_flat (L : Nat) (hL : 11 ≤ L) (n : Nat) : Cal P w K mg base "_law_items" (L + 1) p__law_items (sp_itemsQ (fun q => q = 1) n) := by
  obtain ⟨k, rfl⟩ : ∃ k, L = k + 1 := ⟨L - 1, by omega⟩
  exact ok_items T D_items (k + 1) hL (fun q => q = 1) n (sI := fun _ _ _ _ => False) (sP := fun _ _ _ _ => False) (fun q0 h z => by omega) G__law_draw G__law_expression G__law_target G__law_simple G__law_alt G__law_wrapped (cal_false D_items sc__law_items k) (cal_false D_par sc__law_par k)
theorem par_all : ∀ n : Nat, Cal P w K mg base "_law_par" (12 + 2 * n) p__law_par (sp_par n)
  | 0 => ok_par T D_par 11 (by decide) 0 (sI := fun _ _ _ _ => False) (fun m h => by omega) G__law_draw G__law_env G__law_meetings G__law_shared G__law_faulty G__law_simple (cal_false D_items sc__law_items 10)
  | n + 1 => by
    have hp := par_all n
    have hf := items_flat T D_items D_par G__law_draw G__law_expression G__law_target G__law_simple G__law_alt G__law_wrapped G__law_env G__law_meetings G__law_shared G__law_faulty (11 + 2 * n) (by omega) n
    rw [show 11 + 2 * n + 1 = 12 + 2 * n by omega] at hf
    have hi : Cal P w K mg base "_law_items" (12 + 2 * n + 1) p__law_items (sp_itemsQ (fun q => q = 2 ∨ q = 3) n) :=
      ok_items T D_items (12 + 2 * n) (by omega) (fun q => q = 2 ∨ q = 3) n (sI := sp_itemsQ (fun q => q = 1) n) (sP := sp_par n) (fun q0 _ _ => ⟨fun vs H Q E h => ⟨1, rfl, h⟩, fun vs H Q E h => h⟩) G__law_draw G__law_expression G__law_target G__law_simple G__law_alt G__law_wrapped hf hp
    have h2 := ok_par T D_par (12 + 2 * n + 1) (by omega) (n + 1) (sI := sp_itemsQ (fun q => q = 2 ∨ q = 3) n) (fun m hm q hq vs H Q E h => by
      have : m = n := by omega
      subst this
      exact ⟨q, hq, h⟩) G__law_draw G__law_env G__law_meetings G__law_shared G__law_faulty G__law_simple hi
    rw [show 12 + 2 * n + 1 + 1 = 12 + 2 * (n + 1) by omega] at h2
    exact h2
end
abbrev s__law_core : Stmt := topS 37
theorem sc__law_core : FnScope ["state", "alts", "ins", "outs", "channels", "loops", "world", "env", "body", "k", "c"] ["state", "alts"] (defScope s__law_core) := ⟨rfl, rfl, rfl, by decide +kernel, rfl, by decide +kernel, by decide +kernel⟩
abbrev p__law_core : List Str := ["state", "alts"]
/-- a core as data -/
structure CoreD where
  cells : Int
  chs : List Str
  ss : Ss
def CoreD.In (M : List Addr) (H : Hp) (cd : CoreD) (v : V) : Prop := ∃ p ch s, v = .ref p ∧ H p = some (.tup [.str "core", .int cd.cells, .ref ch, s]) ∧ H ch = some (.lst (cd.chs.map V.str)) ∧ ch ∉ M ∧ (Sx.seq cd.ss).In M H s
structure CoreD.ok (cd : CoreD) : Prop where
  c0 : 0 ≤ cd.cells
  c1 : cd.cells ≤ 61
  ch : ∃ i o j : Nat, i ≤ 2 ∧ o ≤ 2 ∧ cd.chs = List.replicate i ("in" : Str) ++ List.replicate o ("out" : Str) ++ List.replicate j ("inner" : Str) ∧
    cd.ss.fit ⟨fun x => 0 ≤ x ∧ x < cd.cells, fun x => 0 ≤ x ∧ x < cd.cells, fun x => (i : Int) ≤ x ∧ x < cd.chs.length, fun x => 0 ≤ x ∧ x < cd.chs.length ∧ (x < i ∨ (i + o : Int) ≤ x)⟩
  c24 : cd.chs.length ≤ 24
  rule : cd.ss.rule
  num : cd.ss.num 1
  cnt : cd.ss.cnt ≤ 11
  dep : cd.ss.dep ≤ 70
  sz : cd.ss.sz ≤ 6000
  wk0 : 0 ≤ cd.ss.wk
  wk : cd.ss.wk ≤ 2900
def sp_core : Sp := fun vs H Q _ => ∃ (st c : Addr) (al : Bool), vs = [.ref st, .bl al] ∧ StOk st c H ∧ ∀ (cd : CoreD) (v : V) (H' : Hp), cd.In [st, c] H' v → cd.ok → Kp [st, c] H H' → StOk st c H' → Q v H'
theorem q_eqB {a b : Int} {H : Hp} {Q : VK} (q : Q (.bl (decide (a = b))) H) : rEqA K (.int a) (.int b) H Q := by
  by_cases h : a = b
  · rw [decide_eq_true h] at q
    exact q_eqI (fun _ => q) (fun z => absurd h z)
  · rw [decide_eq_false h] at q
    exact q_eqI (fun z => absurd z h) (fun _ => q)
theorem q_ifc {lb : Bool} {a b : Int} {σ : L2.St} {H : Hp} {Q : VK} (q : Q (.int (if lb = true then a else b)) H) : if lb = true then tC (.int a) σ H Q else tC (.int b) σ H Q := by
  cases lb
  · exact q
  · exact q
/-- a new list for one of the env's -/
theorem EIn.takesN {a : Ea} {e : Ed} {H H' : Hp} {l : Addr} {kvs : List (Key × V)} {cs : List Int} (h : EIn a e H) (nd : a.all.Nodup) (hk : H a.e = some (.dK kvs)) (k : Kp [a.e] H H') (hn : H' a.e = some (.dK (putK kvs (Sum.inr "takes") (.ref l)))) (hl : H l = some (.lst (cs.map V.int))) (nl : l ≠ a.e) : EIn { a with ta := l } { e with takes := cs } H' := by
  obtain ⟨⟨kv, h1, h2, h3, h4, h5, h6, h7⟩, hc, hr, hg, ht, vs, hs, hp⟩ := h
  rw [hk] at h1
  cases h1
  have nd' : [a.e, a.ca, a.ra, a.sa, a.ga, a.ta].Nodup := nd
  simp only [List.nodup_cons, List.mem_cons, List.not_mem_nil, or_false, not_or] at nd'
  obtain ⟨⟨n01, n02, n03, n04, n05⟩, _⟩ := nd'
  have o : ∀ {x : Addr} {u : HO}, a.e ≠ x → H x = some u → H' x = some u := fun {x u} n h => k.out _ _ (fun z => n (List.mem_singleton.mp z).symm) h
  have hv : valV (putK kvs (Sum.inr "takes") (.ref l)) (Sum.inr "takes") = some (.ref l) := vput_eq
  exact ⟨⟨_, hn, by rw [putK_len h7]; exact h2, vput_ne h3 (by decide +kernel), vput_ne h4 (by decide +kernel), vput_ne h5 (by decide +kernel), vput_ne h6 (by decide +kernel), hv⟩, o n01 hc, o n02 hr, o n04 hg, o (Ne.symm nl) hl, vs, o n03 hs, Paired.mapP hp fun _ _ ⟨q, e, z⟩ => ⟨q, e, k.tup _ _ z⟩⟩
theorem EIn.givesN {a : Ea} {e : Ed} {H H' : Hp} {l : Addr} {kvs : List (Key × V)} {cs : List Int} (h : EIn a e H) (n01 : a.e ≠ a.ca) (n02 : a.e ≠ a.ra) (n03 : a.e ≠ a.sa) (n05 : a.e ≠ a.ta) (hk : H a.e = some (.dK kvs)) (k : Kp [a.e] H H') (hn : H' a.e = some (.dK (putK kvs (Sum.inr "gives") (.ref l)))) (hl : H l = some (.lst (cs.map V.int))) (nl : l ≠ a.e) : EIn { a with ga := l } { e with gives := cs } H' := by
  obtain ⟨⟨kv, h1, h2, h3, h4, h5, h6, h7⟩, hc, hr, hg, ht, vs, hs, hp⟩ := h
  rw [hk] at h1
  cases h1
  have o : ∀ {x : Addr} {u : HO}, a.e ≠ x → H x = some u → H' x = some u := fun {x u} n h => k.out _ _ (fun z => n (List.mem_singleton.mp z).symm) h
  have hv : valV (putK kvs (Sum.inr "gives") (.ref l)) (Sum.inr "gives") = some (.ref l) := vput_eq
  exact ⟨⟨_, hn, by rw [putK_len h6]; exact h2, vput_ne h3 (by decide +kernel), vput_ne h4 (by decide +kernel), vput_ne h5 (by decide +kernel), hv, vput_ne h7 (by decide +kernel)⟩, o n01 hc, o n02 hr, o (Ne.symm nl) hl, o n05 ht, vs, o n03 hs, Paired.mapP hp fun _ _ ⟨q, e, z⟩ => ⟨q, e, k.tup _ _ z⟩⟩
/-- the body of a core under construction -/
structure BdI (F0 : Fr) (d d' : Wd) (A B : Int) (ss : Ss) : Prop where
  evo : Evo d d' ss.cnt
  fit : ∀ F, F0.le F → Rg d d' F → ss.fit F
  rule : ss.rule
  num : ss.num d.threads
  dep : (ss.dep : Int) ≤ 4 * d.left + 8
  sz : (ss.sz : Int) ≤ A + 140 * (d.items - d'.items) + 7 * (d.left - d'.left)
  wk0 : 0 ≤ ss.wk
  wk : ss.wk ≤ B + wkb 3 d.loops (d.items - d'.items) (d.left - d'.left)
theorem BdI.nil {F0 : Fr} {d : Wd} (o : d.ok) : BdI F0 d d 0 0 .nil := by
  have := o.lf0
  have h5 := @wkb_nn 3 d.loops (d.items - d.items) (d.left - d.left) (by omega) (by omega)
  exact ⟨Evo.refl o, fun _ _ _ => trivial, trivial, trivial, by simp only [Ss.dep]; omega, by simp [Ss.sz], by simp [Ss.wk], by simp only [Ss.wk]; omega⟩
theorem BdI.plain {F0 : Fr} {d d' : Wd} {A B k : Int} {ss : Ss} {s : Sx} {D S : Nat} (h : BdI F0 d d' A B ss) (o : d.ok) (p : s.Pl F0 D S k) (hD : D ≤ 3) (hS : S ≤ 5) : BdI F0 d d' (A + 5) (B + k) (ss.app (.cons s .nil)) := by
  have h1 := h.dep
  have h2 := h.sz
  have h3 := h.wk
  have h4 := h.wk0
  have p1 := p.dep
  have p2 := p.sz
  have p3 := p.wk
  have p4 := Sx.wk0 p.fit
  have p0 := p.cnt
  have l0 := o.lf0
  refine ⟨?_, fun F l r => Ss.app_fit.mpr ⟨h.fit F l r, p.fit.mono l, trivial⟩, Ss.app_rule.mpr ⟨h.rule, p.rule, trivial⟩, Ss.app_num.mpr ⟨h.num, Sx.num0 p0 _, trivial⟩, ?_, ?_, ?_, ?_⟩
  · rw [Ss.app_cnt]
    simp only [Ss.cnt, p0]
    exact h.evo
  · rw [Ss.app_dep]
    simp only [Ss.dep]
    omega
  · rw [Ss.app_sz]
    simp only [Ss.sz]
    omega
  · rw [Ss.app_wk]
    simp only [Ss.wk]
    omega
  · rw [Ss.app_wk]
    simp only [Ss.wk]
    omega
theorem BdI.par {F0 F1 : Fr} {d d1 d2 : Wd} {A B : Int} {ss : Ss} {s : Sx} (h : BdI F0 d d1 A B ss) (p : ParOut 1 F1 d1 d2 s) (hF : F1.le F0) : BdI F0 d d2 (A + 1) (B + 1) (ss.app (.cons s .nil)) := by
  have e1 := h.evo
  have e2 := p.evo
  have h1 := h.dep
  have h2 := h.sz
  have h3 := h.wk
  have h4 := h.wk0
  have p1 := p.dep
  have p2 := p.sz
  have p3 := p.wk
  have p4 := p.wk0
  have l1 := e1.lf
  rw [e1.lo] at p3
  have h9 := @wkb_add 3 d.loops (d.items - d1.items) (d1.items - d2.items) (d.left - d1.left) (d1.left - d2.left)
  rw [show d.items - d1.items + (d1.items - d2.items) = d.items - d2.items by omega, show d.left - d1.left + (d1.left - d2.left) = d.left - d2.left by omega] at h9
  rw [if_neg (by decide)] at p3
  refine ⟨?_, fun F l r => Ss.app_fit.mpr ⟨h.fit F l (r.left e2), p.fit F (hF.trans l) (r.right e1), trivial⟩, Ss.app_rule.mpr ⟨h.rule, p.rule, trivial⟩, Ss.app_num.mpr ⟨h.num, ?_, trivial⟩, ?_, ?_, ?_, ?_⟩
  · rw [Ss.app_cnt]
    exact e1.trans e2
  · rw [← e1.th]
    exact p.num
  · rw [Ss.app_dep]
    simp only [Ss.dep]
    omega
  · rw [Ss.app_sz]
    simp only [Ss.sz]
    omega
  · rw [Ss.app_wk]
    simp only [Ss.wk]
    omega
  · rw [Ss.app_wk, h9]
    simp only [Ss.wk]
    omega
theorem BdI.up {F0 : Fr} {d d' : Wd} {A B A' B' : Int} {ss : Ss} (h : BdI F0 d d' A B ss) (a : A ≤ A') (b : B ≤ B') : BdI F0 d d' A' B' ss := ⟨h.evo, h.fit, h.rule, h.num, h.dep, by have := h.sz; omega, h.wk0, by have := h.wk; omega⟩
theorem range_nd : ∀ n : Nat, ∀ z : Int, ((List.range n).map fun k : Nat => z + ((0 : Int) + (k : Int))).Nodup
  | 0, _ => List.nodup_nil
  | n + 1, z => by
    rw [List.range_succ, List.map_append]
    refine nodup_snoc (range_nd n z) fun h => ?_
    obtain ⟨k, hk, e⟩ := List.mem_map.mp h
    have e' : z + ((0 : Int) + (k : Int)) = z + ((0 : Int) + (n : Int)) := e
    have := List.mem_range.mp hk
    omega
theorem ok_core (T : Glo K w mg) (D : Dn K mg "_law_core" s__law_core p__law_core) (G__law_draw : Cal P w K mg base "_law_draw" 1 p__law_draw sp_draw) (G__law_env : Cal P w K mg base "_law_env" 2 p__law_env sp_env) (G__law_expression : Cal P w K mg base "_law_expression" 7 p__law_expression (sp_expr 3))
    (G__law_set : Cal P w K mg base "_law_set" 8 p__law_set (sp_sx 1 1 1)) (G__law_simple : Cal P w K mg base "_law_simple" 9 p__law_simple (sp_sx 3 5 7)) (G__law_par : Cal P w K mg base "_law_par" 22 p__law_par (sp_par 5)) :
    Cal P w K mg base "_law_core" 23 p__law_core sp_core := by
  refine D.ok sc__law_core (fun vs H Q E h => ?_) (fun f cdv A outer s H vs Q E hr h => ?_)
  · obtain ⟨_, _, _, rfl, _⟩ := h
    rfl
  obtain ⟨st, c, al, rfl, so, q⟩ := h
  have so0 := so
  refine ⟨_, (pss_cons (ps_set (i := 2) sc__law_core.nd rfl (by first | exact Or.inl rfl | exact Or.inr rfl) (pe_cal G__law_draw (hr.mono (by (first | subst "lev" | fail))) rfl (pa_cons (pv 0) (pa_cons pe_int pa_nil)))) (pss_cons (ps_set (i := 3) sc__law_core.nd rfl (by first | exact Or.inl rfl | exact Or.inr rfl) (pe_cal G__law_draw (hr.mono (by (first | subst "lev" | fail))) rfl (pa_cons (pv 0) (pa_cons pe_int pa_nil)))) (pss_cons (ps_set (i := 4) sc__law_core.nd rfl (by first | exact Or.inl rfl | exact Or.inr rfl) (pe_op op_addA (pe_lc (own := [("k", 9)]) (tt := tYes) rfl sc__law_core.nd (pi_range1 rfl T.n_range (pa_cons (pv 2) pa_nil)) (blkOk_by (N := ["state", "alts", "ins", "outs", "channels", "loops", "world", "env", "body", "k", "c"]) (sc := defScope s__law_core) (by decide +kernel)) (fun _ _ _ _ _ => (pg_name (i := 9) sc__law_core.nd rfl (by first | exact Or.inl rfl | exact Or.inr rfl))) (fun _ _ _ _ _ => pts_nil) (fun _ _ _ _ _ => pe_str)) (pe_lc (own := [("k", 9)]) (tt := tYes) rfl sc__law_core.nd (pi_range1 rfl T.n_range (pa_cons (pv 3) pa_nil)) (blkOk_by (N := ["state", "alts", "ins", "outs", "channels", "loops", "world", "env", "body", "k", "c"]) (sc := defScope s__law_core) (by decide +kernel)) (fun _ _ _ _ _ => (pg_name (i := 9) sc__law_core.nd rfl (by first | exact Or.inl rfl | exact Or.inr rfl))) (fun _ _ _ _ _ => pts_nil) (fun _ _ _ _ _ => pe_str)))) (pss_cons (ps_set (i := 5) sc__law_core.nd rfl (by first | exact Or.inl rfl | exact Or.inr rfl) (pe_cmpR (op_eqA (hu64 hr)) (pe_cal G__law_draw (hr.mono (by (first | subst "lev" | fail))) rfl (pa_cons (pv 0) (pa_cons pe_int pa_nil))) pe_int (nomark _))) (pss_cons (ps_set (i := 6) sc__law_core.nd rfl (by first | exact Or.inl rfl | exact Or.inr rfl) (pe_disp (pps_cons pe_str pe_int (pps_cons pe_str pe_int (pps_cons pe_str (pe_ifExp (pt_val (pv 5)) pe_int pe_int) (pps_cons pe_str pe_int (pps_cons pe_str (pv 4) (pps_cons pe_str (pv 1) (pps_cons pe_str (pv 5) pps_nil))))))) rfl rfl (by simp) (by decide))) (pss_cons (ps_set (i := 7) sc__law_core.nd rfl (by first | exact Or.inl rfl | exact Or.inr rfl) (pe_cal G__law_env (hr.mono (by (first | subst "lev" | fail))) rfl (pa_cons (pv 0) (pa_cons (pv 6) pa_nil)))) (pss_cons (ps_dput (hu_of hr) (pv 7) pe_str (pe_lc (own := [("c", 10)]) (tt := tYes) rfl sc__law_core.nd (pi_range1 rfl T.n_range (pa_cons (pv 2) pa_nil)) (blkOk_by (N := ["state", "alts", "ins", "outs", "channels", "loops", "world", "env", "body", "k", "c"]) (sc := defScope s__law_core) (by decide +kernel)) (fun _ _ _ _ _ => (pg_name (i := 10) sc__law_core.nd rfl (by first | exact Or.inl rfl | exact Or.inr rfl))) (fun _ _ _ _ _ => pts_nil) (fun _ _ _ _ _ => (pv 10))) rfl) (pss_cons (ps_dput (hu_of hr) (pv 7) pe_str (pe_lc (own := [("c", 10)]) (tt := tYes) rfl sc__law_core.nd (pi_range1 rfl T.n_range (pa_cons (pv 3) pa_nil)) (blkOk_by (N := ["state", "alts", "ins", "outs", "channels", "loops", "world", "env", "body", "k", "c"]) (sc := defScope s__law_core) (by decide +kernel)) (fun _ _ _ _ _ => (pg_name (i := 10) sc__law_core.nd rfl (by first | exact Or.inl rfl | exact Or.inr rfl))) (fun _ _ _ _ _ => pts_nil) (fun _ _ _ _ _ => (pe_op (op_addK (K := K) rfl) (pv 2) (pv 10)))) rfl) (pss_cons (ps_setLc (i := 8) (own := [("k", 9)]) (tt := tYes) rfl sc__law_core.nd rfl rfl (sw_true rfl rfl rfl (by decide +kernel)) (pi_range1 rfl T.n_range (pa_cons (pe_cal G__law_draw (hr.mono (by (first | subst "lev" | fail))) rfl (pa_cons (pv 0) (pa_cons pe_int pa_nil))) pa_nil)) (blkOk_by (N := ["state", "alts", "ins", "outs", "channels", "loops", "world", "env", "body", "k", "c"]) (sc := defScope s__law_core) (by decide +kernel)) (fun _ _ _ _ _ => (pg_name (i := 9) sc__law_core.nd rfl (by first | exact Or.inl rfl | exact Or.inr rfl))) (fun _ _ _ _ _ => pts_nil) (fun _ _ _ _ _ => (pe_cal G__law_set (hr.mono (by (first | subst "lev" | fail))) rfl (pa_cons (pv 0) (pa_cons (pv 7) pa_nil))))) (pss_cons (ps_for PassesOwn.never rfl (pi_range1 rfl T.n_range (pa_cons (pe_op op_addA pe_int (pe_cal G__law_draw (hr.mono (by (first | subst "lev" | fail))) rfl (pa_cons (pv 0) (pa_cons pe_int pa_nil)))) pa_nil)) (pg_name (i := 9) sc__law_core.nd rfl (by first | exact Or.inl rfl | exact Or.inr rfl)) (pss_cons (ps_expr (pe_bm PySem.F.plainAttrs_list PySem.F.slot_list_append PySem.F.type_list_append mt_append (pv 8) (pa_cons (pe_cal G__law_par (hr.mono (by (first | subst "lev" | fail))) rfl (pa_cons (pv 0) (pa_cons (pv 7) (pa_cons (pv 6) (pa_cons pe_int pa_nil))))) pa_nil))) (pss_one (ps_expr (pe_bm PySem.F.plainAttrs_list PySem.F.slot_list_append PySem.F.type_list_append mt_append (pv 8) (pa_cons (pe_cal G__law_simple (hr.mono (by (first | subst "lev" | fail))) rfl (pa_cons (pv 0) (pa_cons (pv 7) pa_nil))) pa_nil)))))) (pss_cons (ps_for PassesOwn.never rfl (pi_list (pe_dget (hu_of hr) (pv 7) pe_str (fun _ _ => rfl))) (pg_name (i := 10) sc__law_core.nd rfl (by first | exact Or.inl rfl | exact Or.inr rfl)) (pss_one (ps_if (pt_cmpR (op_eqA (hu64 hr)) (pe_cal G__law_draw (hr.mono (by (first | subst "lev" | fail))) rfl (pa_cons (pv 0) (pa_cons pe_int pa_nil))) pe_int (nomark _)) (pss_one (ps_expr (pe_bm PySem.F.plainAttrs_list PySem.F.slot_list_append PySem.F.type_list_append mt_append (pv 8) (pa_cons (pe_tup (pa_cons pe_str (pa_cons (pv 10) (pa_cons (pe_cal G__law_expression (hr.mono (by (first | subst "lev" | fail))) rfl (pa_cons (pv 0) (pa_cons (pv 7) (pa_cons pe_int pa_nil)))) pa_nil)))) pa_nil)))) pss_nil))) (pss_one (ps_ret (pe_tup (pa_cons pe_str (pa_cons (pe_dget (hu_of hr) (pv 6) pe_str (fun _ _ => rfl)) (pa_cons (pe_dget (hu_of hr) (pv 6) pe_str (fun _ _ => rfl)) (pa_cons (pe_tup (pa_cons pe_str (pa_cons (pv 8) pa_nil))) pa_nil)))))))))))))))))), ?_⟩
  try dsimp only [cxOf, Cx.nox]
  repeat' (first | specialize "st" | fail)
  rename_i dI A1 i0 i1 k1 s1
  obtain ⟨ni, rfl⟩ : ∃ ni : Nat, dI = (ni : Int) := ⟨dI.toNat, by omega⟩
  obtain ⟨no, rfl⟩ : ∃ no : Nat, dn = (no : Int) := ⟨dn.toNat, by omega⟩
  have hni : ni ≤ 2 := by omega
  have hno : no ≤ 2 := by omega
  have kH0 : True ∧ Kp [st, c] H Hn := ⟨trivial, k1.trans ke⟩
  obtain ⟨H1, rfl⟩ : ∃ x, x = Hn := ⟨_, rfl⟩
  clear k1 s1 ke n0 n1 i0 i1
  intro D1 hD1
  refine lc_range (lo := 0) (n := _) (fun m H' => Ex H1 H' ∧ H' D1 = some (.lst ((List.replicate m ("in" : Str)).map V.str))) ?_ ?_ ?_
  · exact ⟨Ex.mk hD1 rfl, upd_same⟩
  · rintro m H' hm ⟨e, h1⟩
    have hm2 : m < 2 := by omega
    refine ⟨rfl, ?_⟩
    repeat' (first | specialize "st" | fail)
    refine ⟨_, h1, sl1000' (by rw [List.length_map, List.length_replicate]; omega), fun b u hb => ?_, ?_⟩
    · rw [upd_ne (ne_of_none hb hD1)]
      exact e _ _ hb
    · rw [upd_same, List.replicate_succ', List.map_append]
      rfl
  · rintro H2 ⟨e2, h2⟩
    rw [show ((ni : Int)).toNat = ni by omega] at h2
    repeat' (first | specialize "st" | fail)
    intro D2 hD2
    refine lc_range (lo := 0) (n := _) (fun m H' => Ex H2 H' ∧ H' D2 = some (.lst ((List.replicate m ("out" : Str)).map V.str))) ?_ ?_ ?_
    · exact ⟨Ex.mk hD2 rfl, upd_same⟩
    · rintro m H' hm ⟨e, h1⟩
      have hm2 : m < 2 := by omega
      refine ⟨rfl, ?_⟩
      repeat' (first | specialize "st" | fail)
      refine ⟨_, h1, sl1000' (by rw [List.length_map, List.length_replicate]; omega), fun b u hb => ?_, ?_⟩
      · rw [upd_ne (ne_of_none hb hD2)]
        exact e _ _ hb
      · rw [upd_same, List.replicate_succ', List.map_append]
        rfl
    · rintro H3 ⟨e3, h3⟩
      rw [show ((no : Int)).toNat = no by omega] at h3
      refine q_catN (e3 _ _ h2) h3 (by simp only [List.length_map, List.length_replicate]; omega) (fun ch H4 hch e4 h4 => ?_)
      rw [← List.map_append] at h4
      have kH4 : True ∧ Kp [st, c] H H4 := ⟨trivial, ((kH0.2.trans e2.kp).trans e3.kp).trans e4.kp⟩
      have so4 : StOk st c H4 := st_ex e4 (st_ex e3 (st_ex e2 so))
      have hnc : ch ∉ [st, c] := st_fresh (st_ex e3 (st_ex e2 so)) hch
      have hch0 : H ch = none := free_backK ((kH0.2.trans e2.kp).trans e3.kp) hnc hch
      clear e2 e3 e4 h2 h3 hD1 hD2 so kH0 hch
      iterate 12 ((first | specialize "st" | fail))
      refine q_eqB ?_
      obtain ⟨lb, elb⟩ : ∃ lb, lb = decide (dn = 0) := ⟨_, rfl⟩
      rw [← elb]
      repeat' (first | specialize "st" | fail)
      refine q_ifc ?_
      obtain ⟨it, eit⟩ : ∃ it : Int, it = (if lb = true then 10 else 14) := ⟨_, rfl⟩
      rw [← eit]
      have it30 : 10 ≤ it ∧ it ≤ 14 ∧ (lb = true → it = 10) := by
        rw [eit]
        cases lb <;> simp
      repeat' (first | specialize "st" | fail)
      rename_i H5 k5
      have h4' : H5 ch = some (.lst ((List.replicate ni ("in" : Str) ++ List.replicate no ("out" : Str)).map V.str)) := k5.out _ _ hnc h4
      have ndp : dp ∉ [st, c] := st_fresh so hdp
      have ncd : ch ≠ dp := ne_of_none h4' hdp
      have kH5 : Kp [st, c] H H5 := kH4.2.trans k5
      have hdp0 : H dp = none := free_backK kH5 ndp hdp
      have soN : StOk st c Hn := st_ex ke so
      obtain ⟨chs, echs⟩ : ∃ chs, chs = List.replicate ni ("in" : Str) ++ List.replicate no ("out" : Str) := ⟨_, rfl⟩
      rw [← echs] at h4'
      refine q_disp [(Sum.inr "threads", .int 1), (Sum.inr "left", .int 11), (Sum.inr "items", .int it), (Sum.inr "cells", .int 0), (Sum.inr "channels", .ref ch), (Sum.inr "alts", .bl al), (Sum.inr "loops", .bl lb)] hdn rfl (by show ([Sum.inr "threads", Sum.inr "left", Sum.inr "items", Sum.inr "cells", Sum.inr "channels", Sum.inr "alts", Sum.inr "loops"] : List Key).Nodup; decide +kernel) (by show 7 ≤ 15; decide) ?_
      intro H6 k6 h6
      have wi6 : WIn dp ch ⟨1, 11, it, 0, al, lb, chs⟩ H6 := ⟨⟨_, h6, by show 7 ≤ 20; decide, rfl, rfl, rfl, rfl, rfl, rfl, rfl⟩, k6.out _ _ (fun z => ncd (List.mem_singleton.mp z)) (ke _ _ h4'), Ne.symm ncd⟩
      have so6 : StOk st c H6 := st_kpx k6 (alln_c ndp alln_n) soN
      have kH6 : Kp [st, c] H H6 := kp_fresh (kH5.trans ke.kp) k6 (fun x hx => .inr (by rw [List.mem_singleton.mp hx]; exact hdp0))
      clear kH4 kH5 h4 h4' hdp hdn soN so so4 k5 ke k6 h6
      repeat' (first | specialize "st" | fail)
      refine c_env so6 wi6 ndp hnc (by show (0 : Int) ≤ 0; decide) (by show (0 : Int) ≤ 2000; decide) ?_
      intro a ed m H7 hf nd hin fr k7 so7 wi7
      obtain ⟨wa, rfl⟩ : ∃ x, x = dp := ⟨_, rfl⟩
      have fr : ed.fresh 0 m := fr
      obtain ⟨⟨kvs, g1, g2, _⟩, _⟩ := id hin
      have ha0 : ∀ x ∈ a.all, H x = none ∧ x ∉ [st, c] := fun x hx => ⟨free_backK kH6 (st_fresh so6 (hf x hx)) (hf x hx), st_fresh so6 (hf x hx)⟩
      have kH7 : Kp [st, c] H H7 := kp_fresh kH6 k7 (fun x hx => by
        simp only [List.mem_cons, List.not_mem_nil, or_false] at hx ⊢
        rcases hx with h | h | h
        · exact .inl (.inl h)
        · exact .inl (.inr h)
        · exact .inr (by rw [h]; exact hdp0))
      have nd' : [a.e, a.ca, a.ra, a.sa, a.ga, a.ta].Nodup := nd
      simp only [List.nodup_cons, List.mem_cons, List.not_mem_nil, or_false, not_or] at nd'
      obtain ⟨⟨n01, n02, n03, n04, n05⟩, _⟩ := nd'
      have hae := ha0 a.e (by simp [Ea.all])
      have hwa := wi7.al
      have nae : wa ∉ [a.e] ∧ ch ∉ [a.e] := by
        have h1 : H6 a.e = none := hf a.e (by simp [Ea.all])
        constructor <;>
        · intro z
          have z' := List.mem_singleton.mp z
          first
          | exact wi6.al.1 (by rw [z']; exact h1)
          | exact wi6.al.2 (by rw [z']; exact h1)
      have out7 : a.out [wa, ch] := fun x hx z => by
        have h1 := hf x hx
        simp only [List.mem_cons, List.not_mem_nil, or_false] at z
        rcases z with rfl | rfl
        · exact wi6.al.1 h1
        · exact wi6.al.2 h1
      clear wi6 so6 k7 kH6 hf
      repeat' (first | specialize "st" | fail)
      intro DT hDT
      refine lc_range (lo := 0) (n := _) (fun i H' => Ex H7 H' ∧ H' DT = some (.lst (((List.range i).map fun k : Nat => (0 : Int) + k).map V.int))) ?_ ?_ ?_
      · exact ⟨Ex.mk hDT rfl, upd_same⟩
      · rintro i H' hi ⟨e, h1⟩
        refine ⟨rfl, ?_⟩
        repeat' (first | specialize "st" | fail)
        refine ⟨_, h1, sl1000' (by rw [List.length_map, List.length_map, List.length_range]; omega), fun b u hb => ?_, ?_⟩
        · rw [upd_ne (ne_of_none hb hDT)]
          exact e _ _ hb
        · rw [upd_same, List.range_succ, List.map_append, List.map_append]
          rfl
      · rintro H8 ⟨e8, h8⟩
        rw [show ((ni : Int)).toNat = ni by omega] at h8
        have g18 := e8 _ _ g1
        have hin8 := hin.exx e8
        have nDT : DT ≠ a.e := Ne.symm (ne_of_none g1 hDT)
        have kH8 : Kp [st, c] H H8 := kH7.trans e8.kp
        have hDT0 : H DT = none := free_backK kH7 (st_fresh so7 hDT) hDT
        have so8 : StOk st c H8 := st_ex e8 so7
        have wi8 := wi7.exx e8
        have nDTw : DT ∉ [wa, ch] := fun z => by
          simp only [List.mem_cons, List.not_mem_nil, or_false] at z
          rcases z with rfl | rfl
          · exact wi7.al.1 hDT
          · exact wi7.al.2 hDT
        clear e8 g1 hin so7 wi7 kH7 hDT
        repeat' (first | specialize "st" | fail)
        refine q_dputS g18 (by omega) ?_
        intro H9 k9 u9
        obtain ⟨tks, etk⟩ : ∃ tks, tks = (List.range ni).map fun k : Nat => (0 : Int) + k := ⟨_, rfl⟩
        rw [← etk] at h8
        have ein9 := hin8.takesN nd g18 k9 u9 h8 nDT
        have kH9 : Kp [st, c] H H9 := kp_fresh kH8 k9 (fun x hx => .inr (by rw [List.mem_singleton.mp hx]; exact hae.1))
        have so9 : StOk st c H9 := st_kpx k9 (alln_c hae.2 alln_n) so8
        have wi9 := wi8.kp k9 nae.1 nae.2
        have hlen9 : (putK kvs (Sum.inr "takes") (V.ref DT)).length ≤ 1000 := by
          obtain ⟨⟨kv2, q1, q2, _⟩, _⟩ := ein9
          have q1' : H9 a.e = some (.dK kv2) := q1
          rw [u9] at q1'
          cases q1'
          omega
        clear hin8 g18 kH8 so8 wi8 k9 h8
        repeat' (first | specialize "st" | fail)
        intro DG hDG
        refine lc_range (lo := 0) (n := _) (fun i H' => Ex H9 H' ∧ H' DG = some (.lst (((List.range i).map fun k : Nat => (ni : Int) + ((0 : Int) + k)).map V.int))) ?_ ?_ ?_
        · exact ⟨Ex.mk hDG rfl, upd_same⟩
        · rintro i H' hi ⟨e, h1⟩
          refine ⟨rfl, ?_⟩
          repeat' (first | specialize "st" | fail)
          refine ⟨_, h1, sl1000' (by rw [List.length_map, List.length_map, List.length_range]; omega), fun b u hb => ?_, ?_⟩
          · rw [upd_ne (ne_of_none hb hDG)]
            exact e _ _ hb
          · rw [upd_same, List.range_succ, List.map_append, List.map_append]
            rfl
        · rintro H10 ⟨e10, h10⟩
          rw [show ((no : Int)).toNat = no by omega] at h10
          have u10 := e10 _ _ u9
          have nDG : DG ≠ a.e := Ne.symm (ne_of_none u9 hDG)
          have kH10 : Kp [st, c] H H10 := kH9.trans e10.kp
          have hDG0 : H DG = none := free_backK kH9 (st_fresh so9 hDG) hDG
          have so10 : StOk st c H10 := st_ex e10 so9
          have wi10 := wi9.exx e10
          have nDGw : DG ∉ [wa, ch] := fun z => by
            simp only [List.mem_cons, List.not_mem_nil, or_false] at z
            rcases z with rfl | rfl
            · exact wi9.al.1 hDG
            · exact wi9.al.2 hDG
          have ein10 := ein9.exx e10
          clear e10 u9 ein9 so9 wi9 kH9 hDG
          repeat' (first | specialize "st" | fail)
          refine q_dputS u10 hlen9 ?_
          intro H11 k11 u11
          obtain ⟨gvs, egv⟩ : ∃ gvs, gvs = (List.range no).map fun k : Nat => (ni : Int) + ((0 : Int) + k) := ⟨_, rfl⟩
          rw [← egv] at h10
          have ein11 := ein10.givesN (l := DG) n01 n02 n03 (Ne.symm nDT) u10 k11 u11 h10 nDG
          have kH11 : Kp [st, c] H H11 := kp_fresh kH10 k11 (fun x hx => .inr (by rw [List.mem_singleton.mp hx]; exact hae.1))
          have so11 : StOk st c H11 := st_kpx k11 (alln_c hae.2 alln_n) so10
          have wi11 := wi10.kp k11 nae.1 nae.2
          obtain ⟨a2, ea2⟩ : ∃ a2 : Ea, a2 = { a with ta := DT, ga := DG } := ⟨_, rfl⟩
          obtain ⟨ed2, eed2⟩ : ∃ ed2 : Ed, ed2 = { ed with takes := tks, gives := gvs } := ⟨_, rfl⟩
          have ein : EIn a2 ed2 H11 := by
            rw [ea2, eed2]
            exact ein11
          have hae2 : a2.e = a.e := by rw [ea2]
          have fr0 : ∀ x ∈ a2.all, H x = none := fun x hx => by
            rw [ea2] at hx
            have hx' : x ∈ [a.e, a.ca, a.ra, a.sa, DG, DT] := hx
            simp only [List.mem_cons, List.not_mem_nil, or_false] at hx'
            rcases hx' with rfl | rfl | rfl | rfl | rfl | rfl
            · exact (ha0 _ (by simp [Ea.all])).1
            · exact (ha0 _ (by simp [Ea.all])).1
            · exact (ha0 _ (by simp [Ea.all])).1
            · exact (ha0 _ (by simp [Ea.all])).1
            · exact hDG0
            · exact hDT0
          have ou2 : a2.out (Mw st c wa ch) := fun x hx z => by
            have h0 := fr0 x hx
            rw [ea2] at hx
            have hx' : x ∈ [a.e, a.ca, a.ra, a.sa, DG, DT] := hx
            have hw : x ∉ [wa, ch] := by
              simp only [List.mem_cons, List.not_mem_nil, or_false] at hx'
              rcases hx' with rfl | rfl | rfl | rfl | rfl | rfl
              · exact out7 _ (by simp [Ea.all])
              · exact out7 _ (by simp [Ea.all])
              · exact out7 _ (by simp [Ea.all])
              · exact out7 _ (by simp [Ea.all])
              · exact nDGw
              · exact nDTw
            simp only [List.mem_cons, List.not_mem_nil, or_false, not_or] at z hw
            obtain ⟨⟨ns, zz, s1, s2, _⟩, _⟩ := so0
            rcases z with rfl | rfl | rfl | rfl
            · rw [s1] at h0; cases h0
            · rw [s2] at h0; cases h0
            · exact hw.1 rfl
            · exact hw.2 rfl
          rw [← hae2]
          clear ein10 ein11 u10 u11 k11 kH10 so10 wi10 h10
          repeat' (first | specialize "st" | fail)
          obtain ⟨d1, ed1⟩ : ∃ x, x = (⟨1, 11, it, m, al, lb, chs⟩ : Wd) := ⟨_, rfl⟩
          have wiN : WIn wa ch d1 Hn := by
            rw [ed1]
            exact wi11.kp ke ndp hnc
          have m2 := fr.lo
          have m6 := fr.hi
          have hcl : chs.length = ni + no := by
            rw [echs, List.length_append, List.length_replicate, List.length_replicate]
          have ok1 : d1.ok := by
            rw [ed1]
            exact ⟨by show (0 : Int) ≤ 11; decide, by show 0 ≤ it; omega, by show 0 ≤ m; omega, by show m + 9 * 11 + it ≤ 400; omega, by show chs.length ≤ 24; omega, by show m + 2 * 11 ≤ 61; omega, by show (11 : Int) ≤ 11; decide⟩
          have eb1 : EdB ed2 d1 := by
            rw [eed2, ed1]
            refine ⟨⟨fun k hk => ?_, fun p hp => ?_, ?_, ?_, ?_, ?_⟩, ?_, fun k hk => ?_, ?_, fun x hx => ?_, ?_, fun x hx => ?_, ?_, ?_, ?_⟩
            · have hk : k ∈ ed.cells := hk
              show k ∈ ed.reads
              rw [fr.cells] at hk
              rw [fr.reads]
              exact hk
            · have := fr.spans p hp
              exact ⟨this.2.1, this.2.2.1⟩
            · show 0 < ed.cells.length
              rw [fr.cells]
              simp
            · show ed.cells.length < 1000
              rw [fr.cells]
              simp
            · show ed.reads.length < 1000
              rw [fr.reads]
              simp
            · show ed.spans.length < 1000
              have := fr.sl
              omega
            · show ed.cells.Nodup
              rw [fr.cells]
              simp
            · have hk : k ∈ ed.cells := hk
              show 0 ≤ k ∧ k < m
              rw [fr.cells] at hk
              simp only [List.mem_cons, List.not_mem_nil, or_false] at hk
              omega
            · show gvs.Nodup
              rw [egv]
              exact range_nd _ _
            · have hx : x ∈ gvs := hx
              show 0 ≤ x ∧ x < (chs.length : Int)
              rw [egv] at hx
              obtain ⟨k, hk, e⟩ := List.mem_map.mp hx
              have := List.mem_range.mp hk
              omega
            · show tks.Nodup
              rw [etk]
              have := range_nd ni 0
              simpa using this
            · have hx : x ∈ tks := hx
              show 0 ≤ x ∧ x < (chs.length : Int)
              rw [etk] at hx
              obtain ⟨k, hk, e⟩ := List.mem_map.mp hx
              have := List.mem_range.mp hk
              omega
            · show (ed.cells.length : Int) + 11 ≤ 20
              rw [fr.cells]
              simp
            · show gvs.length ≤ 24
              rw [egv, List.length_map, List.length_range]
              omega
            · show tks.length ≤ 24
              rw [etk, List.length_map, List.length_range]
              omega
          have einN : EIn a2 ed2 Hn := ein.kp ke (ou2.sub (subm_c (by simp) (subm_c (by simp) subm_n)))
          have kHN : Kp [st, c] H Hn := kH11.trans ke
          obtain ⟨H12, rfl⟩ : ∃ x, x = Hn := ⟨_, rfl⟩
          clear ein ke so11 wi11 kH11
          intro bl hbl
          have nbs : bl ∉ [st, c] := st_fresh so hbl
          have nbw : wa ≠ bl := fun z => wiN.al.1 (z ▸ hbl)
          have nbc : ch ≠ bl := fun z => wiN.al.2 (z ▸ hbl)
          have hbl0 : H bl = none := free_backK kHN nbs hbl
          obtain ⟨M5, e5⟩ : ∃ M5, M5 = bl :: Mw st c wa ch := ⟨_, rfl⟩
          have m51 : st ∈ M5 := by rw [e5]; simp
          have m52 : c ∈ M5 := by rw [e5]; simp
          have m53 : wa ∈ M5 := by rw [e5]; simp
          have m54 : ch ∈ M5 := by rw [e5]; simp
          have m55 : bl ∈ M5 := by rw [e5]; simp
          have ms5 : ∀ x, x ∈ Mw st c wa ch → x ∈ M5 := fun x hx => by rw [e5]; exact List.mem_cons_of_mem _ hx
          have ma5 : a2.out M5 := e5 ▸ einN.more ou2 hbl
          have ex0 : Ex H12 (upd H12 bl (.lst [])) := Ex.mk hbl rfl
          have mo0 : MoS M5 st c (upd H12 bl (.lst [])) := by
            rw [e5]
            refine MoS.cons (fun x hx n => ?_) (fsome upd_same)
            have w := (wiN.exx ex0).al
            simp only [List.mem_cons, List.not_mem_nil, or_false, not_or] at hx n
            rcases hx with rfl | rfl | rfl | rfl
            · exact absurd rfl n.1
            · exact absurd rfl n.2
            · cases h1 : upd H12 bl (.lst []) x with
              | none => exact absurd h1 w.1
              | some o => exact ⟨o, rfl⟩
            · cases h1 : upd H12 bl (.lst []) x with
              | none => exact absurd h1 w.2
              | some o => exact ⟨o, rfl⟩
          refine lc_range (lo := 0) (n := _) (fun i H' => ∃ (ss : Ss) (xs : List V), H' bl = some (.lst xs) ∧ xs.length = i ∧ ss.In M5 H' xs ∧ BdI (ed2.fr []) d1 d1 (5 * i) i ss ∧ Kp M5 (upd H12 bl (.lst [])) H' ∧ Kp [st, c] H H' ∧ StOk st c H' ∧ WIn wa ch d1 H' ∧ MoS M5 st c H') ?_ ?_ ?_
          · exact ⟨.nil, [], upd_same, rfl, rfl, BdI.nil ok1, Kp.refl _, kHN.trans ex0.kp, st_ex ex0 so, wiN.exx ex0, mo0⟩
          · rintro i H' hi ⟨ss, xs, hbx, hxl, hss, hB, kM, kH, so, wi, mo⟩
            have hi2 : i < 3 := by omega
            have ei : EIn a2 ed2 H' := (einN.exx ex0).ksub kM ma5 (fun _ h => h)
            have en : EnvS (ed2.fr []).W (ed2.fr []).R M5 a2.e H' := ei.env eb1.ok ma5
            refine ⟨rfl, ?_⟩
            have kG : True ∧ Kp M5 (upd H12 bl (.lst [])) H' ∧ Kp [st, c] H H' := ⟨trivial, kM, kH⟩
            clear kM kH mo0 ex0 wiN einN kHN
            repeat' (first | specialize "st" | fail)
            have hbx2 : Hn bl = some (.lst xs) := by (first | exists "lift" | fail)
            refine ⟨xs, hbx2, sl1000' (by omega), ?_⟩
            generalize hq : upd Hn bl _ = H9
            have k9 := kp_upd hbx2 hq
            have h9 := at_new hq
            clear hq
            have kM := kG.2.1
            have kH := kG.2.2
            exact ⟨ss.app (.cons sx .nil), xs ++ [v], h9, by rw [List.length_append, hxl]; rfl, Ss.app_in (by (first | subst "ss" | fail)) ⟨v, [], rfl, by (first | subst "sx" | fail), rfl⟩, (hB.plain ok1 sk (by decide) (by decide)).up (by omega) (by omega), by (first | subst "kp5" | fail), by (first | subst "kpx" | fail), by (first | subst "st_ok" | fail), by (first | subst "win" | fail), by (first | exists "mok" | fail)⟩
          · rintro H13 ⟨ss0, xs0, hbx0, hxl0, hss0, hB0, kM0, kH0, so, wi0, mo0'⟩
            have hds : (dn.toNat : Int) ≤ 2 := by omega
            have ei0 : EIn a2 ed2 H13 := (einN.exx ex0).ksub kM0 ma5 (fun _ h => h)
            have hB1 : BdI (ed2.fr []) d1 d1 15 3 ss0 := hB0.up (by omega) (by omega)
            clear ex0 mo0 wiN einN kHN kM0 hB0
            repeat' (first | specialize "st" | fail)
            have kk : True ∧ Kp [st, c] H Hn := ⟨trivial, kH0.trans ke⟩
            have hbx1 : Hn bl = some (.lst xs0) := ke.out _ _ nbs hbx0
            have sw : ∀ x, x ∈ [st, c] → x ∈ M5 := subm_c m51 (subm_c m52 subm_n)
            have hss1 : ss0.In M5 Hn xs0 := hss0.kp (ke.sub sw)
            have ei1 : EIn a2 ed2 Hn := ei0.ksub ke ma5 sw
            have wi1 : WIn wa ch d1 Hn := wi0.kp ke ndp hnc
            have mo1 : MoS M5 st c Hn := mo0'.kp ke
            obtain ⟨HB, rfl⟩ : ∃ x, x = Hn := ⟨_, rfl⟩
            clear hbx0 hss0 ei0 wi0 mo0' ke kH0
            have sob := so
            refine w_rng (lo := 0) (n := _) (fun k σ H' => ∃ (x9 x10 : Option V) (d' : Wd) (ss : Ss) (xs : List V), σ = [some (.ref st), some (.bl al), some (.int (ni : Int)), some (.int (no : Int)), some (.ref ch), some (.bl lb), some (.ref wa), some (.ref a2.e), some (.ref bl), x9, x10] ∧ H' bl = some (.lst xs) ∧ ss.In M5 H' xs ∧ BdI (ed2.fr []) d1 d' (15 + 6 * k) (3 + 8 * k) ss ∧ Kp M5 HB H' ∧ Kp [st, c] H H' ∧ StOk st c H' ∧ WIn wa ch d' H' ∧ MoS M5 st c H') ?_ ?_ ?_
            · exact ⟨none, none, d1, ss0, xs0, rfl, hbx1, hss1, by simpa using hB1, Kp.refl _, kk.2, sob, wi1, mo1⟩
            · rintro k σ H' hk ⟨x9, x10, d', ss, xs, rfl, hbx, hss, hB, kM, kH, so, wi, mo⟩
              have ei : EIn a2 ed2 H' := ei1.ksub kM ma5 (fun _ h => h)
              have en : EnvS (ed2.fr []).W (ed2.fr []).R M5 a2.e H' := ei.env eb1.ok ma5
              have okd := hB.evo.wok ok1
              have ebd := eb1.evo hB.evo
              have hk2 : k < 2 := by omega
              have hld : d'.left ≤ 2 * (5 : Nat) + 1 := by
                have h1 := hB.evo.lf
                have h2 : d1.left = 11 := by rw [ed1]
                omega
              have hxl : xs.length ≤ 60000 := by
                have h1 := Ss.in_len hss
                have h2 := hB.sz
                have h3 := ok1.pot
                have h4 := okd.lf0
                have h5 := okd.it0
                have h6 := ok1.ce0
                have h7 := ok1.lf0
                have h8 := ok1.it0
                omega
              have kG : True ∧ Kp M5 HB H' ∧ Kp [st, c] H H' := ⟨trivial, kM, kH⟩
              clear kM kH ei1 wi1 mo1 hbx1 hss1 hB1 kk
              repeat' (first | specialize "st" | fail)
              refine c_par ms5 mo so wi ndp hnc ei ma5 ebd okd hld (.inr rfl) ?_
              intro s1 v1 d3 H4 hs1 po kp4 so4 wi4
              have mo4 : MoS M5 st c H4 := moS_mw kp4 so4 wi4 mo
              have nbM : bl ∉ Mw st c wa ch := fun z => by
                simp only [List.mem_cons, List.not_mem_nil, or_false, not_or] at z nbs
                rcases z with z | z | z | z
                · exact nbs.1 z
                · exact nbs.2 z
                · exact nbw z.symm
                · exact nbc z.symm
              have hbx4 : H4 bl = some (.lst xs) := kp4.out _ _ nbM hbx
              repeat' (first | specialize "st" | fail)
              have kM := kG.2.1
              have kH := kG.2.2
              exact ⟨_, _, d3, (ss.app (.cons s1 .nil)).app (.cons sx .nil), xs ++ [v1] ++ [v], rfl, hu, Ss.app_in (Ss.app_in (by (first | subst "ss" | fail)) ⟨v1, [], rfl, by (first | subst "sx" | fail), rfl⟩) ⟨v, [], rfl, by (first | subst "sx" | fail), rfl⟩, ((hB.par po (Fr.le.refl _)).plain ok1 sk (by decide) (by decide)).up (by omega) (by omega), by (first | subst "kp5" | fail), by (first | subst "kpx" | fail), by (first | subst "st_ok" | fail), by (first | subst "win" | fail), by (first | exists "mok" | fail)⟩
            · rintro σ H' ⟨x9, x10, d', ss, xs, rfl, hbx, hss, hB, kM, kH, so, wi, mo⟩
              have hB2 : BdI (ed2.fr []) d1 d' 27 19 ss := hB.up (by omega) (by omega)
              have ei2 : EIn a2 ed2 H' := ei1.ksub kM ma5 (fun _ h => h)
              have nga : a2.ga ∉ M5 ∧ a2.e ∉ M5 := ⟨ma5 _ (by simp [Ea.all]), ma5 _ (by simp [Ea.all])⟩
              obtain ⟨⟨kv, q1, q2, _, _, _, qg, _⟩, _, _, hgl, _⟩ := id ei2
              have okd := hB.evo.wok ok1
              clear hB ei1 wi1 mo1 hbx1 hss1 hB1 kk kM
              repeat' (first | specialize "st" | fail)
              refine w_list (xs := ed2.gives.map V.int) (fun i σ H2 => ∃ (x9 x10 : Option V) (ss : Ss) (xs : List V), σ = [some (.ref st), some (.bl al), some (.int (ni : Int)), some (.int (no : Int)), some (.ref ch), some (.bl lb), some (.ref wa), some (.ref a2.e), some (.ref bl), x9, x10] ∧ H2 bl = some (.lst xs) ∧ ss.In M5 H2 xs ∧ BdI (ed2.fr []) d1 d' (27 + 5 * i) (19 + 2 * i) ss ∧ Kp M5 H' H2 ∧ Kp [st, c] H H2 ∧ StOk st c H2 ∧ WIn wa ch d' H2 ∧ MoS M5 st c H2) ?_ ?_ ?_ ?_
              · exact ⟨_, _, ss, xs, rfl, hbx, hss, by simpa using hB2, Kp.refl _, kH, so, wi, mo⟩
              · rintro i σ H2 _ ⟨x9, x10, ss, xs, rfl, _, _, _, kM, _⟩
                exact sql (kM.out _ _ nga.1 hgl)
              · rintro i x σ H2 hx ⟨x9, x10, ss, xs, rfl, hbx, hss, hB, kM, kH, so, wi, mo⟩
                rw [List.getElem?_map] at hx
                obtain ⟨cc, hcc, rfl⟩ := Option.map_eq_some_iff.mp hx
                have hcg : cc ∈ ed2.gives := List.mem_of_getElem? hcc
                have ei : EIn a2 ed2 H2 := ei2.ksub kM ma5 (fun _ h => h)
                have en : EnvS (ed2.fr []).W (ed2.fr []).R M5 a2.e H2 := ei.env eb1.ok ma5
                have hi24 : i < 24 := by
                  have h1 := (List.getElem?_eq_some_iff.mp hcc).1
                  have h2 := eb1.gl
                  omega
                have hxl : xs.length ≤ 60000 := by
                  have h1 := Ss.in_len hss
                  have h2 := hB.sz
                  have h3 := ok1.pot
                  have h4 := okd.lf0
                  have h5 := okd.it0
                  have h6 := ok1.ce0
                  have h7 := ok1.lf0
                  have h8 := ok1.it0
                  omega
                have kG : True ∧ Kp M5 H' H2 ∧ Kp [st, c] H H2 := ⟨trivial, kM, kH⟩
                clear kM kH ei2 hB2 hgl q1
                repeat' (first | specialize "st" | fail)
                · have kM := kG.2.1
                  have kH := kG.2.2
                  exact ⟨_, _, ss.app (.cons (.give cc t) .nil), xs ++ [_], rfl, hu, Ss.app_in (by (first | subst "ss" | fail)) ⟨_, [], rfl, by (first | subst "sxc" | fail), rfl⟩, (hB.plain (s := .give cc t) ok1 (D := 1) (S := 1) (k := 2) ⟨⟨hcg, ok, by omega⟩, trivial, rfl, by simp [Sx.dep], by simp [Sx.sz], by simp [Sx.wk]⟩ (by decide) (by decide)).up (by omega) (by omega), by (first | subst "kp5" | fail), by (first | subst "kpx" | fail), by (first | subst "st_ok" | fail), by (first | subst "win" | fail), by (first | exists "mok" | fail)⟩
                · have kM := kG.2.1
                  have kH := kG.2.2
                  exact ⟨_, _, ss, xs, rfl, by (first | exists "lift" | fail), by (first | subst "ss" | fail), hB.up (by omega) (by omega), by (first | subst "kp5" | fail), by (first | subst "kpx" | fail), by (first | subst "st_ok" | fail), by (first | subst "win" | fail), by (first | exists "mok" | fail)⟩
              · rintro σ H2 ⟨x9, x10, ss, xs, rfl, hbx, hss, hB, kM, kH, so, wi, mo⟩
                have hgl2 : ed2.gives.length ≤ 2 := by
                  rw [eed2]
                  show gvs.length ≤ 2
                  rw [egv, List.length_map, List.length_range]
                  exact hno
                rw [List.length_map] at hB
                have hB3 : BdI (ed2.fr []) d1 d' 37 23 ss := hB.up (by omega) (by omega)
                clear kM hB hB2 ei2
                repeat' (first | specialize "st" | fail)
                rename_i ps Hs hps es hns
                have v1 : d1.cells = m ∧ d1.threads = 1 ∧ d1.left = 11 ∧ d1.items = it ∧ d1.loops = lb ∧ d1.chs = chs := by
                  rw [ed1]
                  exact ⟨rfl, rfl, rfl, rfl, rfl, rfl⟩
                obtain ⟨v2, v3, v4, v5, v6, v7⟩ := v1
                have e := hB3.evo
                have ece := e.ce
                have elf := e.lf
                have elf0 := e.lf0
                have eit := e.it
                have eit0 := e.it0
                have ehl := e.chl
                rw [v7, hcl] at ehl
                have hwi : WIn wa ch d' Hn := (wi.exx es).exx ke
                have hss2 : ss.In M5 Hn xs := (hss.kp es.kp).kp ke.kp
                have sw : ∀ x, x ∈ [st, c] → x ∈ M5 := subm_c m51 (subm_c m52 subm_n)
                refine q ⟨d'.cells, d'.chs, ss⟩ _ Hn ⟨p, ch, .ref ps, rfl, hn, hwi.hc, hnc, ⟨ps, bl, xs, rfl, ke _ _ hns, ke _ _ (es _ _ hbx), nbs, Ss.In.less sw hss2⟩⟩ ⟨okd.ce0, ?_, ?_, e.c24, hB3.rule, ?_, ?_, ?_, ?_, hB3.wk0, ?_⟩ ((kH.trans es.kp).trans ke.kp) (st_ex ke (st_ex es so))
                · have h1 := okd.c61
                  have h2 := okd.lf0
                  show d'.cells ≤ 61
                  omega
                · obtain ⟨j, ej⟩ := e.ch
                  refine ⟨ni, no, j, hni, hno, by show d'.chs = _; rw [ej, v7, echs], ?_⟩
                  refine hB3.fit _ ⟨fun x h => ?_, fun x h => ?_, fun x h => ?_, fun x h => ?_⟩ ⟨fun x a b => ?_, fun x a b => ?_⟩
                  · show 0 ≤ x ∧ x < d'.cells
                    rcases h with h | ⟨pp, h, h1, h2⟩ | h
                    · have := eb1.cb x h
                      omega
                    · rw [eed2] at h
                      have := fr.spans pp h
                      omega
                    · cases h
                  · show 0 ≤ x ∧ x < d'.cells
                    rcases h with h | ⟨pp, h, h1, h2⟩ | h
                    · rw [eed2] at h
                      have h : x ∈ ed.reads := h
                      rw [fr.reads] at h
                      simp only [List.mem_cons, List.not_mem_nil, or_false] at h
                      omega
                    · rw [eed2] at h
                      have := fr.spans pp h
                      omega
                    · cases h
                  · show (ni : Int) ≤ x ∧ x < (d'.chs.length : Int)
                    have h : x ∈ ed2.gives := h
                    rw [eed2] at h
                    have h : x ∈ gvs := h
                    rw [egv] at h
                    obtain ⟨k, hk, e1⟩ := List.mem_map.mp h
                    have := List.mem_range.mp hk
                    omega
                  · show 0 ≤ x ∧ x < (d'.chs.length : Int) ∧ (x < ni ∨ (ni + no : Int) ≤ x)
                    have h : x ∈ ed2.takes := h
                    rw [eed2] at h
                    have h : x ∈ tks := h
                    rw [etk] at h
                    obtain ⟨k, hk, e1⟩ := List.mem_map.mp h
                    have := List.mem_range.mp hk
                    omega
                  · show (0 ≤ x ∧ x < d'.cells) ∧ 0 ≤ x ∧ x < d'.cells
                    omega
                  · rw [v7, hcl] at a
                    show ((ni : Int) ≤ x ∧ x < (d'.chs.length : Int)) ∧ 0 ≤ x ∧ x < (d'.chs.length : Int) ∧ (x < ni ∨ (ni + no : Int) ≤ x)
                    omega
                · have h := hB3.num
                  rw [v3] at h
                  exact h
                · show ss.cnt ≤ 11
                  omega
                · have h := hB3.dep
                  show ss.dep ≤ 70
                  omega
                · have h := hB3.sz
                  show ss.sz ≤ 6000
                  omega
                · have h := hB3.wk
                  show ss.wk ≤ 2900
                  rw [v6] at h
                  unfold wkb at h
                  rw [if_neg (by decide)] at h
                  cases hlb : lb
                  · rw [hlb, if_pos (.inr rfl)] at h
                    omega
                  · rw [hlb, if_neg (by rintro (z | z); omega; cases z)] at h
                    have := it30.2.2 hlb
                    omega
abbrev s_parts_of : Stmt := topS 1
theorem sc_parts_of : FnScope ["s", "kind", "row"] ["s"] (defScope s_parts_of) := ⟨rfl, rfl, rfl, by decide +kernel, rfl, by decide +kernel, by decide +kernel⟩
abbrev p_parts_of : List Str := ["s"]
/-! the parts of a statement -/
def Ss.list : Ss → List Sx
  | .nil => []
  | .cons s r => s :: r.list
def Ps.list : Ps → List Sx
  | .nil => []
  | .cons _ s r => s :: r.list
def As.list : As → List Sx
  | .nil => []
  | .cons _ _ _ s r => s :: r.list
def Sx.parts : Sx → List Sx
  | .seq ss => ss.list
  | .par ps => ps.list
  | .alt rs => rs.list
  | .ife _ a b => [a, b]
  | .rep _ _ a => [a]
  | _ => []
abbrev SxL (M : List Addr) (H : Hp) (vs : List V) (ss : List Sx) : Prop := Paired (fun v (s : Sx) => s.In M H v) vs ss
theorem Ss.in_list {M : List Addr} {H : Hp} : ∀ {ss : Ss} {vs : List V}, ss.In M H vs → SxL M H vs ss.list
  | .nil, _, h => by cases h; exact .nil
  | .cons _ _, _, ⟨x, ys, e, a, b⟩ => by subst e; exact .cons a (Ss.in_list b)
theorem Ps.in_at {M : List Addr} {H : Hp} : ∀ {ps : Ps} {vs : List V} {i : Nat} {v : V}, ps.In M H vs → vs[i]? = some v → ∃ q t x s, v = .ref q ∧ H q = some (.tup [.int t, x]) ∧ ps.list[i]? = some s ∧ s.In M H x
  | .nil, _, _, _, h, e => by cases h; simp at e
  | .cons t s r, _, i, v, ⟨q, x, ys, e0, h, a, b⟩, e => by
    subst e0
    cases i with
    | zero =>
      simp at e
      subst e
      exact ⟨q, t, x, s, rfl, h, rfl, a⟩
    | succ i =>
      obtain ⟨q, t, x, s, e1, e2, e3, e4⟩ := Ps.in_at (i := i) b (by simpa using e)
      exact ⟨q, t, x, s, e1, e2, by simpa [Ps.list] using e3, e4⟩
theorem Ps.list_len {M : List Addr} {H : Hp} : ∀ {ps : Ps} {vs : List V}, ps.In M H vs → ps.list.length = vs.length
  | .nil, _, h => by cases h; rfl
  | .cons _ _ _, _, ⟨_, _, _, e0, _, _, b⟩ => by subst e0; simp only [Ps.list, List.length_cons, Ps.list_len b]
theorem As.in_at2 {M : List Addr} {H : Hp} : ∀ {rs : As} {vs : List V} {i : Nat} {v : V}, rs.In M H vs → vs[i]? = some v → ∃ q u c y x s, v = .ref q ∧ H q = some (.tup [u, .int c, y, x]) ∧ rs.list[i]? = some s ∧ s.In M H x
  | .nil, _, _, _, h, e => by cases h; simp at e
  | .cons _ c _ s r, _, i, v, ⟨q, u, y, x, ys, e0, h, g, t, a, b⟩, e => by
    subst e0
    cases i with
    | zero =>
      simp at e
      subst e
      exact ⟨q, u, c, y, x, s, rfl, h, rfl, a⟩
    | succ i =>
      obtain ⟨q, u, c, y, x, s, e1, e2, e3, e4⟩ := As.in_at2 (i := i) b (by simpa using e)
      exact ⟨q, u, c, y, x, s, e1, e2, by simpa [As.list] using e3, e4⟩
theorem As.list_len {M : List Addr} {H : Hp} : ∀ {rs : As} {vs : List V}, rs.In M H vs → rs.list.length = vs.length
  | .nil, _, h => by cases h; rfl
  | .cons _ _ _ _ _, _, ⟨_, _, _, _, _, e0, _, _, _, _, b⟩ => by subst e0; simp only [As.list, List.length_cons, As.list_len b]
/-- the parts' list: a new one (parts_of), or the statement's own -/
def sp_parts : Sp := fun vs H Q _ => ∃ (M : List Addr) (s : Sx) (v : V), vs = [v] ∧ s.In M H v ∧ s.sz ≤ 50000 ∧ ∀ (l : Addr) (ys : List V) (H' : Hp), H' l = some (.lst ys) → SxL M H' ys s.parts → Ex H H' → Q (.ref l) H'
theorem sxl_ex {M : List Addr} {H H' : Hp} {vs : List V} {ss : List Sx} (e : Ex H H') (h : SxL M H vs ss) : SxL M H' vs ss := Paired.mapP h fun _ _ q => sx_ex e q
/-! ### the law's own def is called from the top: there no repr is under way (guards), and the def's body may use that -/
open PyProof.Rows in
structure TopOk (P : Program) (w : World) (K : PySem.W.Frag) (mg : Str → Option Value) (base : Heap) (f : Addr) (fd : FuncData) (ps : List Str) (sp : Sp) : Prop where
  go : ∀ (s : Shared) (H : Hp) (ar : Args) (us : List Value) (vs : List V) (Q : VK), Env0 P w K mg base callerA [] s H → BindsTo s fd ar (ps.zip us) → Vals vs us → sp vs H Q E0 →
    codeAny (model P w) callerA (Code.call (Value.ref f) ar) (CR CX0 [] P w H s Q E0) s
section
open PyProof.Rows
variable {P : Program} {w : World} {K : PySem.W.Frag} {mg : Str → Option Value} {base : Heap}
theorem fun_top {x qual : Str} {st : Stmt} {f : Addr} {fd : FuncData} {N ps : List Str} {k : Nat} {sp : Sp} (F : Fun K x qual st f fd) (S : FnScope N ps (defScope st)) (room : Room (k + 1) callerA)
    (len : ∀ vs H Q E, sp vs H Q E → vs.length = ps.length)
    (bd : ∀ (cdv : Value) (s : Shared) (H : Hp) (vs : List V) (Q : VK), Room k (callerA.deeper (envOfC qual (defScope st) s.heap.objs.size f cdv)) → sp vs H Q E0 →
      ∃ t, PSs (cxOf CX0 P w K mg base N qual (defScope st) f cdv callerA [] s H E0).nox (defBody st) t ∧ t { nx := fun _ H' => Q .non H', rt := Q } (start N vs) H) : TopOk P w K mg base f fd ps sp := by
  obtain ⟨oc, od, kV, doc, pm, an, cdv, ct, osl, rfl, lk, hcd⟩ := F.ex
  constructor
  intro s H ar us vs Q e0 hb rv hsp
  have n1 : vs.length = ps.length := len _ _ _ _ hsp
  have inK : K.In s.heap := e0.mod.kin.keeps fun b o z => (e0.bs b o z).left
  have noL : s.heap.NoLimit := e0.mod.nolimit.keeps fun b o z => (e0.bs b o z).left
  obtain ⟨t, ht, hq⟩ := bd cdv s H vs Q (room.deeper _) hsp
  refine codeAny_call_function room.depth (inK _ _ lk) rfl S.co S.gen rfl
    (PySem.W.codeRec_of inK hcd) (hb _ _ _ _ (wpAny_newFunctionEnv_cells S.kind ?kinds fun env ee s1 x => ?run))
  case kinds =>
    rintro ⟨n, v⟩ hy
    refine (S.par n (List.of_mem_zip hy).left).imp id fun q => ?_
    exact ⟨q, PySem.W.cellsFrom_some _ _ _ (Or.inl q)⟩
  case run =>
    subst ee
    have I := inv_start (CX := CX0) (E := E0) S room.hd e0 n1 rv x
    refine ⟨noL.keeps x.toInCall.keep, codeAny_func (wpAny_mono (ht.nox.run [] s1 (start N vs) H _ I hq) ?_ fun _ _ z => z)⟩
    rintro (_ | _ | _ | u) s2 hs
    all_goals first
      | (obtain ⟨_, _, _, q⟩ := hs; exact False.elim q)
      | (obtain ⟨σ', H', J, q⟩ := hs; exact ⟨V.non, H', J.os, J.bare, J.base, J.hok, rfl, q⟩)
      | (obtain ⟨v, σ', H', J, r, q⟩ := hs; exact ⟨v, H', J.os, J.bare, J.base, J.hok, r, q⟩)
/-- from the heap behind the top to the promise of the law's def -/
theorem top_call {mb : Str → Option Value} {fa a : Addr} {fd : FuncData} {x : Str} {sp : Sp} {s₁ : Shared} {vs : List Value} {ns : List Int} (inK : K.In s₁.heap) (gG : s₁.heap.Ns mainGlobals mg) (gB : s₁.heap.Ns builtinsNs mb)
    (boot : ∀ y : Str, y ≠ "__name__" → mb y = bootBuiltins y) (noL : s₁.heap.NoLimit) (noG : s₁.gens = #[]) (scr : s₁.heap.get? a = some { cls := .type "list", data := .seq vs.toArray }) (isI : IntsAre vs ns) (few : ns.length ≤ sizeLine)
    (F : ∀ base : Heap, K.In base → base.Ns mainGlobals mg → TopOk P w K mg base fa fd [x] sp) (bnd : ∀ (s : Shared) (u : Value), BindsTo s fd ⟨[u], []⟩ [(x, u)])
    (say : ∀ H : Hp, Only H → SqL K H a (ns.map V.int) → sp [.ref a] H (fun v _ => v = .bl true) E0) :
    codeAny (model P w) callerA (.call (.ref fa) ⟨[.ref a], []⟩) (fun r t => r = .ok (.ret (.bool true)) ∧ OldK s₁.heap t.heap ∧ t.os = s₁.os ∧ AllBare t.gens) s₁ := by
  have rel : Vals (ns.map V.int) vs := vals_ints isI
  -- H tracks at most the script
  have main : ∀ H : Hp, Only H → SqL K H a (ns.map V.int) → HOk P w H s₁.heap → (∀ b u, H b = some u → b = a) → (∀ u, H a = some u → K.lookup a = none) →
      codeAny (model P w) callerA (.call (.ref fa) ⟨[.ref a], []⟩) (fun r t => r = .ok (.ret (.bool true)) ∧ OldK s₁.heap t.heap ∧ t.os = s₁.os ∧ AllBare t.gens) s₁ := by
    intro H oH sH kH aH nK
    have none_or : ∀ b, H b = none ∨ b = a := fun b => by
      rcases hb : H b with _ | u
      · exact Or.inl rfl
      · exact Or.inr (aH b u hb)
    have ns' : ∀ {b : Addr} {m : Str → Option Value}, s₁.heap.Ns b m → (hidT s₁.heap H).Ns b m := by
      rintro b m ⟨o, es, ep, e, d, r⟩
      refine ⟨o, es, ep, hidT_get e ((none_or b).resolve_right ?_), d, r⟩
      rintro rfl
      rw [scr] at e
      cases e
      cases (show Data.seq vs.toArray _ = Data.dict es ep from d)
    have kb : K.In (hidT s₁.heap H) := by
      intro b o e
      refine hidT_get (inK b o e) ?_
      rcases hb : H b with _ | u
      · rfl
      · obtain rfl := aH b u hb
        rw [nK u hb] at e
        cases e
    obtain ⟨mc, z1, z2⟩ := noL
    have env : Env0 P w K mg (hidT s₁.heap H) callerA [] s₁ H := ⟨rfl, ⟨kb, ns' gG, ⟨mb, ns' gB, boot⟩, ⟨mc, ns' z1, z2⟩⟩, fun _ _ e => of_hidT e, Nat.le_of_eq (hidT_size _ _), trivial, fun b z => (List.not_mem_nil (show b ∈ ([] : List Addr) from z)).elim, kH, .of_eq noG⟩
    refine codeAny_mono ((F _ kb (ns' gG)).go s₁ H _ [.ref a] [.ref a] _ env (bnd s₁ (.ref a)) (.cons rfl .nil) (say H oH sH)) ?_
    rintro (e | _ | _ | _ | u) t hz
    all_goals first
      | exact (show False from hz).elim
      | skip
    obtain ⟨v, H', os, bare, un, ok', rv, q⟩ := hz
    obtain rfl : v = .bl true := q
    obtain rfl : u = Value.bool true := rv
    refine ⟨rfl, OldK.of_keep ?_, os, bare⟩
    intro b o e
    rcases hb : H b with _ | u
    · exact un.keep b o e hb (fun z => List.not_mem_nil (show b ∈ ([] : List Addr) from z)) List.not_mem_nil
    · rcases oH b with z | ⟨ob, xs, z⟩
      · rw [hb] at z
        cases z
      · have p1 := (kH b _ z).1
        rw [e] at p1
        cases p1
        exact (ok' b _ (un.frzs b o _ z)).1
  rcases hk : K.lookup a with _ | o
  · refine main (fun b => if b = a then some (.frz { data := .seq vs.toArray, cls := .type "list" } (.lst (ns.map V.int))) else none) ?_ ?_ ?_ ?_ fun _ _ => hk
    · intro b
      by_cases e : b = a
      · exact Or.inr ⟨_, _, if_pos e⟩
      · exact Or.inl (if_neg e)
    · exact Or.inl (Or.inr ⟨_, if_pos rfl⟩)
    · intro b u z
      by_cases e : b = a
      · cases (if_pos e).symm.trans z
        subst e
        exact ⟨scr, by rw [List.length_map]; exact few, vs, _, rel, scr⟩
      · cases (if_neg e).symm.trans z
    · intro b u z
      by_cases e : b = a
      · exact e
      · cases (if_neg e).symm.trans z
  · have e := inK a o hk
    rw [scr] at e
    cases e
    refine main (fun _ => none) (fun _ => Or.inl rfl) (Or.inr ⟨_, vs.toArray, _, hk, rfl, rfl, rfl, ?_, by simpa using rel⟩) ?_ ?_ ?_
    · rw [List.size_toArray, isI.length]
      exact few
    · intro b u z
      cases (show (none : Option HO) = some u from z)
    · intro b u z
      cases (show (none : Option HO) = some u from z)
    · intro u z
      cases (show (none : Option HO) = some u from z)
end
/-! ### repr of data -/
section
variable {X : Cx}
def rRepr (K : PySem.W.Frag) : List V → Hp → VK → Prop := fun vs H Q => ∃ (a : Addr) (d : PyData), vs = [.ref a] ∧ Dp K H (.ref a) d ∧ d.showable = true ∧ d.hasDict = false ∧ d.depth ≤ 1000 ∧ d.shown.length ≤ sizeLine ∧ Q (.str d.shown) H
theorem call_reprD (hg : X.A.guards = some []) (hu : X.A.units + 1100 < cLine) : CallR X (.builtin "repr") (rRepr X.K) := by
  intro pins s σ H vs us Q I r h
  obtain ⟨a, d, rfl, hd, h1, h2, h3, h4, q⟩ := h
  rw [Vals.ref1 r]
  obtain ⟨as, rd⟩ := Dp.reads I d (.ref a) (.ref a) hd rfl
  refine repr_of_reads' rd h1 (fun z => by rw [h2] at z; cases z) hg (by omega) (fun _ _ e => e) (fun h' u tk hk => ?_) h4
  refine ⟨.str d.shown, H, I.kept hk, ⟨_, rfl⟩, q⟩
end
/-! ### == of lists and tuples whose parts are the same objects, or flat, or again such -/
def Sm (K : PySem.W.Frag) (H : Hp) : Nat → V → V → Prop
  | 0, x, y => (x = y ∧ flatB x = true) ∨ ∃ a, x = .ref a ∧ y = .ref a
  | n + 1, x, y => ((x = y ∧ flatB x = true) ∨ ∃ a, x = .ref a ∧ y = .ref a) ∨ ∃ a b xs ys, x = .ref a ∧ y = .ref b ∧ ((SqL K H a xs ∧ SqL K H b ys) ∨ (SqT K H a xs ∧ SqT K H b ys)) ∧ Paired (Sm K H n) xs ys
section
variable {X : Cx} {pins : List (Addr × Obj)} {σ : L2.St} {H : Hp} {s : Shared}
theorem sm_items {A : Around} {F : V → V → Prop} (ih : ∀ x y v u, F x y → RelV x v → RelV y u → SeqAt.EqAt A s v u true) {xs ys : List V} (hp : Paired F xs ys) : ∀ {us ws : List Value}, Vals xs us → Vals ys ws → us.length = ws.length ∧ ∀ j (p : j < us.length) (q : j < ws.length), SeqAt.EqAt A s us[j] ws[j] true := by
  induction hp with
  | nil =>
    rintro us ws (_ | _) (_ | _)
    exact ⟨rfl, fun j p _ => absurd p (Nat.not_lt_zero j)⟩
  | cons h _ k =>
    rintro us ws (_ | ⟨a1, b1⟩) (_ | ⟨a2, b2⟩)
    obtain ⟨e, g⟩ := k b1 b2
    refine ⟨by simp only [List.length_cons, e], ?_⟩
    rintro (_ | j) p q
    · exact ih _ _ _ _ h a1 a2
    · exact g j (Nat.lt_of_succ_lt_succ p) (Nat.lt_of_succ_lt_succ q)
theorem sm_rc (I : Inv X pins σ H s) {A : Around} {F : V → V → Prop} (hu : A.units < cLine) (ih : ∀ x y v u, F x y → RelV x v → RelV y u → SeqAt.EqAt A.in1 s v u true) {a b : Addr} {xs ys : List V} (h : (SqL X.K H a xs ∧ SqL X.K H b ys) ∨ (SqT X.K H a xs ∧ SqT X.K H b ys))
    (hp : Paired F xs ys) : SeqAt.RcAt A s (.ref a) (.ref b) true := by
  rcases h with ⟨ha, hb⟩ | ⟨ha, hb⟩
  · obtain ⟨us, r1, p1, _⟩ := I.list ha
    obtain ⟨ws, r2, p2, _⟩ := I.list hb
    obtain ⟨e, g⟩ := sm_items ih hp r1 r2
    have r := SeqAt.RcAt.lists (e := fun _ => true) p1.isList p2.isList (by simpa using e) hu fun j h1 h2 => by simpa using g j (by simpa using h1) (by simpa using h2)
    rwa [show ((List.range us.toArray.size).all fun _ => true) = true from List.all_eq_true.mpr fun _ _ => rfl] at r
  · obtain ⟨us, r1, p1, _⟩ := I.tuple ha
    obtain ⟨ws, r2, p2, _⟩ := I.tuple hb
    obtain ⟨e, g⟩ := sm_items ih hp r1 r2
    have r := SeqAt.RcAt.tuples (e := fun _ => true) p1 p2 hu fun j h1 h2 => by simpa using g j (by simpa using h1) (by simpa using h2)
    rwa [show ((List.range (min us.toArray.size ws.toArray.size)).all fun _ => true) = true from List.all_eq_true.mpr fun _ _ => rfl, show (us.toArray.size == ws.toArray.size) = true by simpa using e] at r
theorem sm_at (I : Inv X pins σ H s) : ∀ (n : Nat) (A : Around), A.units + n < cLine → ∀ (x y : V) (v u : Value), Sm X.K H n x y → RelV x v → RelV y u → SeqAt.EqAt A s v u true
  | 0, _, _, _, _, _, _, h, rx, ry => by
    rcases h with ⟨rfl, f⟩ | ⟨a, rfl, rfl⟩
    · exact eqAt_same rx ry f
    · cases rx
      cases ry
      exact SeqAt.EqAt.same _
  | n + 1, A, hu, _, _, _, _, h, rx, ry => by
    rcases h with (⟨rfl, f⟩ | ⟨a, rfl, rfl⟩) | ⟨a, b, xs, ys, rfl, rfl, hs, hp⟩
    · exact eqAt_same rx ry f
    · cases rx
      cases ry
      exact SeqAt.EqAt.same _
    · cases rx
      cases ry
      by_cases e : a = b
      · subst e
        exact SeqAt.EqAt.same _
      · exact SeqAt.EqAt.of_refs e (sm_rc I (by omega) (sm_at I n A.in1 (by show A.units + 1 + n < cLine; omega)) hs hp)
end
section
variable {X : Cx}
def rEqS (K : PySem.W.Frag) : R2 := fun x y H Q => ∃ n a b xs ys, n ≤ 60 ∧ x = .ref a ∧ y = .ref b ∧ ((SqL K H a xs ∧ SqL K H b ys) ∨ (SqT K H a xs ∧ SqT K H b ys)) ∧ Paired (Sm K H n) xs ys ∧ Q (.bl true) H
theorem op_eqS (hu : X.A.units + 64 < cLine) : OpR X (compareOp .Eq) (rEqS X.K) := by
  intro pins s σ H x y v u Q I rx ry h
  obtain ⟨n, a, b, xs, ys, hn, rfl, rfl, hs, hp, q⟩ := h
  cases rx
  cases ry
  exact sm_rc I (by omega) (sm_at I n X.A.in1 (by show X.A.units + 1 + n < cLine; omega)) hs hp _ _ _ _ ⟨.bl true, H, I, rfl, q⟩
end
/-! ### all(..) of a list of bools -/
def rAllX (K : PySem.W.Frag) : List V → Hp → VK → Prop := rAll K
theorem call_allX {X : Cx} (hc : X.calm = true) : CallR X (.builtin "all") (rAllX X.K) := cr_all hc
theorem all_rep : ∀ n : Nat, (List.replicate n true).all id = true
  | 0 => rfl
  | n + 1 => by rw [List.replicate_succ, List.all_cons, all_rep n]; rfl
theorem q_allT {K : PySem.W.Frag} {H : Hp} {Q : VK} {a : Addr} {n : Nat} (h : H a = some (.lst (List.replicate n (.bl true)))) (q : Q (.bl true) H) : rAllX K [.ref a] H Q :=
  ⟨a, List.replicate n true, rfl, by rw [List.map_replicate]; exact .inl (.inl h), by rw [all_rep]; exact q⟩
/-! ### != of the same -/
section
variable {X : Cx} {pins : List (Addr × Obj)} {σ : L2.St} {H : Hp} {s : Shared}
theorem sm_rcn (I : Inv X pins σ H s) {A : Around} {F : V → V → Prop} (hu : A.units < cLine) (ih : ∀ x y v u, F x y → RelV x v → RelV y u → SeqAt.EqAt A.in1 s v u true) {a b : Addr} {xs ys : List V} (h : (SqL X.K H a xs ∧ SqL X.K H b ys) ∨ (SqT X.K H a xs ∧ SqT X.K H b ys))
    (hp : Paired F xs ys) : SeqAt.RcNeAt A s (.ref a) (.ref b) false := by
  rcases h with ⟨ha, hb⟩ | ⟨ha, hb⟩
  · obtain ⟨us, r1, p1, _⟩ := I.list ha
    obtain ⟨ws, r2, p2, _⟩ := I.list hb
    obtain ⟨e, g⟩ := sm_items ih hp r1 r2
    have r := SeqAt.RcNeAt.lists (e := fun _ => true) p1.isList p2.isList (by simpa using e) hu fun j h1 h2 => by simpa using g j (by simpa using h1) (by simpa using h2)
    rwa [show ((List.range us.toArray.size).all fun _ => true) = true from List.all_eq_true.mpr fun _ _ => rfl] at r
  · obtain ⟨us, r1, p1, _⟩ := I.tuple ha
    obtain ⟨ws, r2, p2, _⟩ := I.tuple hb
    obtain ⟨e, g⟩ := sm_items ih hp r1 r2
    have r := SeqAt.RcNeAt.tuples (e := fun _ => true) p1 p2 hu fun j h1 h2 => by simpa using g j (by simpa using h1) (by simpa using h2)
    rwa [show ((List.range (min us.toArray.size ws.toArray.size)).all fun _ => true) = true from List.all_eq_true.mpr fun _ _ => rfl, show (us.toArray.size == ws.toArray.size) = true by simpa using e] at r
end
section
variable {X : Cx}
def rNeS (K : PySem.W.Frag) : R2 := fun x y H Q => ∃ n a b xs ys, n ≤ 60 ∧ x = .ref a ∧ y = .ref b ∧ ((SqL K H a xs ∧ SqL K H b ys) ∨ (SqT K H a xs ∧ SqT K H b ys)) ∧ Paired (Sm K H n) xs ys ∧ Q (.bl false) H
theorem op_neS (hu : X.A.units + 64 < cLine) : OpR X (compareOp .NotEq) (rNeS X.K) := by
  intro pins s σ H x y v u Q I rx ry h
  obtain ⟨n, a, b, xs, ys, hn, rfl, rfl, hs, hp, q⟩ := h
  cases rx
  cases ry
  exact sm_rcn I (by omega) (sm_at I n X.A.in1 (by show X.A.units + 1 + n < cLine; omega)) hs hp _ _ _ _ ⟨.bl false, H, I, rfl, q⟩
end
/-! ### [x] * n, xs.count(text) -/
theorem q_rep1 {x : V} {l : Addr} {k : Int} {H : Hp} {Q : VK} (h : H l = some (.lst [x])) (k0 : 0 ≤ k) (k1 : k ≤ 100000) (q : ∀ p Hn, H p = none → Ex H Hn → Hn p = some (.lst (List.replicate k.toNat x)) → Q (.ref p) Hn) : rRep (.ref l) (.int k) H Q := by
  refine ⟨l, k, [x], rfl, rfl, h, by omega, by omega, ?_, fun p hp => q p _ hp (Ex.mk hp rfl) ?_⟩
  · simp only [List.length_cons, List.length_nil, Nat.zero_add, Nat.one_mul]
    have e : sizeLine = 16777216 := by decide
    omega
  · rw [upd_same]
    have e : ∀ m : Nat, (List.replicate m [x]).flatten = List.replicate m x := fun m => by
      induction m with
      | zero => rfl
      | succ m ih => rw [List.replicate_succ, List.flatten_cons, ih, List.replicate_succ]; rfl
    rw [e]
def rCntS (K : PySem.W.Frag) : V → List V → Hp → VK → Prop := fun x xs H Q => ∃ (p : Addr) (ss : List Str) (k : Str), x = .ref p ∧ xs = [.str k] ∧ SqL K H p (ss.map V.str) ∧ Q (.int (ss.count k : Nat)) H
theorem strD_all {K : PySem.W.Frag} {H : Hp} : ∀ l : List Str, DpAll K H (l.map V.str) (l.map PyData.str)
  | [] => .nil
  | x :: l => .cons (.str x) (strD_all l)
theorem strD_plain : ∀ l : List Str, PyData.plainAll (l.map PyData.str) = true
  | [] => by simp [PyData.plainAll]
  | x :: l => by simp [PyData.plainAll, PyData.plain, strD_plain l]
theorem strD_depth : ∀ l : List Str, PyData.depthAll (l.map PyData.str) = 0
  | [] => by simp [PyData.depthAll]
  | x :: l => by simp [PyData.depthAll, PyData.depth, strD_depth l]
theorem strD_count (k : Str) : ∀ l : List Str, ((l.map PyData.str).countP fun y => PyData.eqv y (.str k)) = l.count k
  | [] => rfl
  | x :: l => by
    rw [List.map_cons, List.countP_cons, strD_count k l, List.count_cons]
    simp [PyData.eqv]
theorem mt_lcountS {X : Cx} (hu : X.A.units + 64 < cLine) : MtR X "list.count" (rCntS X.K) := by
  intro pins s σ H x xs v us Q I rx rxs h
  obtain ⟨p, ss, k, rfl, rfl, hs, q⟩ := h
  cases rx
  obtain ⟨u, rfl, t, rfl⟩ := rxs.one
  obtain ⟨its, rv, hl, _⟩ := I.list hs
  obtain ⟨as, rd⟩ := Dp.readsAll I (ss.map PyData.str) _ its (strD_all ss) rv
  refine SeqAt.count_list_data (xs := ss.map PyData.str) (d := .str k) hl.isList rd (Reads.str k t) (strD_plain ss) (by simp [PyData.plain]) (by rw [strD_depth]; simp only [PyData.depth]; omega) ?_
  rw [strD_count]
  exact ⟨.int (ss.count k : Nat), H, I.tok _, ⟨s.toks, rfl⟩, q⟩
theorem pe_globR {X : Cx} {x : Str} {a : Addr} {pos : Pos} (hg : Gl X x) (hm : X.mg x = some (.ref a)) (hd : (x == ("__debug__" : Str)) = false := by decide) : PE X (.Name x pos) (tC (.ref a)) := pe_glob hg hm rfl hd
/-! ### data that repr tells: n signs at most, nested k deep at most -/
structure Ni (d : PyData) (n k : Nat) : Prop where
  lay : d.canLay0 = true
  shw : d.showable = true
  dep : d.depth ≤ k
  len : d.shown.length ≤ n
structure Nis (ds : List PyData) (n k : Nat) : Prop where
  lay : PyData.canLayAll0 ds = true
  shw : PyData.showableAll ds = true
  dep : PyData.depthAll ds ≤ k
  len : piled (PyData.shownAll ds) ≤ n
theorem Ni.up {d : PyData} {n k n' k' : Nat} (h : Ni d n k) (a : n ≤ n') (b : k ≤ k') : Ni d n' k' := ⟨h.lay, h.shw, Nat.le_trans h.dep b, Nat.le_trans h.len a⟩
theorem Nis.up {d : List PyData} {n k n' k' : Nat} (h : Nis d n k) (a : n ≤ n') (b : k ≤ k') : Nis d n' k' := ⟨h.lay, h.shw, Nat.le_trans h.dep b, Nat.le_trans h.len a⟩
theorem Ni.int {i : Int} (h : i.natAbs < 10 ^ 5) : Ni (.int i) 6 0 := by
  refine ⟨by simp [PyData.canLay0], ?_, by simp [PyData.depth], ?_⟩
  · simp only [PyData.showable]
    refine decide_eq_true ?_
    rcases Nat.eq_zero_or_pos i.natAbs with e | e
    · rw [e]
      decide
    · exact Nat.lt_of_lt_of_le ((Nat.log2_lt (k := 17) (by omega)).mpr (Nat.lt_of_lt_of_le h (by decide : 10 ^ 5 ≤ 2 ^ 17))) (by decide : 17 ≤ 1920)
  · simp only [PyData.shown]
    show (Str.ofString (toString i)).length ≤ 6
    rw [ofString_length]
    exact int_text_length_le10 (k := 5) (by decide) h
theorem Ni.non : Ni .none 4 0 := ⟨by simp [PyData.canLay0], by simp [PyData.showable], by simp [PyData.depth], by simp only [PyData.shown]; decide +kernel⟩
theorem Ni.str {x : Str} {n : Nat} (o : PyData.canLay0 (.str x) = true) (h : (reprText x).length ≤ n) : Ni (.str x) n 0 := ⟨o, by simp [PyData.showable], by simp [PyData.depth], by simp only [PyData.shown]; exact h⟩
theorem Nis.nil : Nis [] 0 0 := ⟨by simp [PyData.canLayAll0], by simp [PyData.showableAll], by simp [PyData.depthAll], by simp [PyData.shownAll, piled]⟩
theorem Nis.cons {d : PyData} {ds : List PyData} {a b k : Nat} (h : Ni d a k) (t : Nis ds b k) : Nis (d :: ds) (a + 2 + b) k := by
  refine ⟨by simp [PyData.canLayAll0, h.lay, t.lay], by simp [PyData.showableAll, h.shw, t.shw], ?_, ?_⟩
  · simp only [PyData.depthAll]
    exact Nat.max_le.mpr ⟨h.dep, t.dep⟩
  · simp only [PyData.shownAll, piled_cons]
    have h1 := h.len
    have h2 := t.len
    omega
theorem tuple_len (ts : List Str) : (tupleText ts).length ≤ piled ts + 2 := by
  unfold tupleText
  rw [strLen_append, strLen_append]
  have e1 : ((("(" : String) : Str)).length = 1 := rfl
  have e3 : (((if ts.length == 1 then ",)" else ")" : String) : Str)).length ≤ 2 := by split <;> decide
  rw [e1]
  by_cases h : ts = []
  · subst h
    decide +kernel
  · have := join_length_add ts h
    omega
theorem list_len (ts : List Str) : (listText ts).length ≤ piled ts + 2 := by
  cases ts with
  | nil => decide +kernel
  | cons t r =>
    have h := textFrom_length_pos r 1 (("[" : Str) ++ (if (0 : Nat) > 0 then ", " else "" : String) ++ t) (Nat.succ_pos 0)
    rw [strLen_append, strLen_append] at h
    have e : (("[" : String) : Str).length + (((if (0 : Nat) > 0 then ", " else "" : String)) : Str).length = 1 := rfl
    have hX : (listText (t :: r)).length = (textFrom 1 (("[" : Str) ++ (if (0 : Nat) > 0 then ", " else "" : String) ++ t) r).length + 1 := by
      show (textFrom 0 "[" (t :: r) ++ "]").length = _
      rw [strLen_append]
      rfl
    rw [hX, h, piled_cons]
    omega
theorem Nis.tup {ds : List PyData} {n k : Nat} (h : Nis ds n k) : Ni (.tuple ds) (n + 2) (k + 1) := by
  refine ⟨by simp [PyData.canLay0, h.lay], by simp [PyData.showable, h.shw], ?_, ?_⟩
  · simp only [PyData.depth]
    have := h.dep
    omega
  · simp only [PyData.shown]
    have := h.len
    have := tuple_len (PyData.shownAll ds)
    omega
theorem Nis.lst {ds : List PyData} {n k : Nat} (h : Nis ds n k) : Ni (.list ds) (n + 2) (k + 1) := by
  refine ⟨by simp [PyData.canLay0, h.lay], by simp [PyData.showable, h.shw], ?_, ?_⟩
  · simp only [PyData.depth]
    have := h.dep
    omega
  · simp only [PyData.shown]
    have := h.len
    have := list_len (PyData.shownAll ds)
    omega
theorem nabs {k : Int} (h : 0 ≤ k ∧ k < 65536) : k.natAbs < 10 ^ 5 := by
  have : (10 : Nat) ^ 5 = 100000 := by decide
  omega
/-! terms -/
def Tm.dat : Tm → PyData
  | .num n => .tuple [.str "num", .int n]
  | .cell k => .tuple [.str "cell", .int k]
  | .at f s e => .tuple [.str "at", .int f, .int s, e.dat]
  | .neg e => .tuple [.str "neg", e.dat]
  | .not e => .tuple [.str "not", e.dat]
  | .bin o a b => .tuple [.str o.str, a.dat, b.dat]
theorem Tm.In.dp {K : PySem.W.Frag} {H : Hp} : ∀ {e : Tm} {v : V}, e.In H v → Dp K H v e.dat
  | .num _, _, ⟨_, h, a⟩ => by subst h; exact .tup (sqt a) (.cons (.str _) (.cons (.int _) .nil))
  | .cell _, _, ⟨_, h, a⟩ => by subst h; exact .tup (sqt a) (.cons (.str _) (.cons (.int _) .nil))
  | .at _ _ _, _, ⟨_, _, h, a, b⟩ => by subst h; exact .tup (sqt a) (.cons (.str _) (.cons (.int _) (.cons (.int _) (.cons (Tm.In.dp b) .nil))))
  | .neg _, _, ⟨_, _, h, a, b⟩ => by subst h; exact .tup (sqt a) (.cons (.str _) (.cons (Tm.In.dp b) .nil))
  | .not _, _, ⟨_, _, h, a, b⟩ => by subst h; exact .tup (sqt a) (.cons (.str _) (.cons (Tm.In.dp b) .nil))
  | .bin _ _ _, _, ⟨_, _, _, h, a, b, c⟩ => by subst h; exact .tup (sqt a) (.cons (.str _) (.cons (Tm.In.dp b) (.cons (Tm.In.dp c) .nil)))
def tln : Nat → Nat
  | 0 => 3
  | n + 1 => 2 * tln n + 13
theorem tln_ge3 : ∀ n, 3 ≤ tln n
  | 0 => Nat.le_refl _
  | n + 1 => by
    show 3 ≤ 2 * tln n + 13
    omega
theorem tln_ge {n : Nat} (h : 0 < n) : 19 ≤ tln n := by
  obtain ⟨m, rfl⟩ : ∃ m, n = m + 1 := ⟨n - 1, by omega⟩
  have := tln_ge3 m
  show 19 ≤ 2 * tln m + 13
  omega
theorem tln_mono {m n : Nat} (h : m ≤ n) : tln m ≤ tln n := by
  induction h with
  | refl => exact Nat.le_refl _
  | step _ ih =>
    refine Nat.le_trans ih ?_
    show _ ≤ 2 * tln _ + 13
    omega
theorem ni_op (o : Op) : Ni (.str o.str) 5 0 := by cases o <;> exact Ni.str (by decide +kernel) (by decide +kernel)
theorem Tm.ni {R : Int → Prop} (hR : ∀ k, R k → 0 ≤ k ∧ k < 65536) : ∀ {e : Tm}, e.fit R → Ni e.dat (tln e.deep) e.deep
  | .num k, h => ((Nis.cons (Ni.str (x := "num") (n := 5) (by decide +kernel) (by decide +kernel)) (Nis.cons (Ni.int (nabs h)) Nis.nil)).tup).up (Nat.le_trans (by decide) (tln_ge (Tm.deep_pos _))) (Nat.le_refl _)
  | .cell k, h => ((Nis.cons (Ni.str (x := "cell") (n := 6) (by decide +kernel) (by decide +kernel)) (Nis.cons (Ni.int (nabs (hR _ h))) Nis.nil)).tup).up (Nat.le_trans (by decide) (tln_ge (Tm.deep_pos _))) (Nat.le_refl _)
  | .at f s e, h => by
    have i := Tm.ni hR h.2.2.2
    have hf := hR f (h.2.2.1 f (Int.le_refl f) (by have := h.1; omega))
    have hs : 0 ≤ s ∧ s < 65536 := ⟨by have := h.1; omega, by have := h.2.1; omega⟩
    refine ((Nis.cons ((Ni.str (x := "at") (n := 4) (by decide +kernel) (by decide +kernel)).up (Nat.le_refl _) (Nat.zero_le _)) (Nis.cons ((Ni.int (nabs hf)).up (Nat.le_refl _) (Nat.zero_le _)) (Nis.cons ((Ni.int (nabs hs)).up (Nat.le_refl _) (Nat.zero_le _)) (Nis.cons i (Nis.nil.up (Nat.le_refl _) (Nat.zero_le _)))))).tup).up ?_ (Nat.le_refl _)
    have := tln_ge e.deep_pos
    show _ ≤ 2 * tln e.deep + 13
    omega
  | .neg e, h => by
    have i := Tm.ni (e := e) hR h
    refine ((Nis.cons ((Ni.str (x := "neg") (n := 5) (by decide +kernel) (by decide +kernel)).up (Nat.le_refl _) (Nat.zero_le _)) (Nis.cons i (Nis.nil.up (Nat.le_refl _) (Nat.zero_le _)))).tup).up ?_ (Nat.le_refl _)
    have := tln_ge e.deep_pos
    show _ ≤ 2 * tln e.deep + 13
    omega
  | .not e, h => by
    have i := Tm.ni (e := e) hR h
    refine ((Nis.cons ((Ni.str (x := "not") (n := 5) (by decide +kernel) (by decide +kernel)).up (Nat.le_refl _) (Nat.zero_le _)) (Nis.cons i (Nis.nil.up (Nat.le_refl _) (Nat.zero_le _)))).tup).up ?_ (Nat.le_refl _)
    have := tln_ge e.deep_pos
    show _ ≤ 2 * tln e.deep + 13
    omega
  | .bin o a b, h => by
    have i := Tm.ni hR h.1
    have j := Tm.ni hR h.2
    have i2 := i.up (tln_mono (Nat.le_max_left a.deep b.deep)) (Nat.le_max_left a.deep b.deep)
    have j2 := j.up (tln_mono (Nat.le_max_right a.deep b.deep)) (Nat.le_max_right a.deep b.deep)
    refine ((Nis.cons ((ni_op o).up (Nat.le_refl _) (Nat.zero_le _)) (Nis.cons i2 (Nis.cons j2 (Nis.nil.up (Nat.le_refl _) (Nat.zero_le _))))).tup).up ?_ (Nat.le_refl _)
    show _ ≤ 2 * tln (max a.deep b.deep) + 13
    omega
theorem Tm.aim.fitR {W R : Int → Prop} (hW : ∀ k, W k → 0 ≤ k ∧ k < 65536) (hR : ∀ k, R k → 0 ≤ k ∧ k < 65536) {e : Tm} (h : e.aim W R) : e.fit fun k => 0 ≤ k ∧ k < 65536 := h.fit hW hR
/-- a term of a statement: 483 signs at most -/
theorem Tm.ni5 {R : Int → Prop} (hR : ∀ k, R k → 0 ≤ k ∧ k < 65536) {e : Tm} (h : e.fit R) (d : e.deep ≤ 5) : Ni e.dat 600 5 := (Tm.ni hR h).up (Nat.le_trans (tln_mono d) (by decide)) d
theorem Tm.ni5a {W R : Int → Prop} (hW : ∀ k, W k → 0 ≤ k ∧ k < 65536) (hR : ∀ k, R k → 0 ≤ k ∧ k < 65536) {e : Tm} (h : e.aim W R) (d : e.deep ≤ 5) : Ni e.dat 600 5 := Tm.ni5 (fun _ z => z) (h.fitR hW hR) d
/-! ### as fit, but what is stored may be one `+ cell` deeper (the statements that a law has mixed) -/
def Tm.d5 (e : Tm) : Prop := e.deep ≤ 5 ∨ ∃ a k, e = .bin .add a (.cell k) ∧ a.deep ≤ 5
theorem Tm.d5.le6 {e : Tm} (h : e.d5) : e.deep ≤ 6 := by
  rcases h with h | ⟨a, k, rfl, h⟩
  · omega
  · simp only [Tm.deep]
    omega
mutual
def Sx.fw (F : Fr) : Sx → Prop
  | .skip => True
  | .stop => True
  | .set t e => t.aim F.W F.R ∧ t.deep ≤ 5 ∧ e.fit F.R ∧ e.d5
  | .give c e => F.G c ∧ e.fit F.R ∧ e.deep ≤ 5
  | .take c t => F.T c ∧ t.aim F.W F.R ∧ t.deep ≤ 5
  | .ife e a b => e.fit F.R ∧ e.deep ≤ 5 ∧ a.fw F ∧ b.fw F
  | .rep e n a => e.fit F.R ∧ e.deep ≤ 5 ∧ 0 ≤ n ∧ n < 100 ∧ a.fw F
  | .seq ss => ss.fw F
  | .par ps => ps.fw F
  | .alt rs => rs.fw F
def Ss.fw (F : Fr) : Ss → Prop
  | .nil => True
  | .cons s r => s.fw F ∧ r.fw F
def Ps.fw (F : Fr) : Ps → Prop
  | .nil => True
  | .cons _ s r => s.fw F ∧ r.fw F
def As.fw (F : Fr) : As → Prop
  | .nil => True
  | .cons g c t s r => gFit F.R g ∧ F.T c ∧ t.aim F.W F.R ∧ t.deep ≤ 5 ∧ s.fw F ∧ r.fw F
end
mutual
theorem Sx.fit.fw {F : Fr} : ∀ {s : Sx}, s.fit F → s.fw F
  | .skip, h => h
  | .stop, h => h
  | .set _ _, h => ⟨h.1, h.2.1, h.2.2.1, .inl h.2.2.2⟩
  | .give _ _, h => h
  | .take _ _, h => h
  | .ife _ _ _, h => ⟨h.1, h.2.1, Sx.fit.fw h.2.2.1, Sx.fit.fw h.2.2.2⟩
  | .rep _ _ _, h => ⟨h.1, h.2.1, h.2.2.1, h.2.2.2.1, Sx.fit.fw h.2.2.2.2⟩
  | .seq _, h => Ss.fit.fw h
  | .par _, h => Ps.fit.fw h
  | .alt _, h => As.fit.fw h
theorem Ss.fit.fw {F : Fr} : ∀ {s : Ss}, s.fit F → s.fw F
  | .nil, h => h
  | .cons _ _, h => ⟨Sx.fit.fw h.1, Ss.fit.fw h.2⟩
theorem Ps.fit.fw {F : Fr} : ∀ {s : Ps}, s.fit F → s.fw F
  | .nil, h => h
  | .cons _ _ _, h => ⟨Sx.fit.fw h.1, Ps.fit.fw h.2⟩
theorem As.fit.fw {F : Fr} : ∀ {s : As}, s.fit F → s.fw F
  | .nil, h => h
  | .cons _ _ _ _ _, h => ⟨h.1, h.2.1, h.2.2.1, h.2.2.2.1, Sx.fit.fw h.2.2.2.2.1, As.fit.fw h.2.2.2.2.2⟩
end
/-! ### statements and cores as data -/
def gDat : Option Tm → PyData
  | none => .none
  | some e => e.dat
mutual
def Sx.dat : Sx → PyData
  | .skip => .tuple [.str "skip"]
  | .stop => .tuple [.str "stop"]
  | .set t e => .tuple [.str "set", t.dat, e.dat]
  | .give c e => .tuple [.str "give", .int c, e.dat]
  | .take c t => .tuple [.str "take", .int c, t.dat]
  | .ife e a b => .tuple [.str "if", e.dat, a.dat, b.dat]
  | .rep e n a => .tuple [.str "repeat", e.dat, .int n, a.dat]
  | .seq ss => .tuple [.str "seq", .list ss.dats]
  | .par ps => .tuple [.str "par", .list ps.dats]
  | .alt rs => .tuple [.str "alt", .list rs.dats]
def Ss.dats : Ss → List PyData
  | .nil => []
  | .cons s r => s.dat :: r.dats
def Ps.dats : Ps → List PyData
  | .nil => []
  | .cons t s r => .tuple [.int t, s.dat] :: r.dats
def As.dats : As → List PyData
  | .nil => []
  | .cons g c t s r => .tuple [gDat g, .int c, t.dat, s.dat] :: r.dats
end
theorem gIn.dp {K : PySem.W.Frag} {H : Hp} : ∀ {g : Option Tm} {v : V}, gIn H g v → Dp K H v (gDat g)
  | none, _, h => by cases h; exact .non
  | some _, _, h => Tm.In.dp h
mutual
theorem Sx.In.dp {M : List Addr} {K : PySem.W.Frag} {H : Hp} : ∀ {s : Sx} {v : V}, s.In M H v → Dp K H v s.dat
  | .skip, _, ⟨_, e, h⟩ => by subst e; exact .tup (sqt h) (.cons (.str _) .nil)
  | .stop, _, ⟨_, e, h⟩ => by subst e; exact .tup (sqt h) (.cons (.str _) .nil)
  | .set _ _, _, ⟨_, _, _, e, h, a, b⟩ => by subst e; exact .tup (sqt h) (.cons (.str _) (.cons a.dp (.cons b.dp .nil)))
  | .give _ _, _, ⟨_, _, e, h, a⟩ => by subst e; exact .tup (sqt h) (.cons (.str _) (.cons (.int _) (.cons a.dp .nil)))
  | .take _ _, _, ⟨_, _, e, h, a⟩ => by subst e; exact .tup (sqt h) (.cons (.str _) (.cons (.int _) (.cons a.dp .nil)))
  | .ife _ _ _, _, ⟨_, _, _, _, e, h, a, b, c⟩ => by subst e; exact .tup (sqt h) (.cons (.str _) (.cons a.dp (.cons (Sx.In.dp b) (.cons (Sx.In.dp c) .nil))))
  | .rep _ _ _, _, ⟨_, _, _, e, h, a, b⟩ => by subst e; exact .tup (sqt h) (.cons (.str _) (.cons a.dp (.cons (.int _) (.cons (Sx.In.dp b) .nil))))
  | .seq _, _, ⟨_, _, _, e, h, hl, m, a⟩ => by subst e; exact .tup (sqt h) (.cons (.str _) (.cons (.lst (sql hl) (Ss.In.dp a)) .nil))
  | .par _, _, ⟨_, _, _, e, h, hl, m, a⟩ => by subst e; exact .tup (sqt h) (.cons (.str _) (.cons (.lst (sql hl) (Ps.In.dp a)) .nil))
  | .alt _, _, ⟨_, _, _, e, h, hl, m, a⟩ => by subst e; exact .tup (sqt h) (.cons (.str _) (.cons (.lst (sql hl) (As.In.dp a)) .nil))
theorem Ss.In.dp {M : List Addr} {K : PySem.W.Frag} {H : Hp} : ∀ {s : Ss} {v : List V}, s.In M H v → DpAll K H v s.dats
  | .nil, _, h => by cases h; exact .nil
  | .cons _ _, _, ⟨_, _, e, a, b⟩ => by subst e; exact .cons (Sx.In.dp a) (Ss.In.dp b)
theorem Ps.In.dp {M : List Addr} {K : PySem.W.Frag} {H : Hp} : ∀ {s : Ps} {v : List V}, s.In M H v → DpAll K H v s.dats
  | .nil, _, h => by cases h; exact .nil
  | .cons _ _ _, _, ⟨_, _, _, e, h, a, b⟩ => by subst e; exact .cons (.tup (sqt h) (.cons (.int _) (.cons (Sx.In.dp a) .nil))) (Ps.In.dp b)
theorem As.In.dp {M : List Addr} {K : PySem.W.Frag} {H : Hp} : ∀ {s : As} {v : List V}, s.In M H v → DpAll K H v s.dats
  | .nil, _, h => by cases h; exact .nil
  | .cons _ _ _ _ _, _, ⟨_, _, _, _, _, e, h, g, a, b, c⟩ => by subst e; exact .cons (.tup (sqt h) (.cons (gIn.dp g) (.cons (.int _) (.cons a.dp (.cons (Sx.In.dp b) .nil))))) (As.In.dp c)
end
/-- small numbers all over -/
structure Fr.sm (F : Fr) : Prop where
  w : ∀ k, F.W k → 0 ≤ k ∧ k < 65536
  r : ∀ k, F.R k → 0 ≤ k ∧ k < 65536
  g : ∀ k, F.G k → 0 ≤ k ∧ k < 65536
  t : ∀ k, F.T k → 0 ≤ k ∧ k < 65536
theorem ni_s {x : Str} {k : Nat} (o : PyData.canLay0 (.str x) = true) (h : (reprText x).length ≤ 8) : Ni (.str x) 8 k := (Ni.str o h).up (Nat.le_refl _) (Nat.zero_le _)
theorem ni_i {i : Int} {k : Nat} (h : 0 ≤ i ∧ i < 65536) : Ni (.int i) 6 k := (Ni.int (nabs h)).up (Nat.le_refl _) (Nat.zero_le _)
theorem nis0 {k : Nat} : Nis [] 0 k := Nis.nil.up (Nat.le_refl _) (Nat.zero_le _)
theorem ni_g {R : Int → Prop} (hR : ∀ k, R k → 0 ≤ k ∧ k < 65536) {k : Nat} (hk : 5 ≤ k) : ∀ {g : Option Tm}, gFit R g → Ni (gDat g) 600 k
  | none, _ => Ni.non.up (by decide) (Nat.zero_le _)
  | some _, h => (Tm.ni5 hR h.1 h.2).up (Nat.le_refl _) hk
theorem Tm.ni6 {R : Int → Prop} (hR : ∀ k, R k → 0 ≤ k ∧ k < 65536) {e : Tm} (h : e.fit R) (d : e.d5) : Ni e.dat 600 6 := by
  rcases d with d | ⟨a, k, rfl, d⟩
  · exact (Tm.ni5 hR h d).up (Nat.le_refl _) (by omega)
  · have ha : Ni a.dat 500 5 := (Tm.ni (fun k z => hR k z) h.1).up (Nat.le_trans (tln_mono d) (by decide)) d
    have hk : Ni (Tm.cell k).dat 20 5 := (Tm.ni (fun k z => hR k z) h.2).up (Nat.le_trans (tln_mono (m := 1) (Nat.le_refl _)) (by decide)) (show 1 ≤ 5 by decide)
    exact ((Nis.cons (ni_s (x := "+") (by decide +kernel) (by decide +kernel)) (Nis.cons ha (Nis.cons hk nis0))).tup).up (by omega) (by omega)
mutual
theorem Sx.ni {F : Fr} (hF : F.sm) : ∀ {s : Sx} {t : Int}, s.fw F → s.num t → 0 ≤ t → t + s.cnt < 65536 → Ni s.dat (2600 * s.sz - 1300) (3 * s.dep + 5)
  | .skip, _, _, _, _, _ => ((Nis.cons (ni_s (x := "skip") (by decide +kernel) (by decide +kernel)) nis0).tup).up (by simp only [Sx.sz]; omega) (by simp only [Sx.dep]; omega : 0 + 1 ≤ _)
  | .stop, _, _, _, _, _ => ((Nis.cons (ni_s (x := "stop") (by decide +kernel) (by decide +kernel)) nis0).tup).up (by simp only [Sx.sz]; omega) (by simp only [Sx.dep]; omega : 0 + 1 ≤ _)
  | .set _ _, _, h, _, _, _ => ((Nis.cons (ni_s (x := "set") (by decide +kernel) (by decide +kernel)) (Nis.cons ((Tm.ni5a hF.w hF.r h.1 h.2.1).up (Nat.le_refl _) (by omega : 5 ≤ 6)) (Nis.cons (Tm.ni6 hF.r h.2.2.1 h.2.2.2) nis0))).tup).up (by simp only [Sx.sz]; omega) (by simp only [Sx.dep]; omega)
  | .give _ _, _, h, _, _, _ => ((Nis.cons (ni_s (x := "give") (by decide +kernel) (by decide +kernel)) (Nis.cons (ni_i (hF.g _ h.1)) (Nis.cons (Tm.ni5 hF.r h.2.1 h.2.2) nis0))).tup).up (by simp only [Sx.sz]; omega) (by simp only [Sx.dep]; omega)
  | .take _ _, _, h, _, _, _ => ((Nis.cons (ni_s (x := "take") (by decide +kernel) (by decide +kernel)) (Nis.cons (ni_i (hF.t _ h.1)) (Nis.cons (Tm.ni5a hF.w hF.r h.2.1 h.2.2) nis0))).tup).up (by simp only [Sx.sz]; omega) (by simp only [Sx.dep]; omega)
  | .ife e a b, t, h, hn, h0, h1 => by
    simp only [Sx.cnt] at h1
    have ia := Sx.ni hF h.2.2.1 hn.1 h0 (by omega)
    have ib := Sx.ni hF h.2.2.2 hn.2 (by omega) (by omega)
    refine ((Nis.cons (ni_s (x := "if") (k := 3 * max a.dep b.dep + 5) (by decide +kernel) (by decide +kernel)) (Nis.cons ((Tm.ni5 hF.r h.1 h.2.1).up (Nat.le_refl _) (by omega)) (Nis.cons (ia.up (Nat.le_refl _) (by omega)) (Nis.cons (ib.up (Nat.le_refl _) (by omega)) nis0)))).tup).up ?_ (by simp only [Sx.dep]; omega)
    simp only [Sx.sz]
    omega
  | .rep e n a, t, h, hn, h0, h1 => by
    simp only [Sx.cnt] at h1
    have ia := Sx.ni (s := a) hF h.2.2.2.2 hn h0 (by omega)
    refine ((Nis.cons (ni_s (x := "repeat") (k := 3 * a.dep + 5) (by decide +kernel) (by decide +kernel)) (Nis.cons ((Tm.ni5 hF.r h.1 h.2.1).up (Nat.le_refl _) (by omega)) (Nis.cons (ni_i ⟨h.2.2.1, by have := h.2.2.2.1; omega⟩) (Nis.cons ia nis0)))).tup).up ?_ (by simp only [Sx.dep]; omega)
    simp only [Sx.sz]
    omega
  | .seq ss, t, h, hn, h0, h1 => by
    have ia := Ss.ni (s := ss) hF h hn h0 h1
    refine ((Nis.cons (ni_s (x := "seq") (by decide +kernel) (by decide +kernel)) (Nis.cons ia.lst nis0)).tup).up ?_ (by simp only [Sx.dep]; omega)
    simp only [Sx.sz]
    omega
  | .par ss, t, h, hn, h0, h1 => by
    have ia := Ps.ni (s := ss) hF h hn h0 h1
    refine ((Nis.cons (ni_s (x := "par") (by decide +kernel) (by decide +kernel)) (Nis.cons ia.lst nis0)).tup).up ?_ (by simp only [Sx.dep]; omega)
    simp only [Sx.sz]
    omega
  | .alt ss, t, h, hn, h0, h1 => by
    have ia := As.ni (s := ss) hF h hn h0 h1
    refine ((Nis.cons (ni_s (x := "alt") (by decide +kernel) (by decide +kernel)) (Nis.cons ia.lst nis0)).tup).up ?_ (by simp only [Sx.dep]; omega)
    simp only [Sx.sz]
    omega
theorem Ss.ni {F : Fr} (hF : F.sm) : ∀ {s : Ss} {t : Int}, s.fw F → s.num t → 0 ≤ t → t + s.cnt < 65536 → Nis s.dats (2600 * s.sz) (3 * s.dep + 5)
  | .nil, _, _, _, _, _ => nis0.up (Nat.zero_le _) (Nat.le_refl _)
  | .cons s r, t, h, hn, h0, h1 => by
    simp only [Ss.cnt] at h1
    have ia := Sx.ni hF h.1 hn.1 h0 (by omega)
    have ib := Ss.ni hF h.2 hn.2 (by omega) (by omega)
    have hz : 0 < s.sz := by cases s <;> simp only [Sx.sz] <;> omega
    refine (Nis.cons (ia.up (Nat.le_refl _) (k' := 3 * max s.dep r.dep + 5) (by omega)) (ib.up (Nat.le_refl _) (by omega))).up ?_ (by simp only [Ss.dep]; omega)
    simp only [Ss.sz]
    omega
theorem Ps.ni {F : Fr} (hF : F.sm) : ∀ {s : Ps} {t : Int}, s.fw F → s.num t → 0 ≤ t → t + s.cnt < 65536 → Nis s.dats (2600 * s.sz) (3 * s.dep + 6)
  | .nil, _, _, _, _, _ => nis0.up (Nat.zero_le _) (Nat.le_refl _)
  | .cons k s r, t, h, hn, h0, h1 => by
    simp only [Ps.cnt] at h1
    have ia := Sx.ni hF h.1 hn.2.1 (by omega) (by omega)
    have ib := Ps.ni hF h.2 hn.2.2 (by omega) (by omega)
    have hz : 0 < s.sz := by cases s <;> simp only [Sx.sz] <;> omega
    have hk : 0 ≤ k ∧ k < 65536 := by
      have := hn.1
      omega
    have ir := ((Nis.cons (ni_i hk) (Nis.cons ia nis0)).tup)
    refine (Nis.cons (ir.up (Nat.le_refl _) (k' := 3 * max s.dep r.dep + 6) (by omega)) (ib.up (Nat.le_refl _) (by omega))).up ?_ (by simp only [Ps.dep]; omega)
    simp only [Ps.sz]
    omega
theorem As.ni {F : Fr} (hF : F.sm) : ∀ {s : As} {t : Int}, s.fw F → s.num t → 0 ≤ t → t + s.cnt < 65536 → Nis s.dats (2600 * s.sz) (3 * s.dep + 6)
  | .nil, _, _, _, _, _ => nis0.up (Nat.zero_le _) (Nat.le_refl _)
  | .cons g c u s r, t, h, hn, h0, h1 => by
    simp only [As.cnt] at h1
    have ia := Sx.ni hF h.2.2.2.2.1 hn.1 h0 (by omega)
    have ib := As.ni hF h.2.2.2.2.2 hn.2 (by omega) (by omega)
    have hz : 0 < s.sz := by cases s <;> simp only [Sx.sz] <;> omega
    have ir := ((Nis.cons (ni_g hF.r (k := 3 * s.dep + 5) (by omega) h.1) (Nis.cons (ni_i (hF.t _ h.2.1)) (Nis.cons ((Tm.ni5a hF.w hF.r h.2.2.1 h.2.2.2.1).up (Nat.le_refl _) (by omega)) (Nis.cons ia nis0)))).tup)
    refine (Nis.cons (ir.up (Nat.le_refl _) (k' := 3 * max s.dep r.dep + 6) (by omega)) (ib.up (Nat.le_refl _) (by omega))).up ?_ (by simp only [As.dep]; omega)
    simp only [As.sz]
    omega
end
def strDs (l : List Str) : List PyData := l.map PyData.str
theorem strs_dp {K : PySem.W.Frag} {H : Hp} : ∀ l : List Str, DpAll K H (l.map V.str) (strDs l)
  | [] => .nil
  | x :: l => .cons (.str x) (strs_dp l)
theorem strs_ni {k : Nat} : ∀ {l : List Str}, (∀ x ∈ l, x = ("in" : Str) ∨ x = ("out" : Str) ∨ x = ("inner" : Str)) → Nis (strDs l) (10 * l.length) k
  | [], _ => nis0.up (Nat.zero_le _) (Nat.le_refl _)
  | x :: l, h => by
    have i := strs_ni (k := k) fun y hy => h y (List.mem_cons_of_mem _ hy)
    have hx : Ni (.str x) 8 k := by
      rcases h x (List.mem_cons_self ..) with rfl | rfl | rfl <;> exact ni_s (by decide +kernel) (by decide +kernel)
    refine (Nis.cons hx i).up ?_ (Nat.le_refl _)
    simp only [List.length_cons]
    omega
def CoreD.dat (cd : CoreD) : PyData := .tuple [.str "core", .int cd.cells, .list (strDs cd.chs), (Sx.seq cd.ss).dat]
theorem CoreD.In.dp {M : List Addr} {K : PySem.W.Frag} {H : Hp} {cd : CoreD} {v : V} (h : cd.In M H v) : Dp K H v cd.dat := by
  obtain ⟨p, ch, s, rfl, hp, hc, _, hs⟩ := h
  exact .tup (sqt hp) (.cons (.str _) (.cons (.int _) (.cons (.lst (sql hc) (strs_dp _)) (.cons hs.dp .nil))))
/-- a core whose statements may be mixed anew -/
structure CoreD.okw (cd : CoreD) : Prop where
  c0 : 0 ≤ cd.cells
  c1 : cd.cells ≤ 400
  chs : ∀ x ∈ cd.chs, x = ("in" : Str) ∨ x = ("out" : Str) ∨ x = ("inner" : Str)
  c24 : cd.chs.length ≤ 24
  fw : cd.ss.fw ⟨fun x => 0 ≤ x ∧ x < cd.cells, fun x => 0 ≤ x ∧ x < cd.cells, fun x => 0 ≤ x ∧ x < cd.chs.length, fun x => 0 ≤ x ∧ x < cd.chs.length⟩
  num : cd.ss.num 1
  cnt : cd.ss.cnt ≤ 11
  dep : cd.ss.dep ≤ 70
  sz : cd.ss.sz ≤ 6000
theorem CoreD.ok.okw {cd : CoreD} (h : cd.ok) : cd.okw := by
  obtain ⟨i, o, j, hi, ho, hc, hf⟩ := h.ch
  have hle : Fr.le ⟨fun x => 0 ≤ x ∧ x < cd.cells, fun x => 0 ≤ x ∧ x < cd.cells, fun x => (i : Int) ≤ x ∧ x < cd.chs.length, fun x => 0 ≤ x ∧ x < cd.chs.length ∧ (x < i ∨ (i + o : Int) ≤ x)⟩ ⟨fun x => 0 ≤ x ∧ x < cd.cells, fun x => 0 ≤ x ∧ x < cd.cells, fun x => 0 ≤ x ∧ x < cd.chs.length, fun x => 0 ≤ x ∧ x < cd.chs.length⟩ := ⟨fun k z => z, fun k z => z, fun k z => ⟨by have := z.1; omega, z.2⟩, fun k z => ⟨z.1, z.2.1⟩⟩
  have hg : cd.ss.fit ⟨fun x => 0 ≤ x ∧ x < cd.cells, fun x => 0 ≤ x ∧ x < cd.cells, fun x => 0 ≤ x ∧ x < cd.chs.length, fun x => 0 ≤ x ∧ x < cd.chs.length⟩ := Ss.fit.mono hle hf
  refine ⟨h.c0, Int.le_trans h.c1 (by decide), fun x hx => ?_, h.c24, hg.fw, h.num, h.cnt, h.dep, h.sz⟩
  rw [hc] at hx
  simp only [List.mem_append, List.mem_replicate] at hx
  rcases hx with (⟨_, hx⟩ | ⟨_, hx⟩) | ⟨_, hx⟩
  · exact .inl hx
  · exact .inr (.inl hx)
  · exact .inr (.inr hx)
theorem CoreD.okw.ni {cd : CoreD} (h : cd.okw) : Ni cd.dat 15700000 300 := by
  have h24 := h.c24
  have hcn := h.cnt
  have hsz := h.sz
  have hdp := h.dep
  have hc0 := h.c0
  have hc1 := h.c1
  have hs := Sx.ni (s := .seq cd.ss) (t := 1) (F := ⟨fun x => 0 ≤ x ∧ x < cd.cells, fun x => 0 ≤ x ∧ x < cd.cells, fun x => 0 ≤ x ∧ x < cd.chs.length, fun x => 0 ≤ x ∧ x < cd.chs.length⟩)
    ⟨fun k z => ⟨z.1, by have := z.2; omega⟩, fun k z => ⟨z.1, by have := z.2; omega⟩, fun k z => ⟨z.1, by have := z.2; omega⟩, fun k z => ⟨z.1, by have := z.2; omega⟩⟩ h.fw h.num (by decide) (by simp only [Sx.cnt]; omega)
  simp only [Sx.sz, Sx.dep] at hs
  exact ((Nis.cons (ni_s (x := "core") (k := 299) (by decide +kernel) (by decide +kernel)) (Nis.cons (ni_i ⟨hc0, by omega⟩) (Nis.cons (((strs_ni (k := 298) h.chs : Nis (strDs cd.chs) _ 298)).lst) (Nis.cons (hs.up (Nat.le_refl _) (by omega)) nis0)))).tup).up (by omega) (Nat.le_refl _)
theorem CoreD.ok.ni {cd : CoreD} (h : cd.ok) : Ni cd.dat 15700000 300 := h.okw.ni
theorem sizeLine_big {n : Nat} (h : n ≤ 16000000) : n ≤ sizeLine := Nat.le_trans h (by decide)
/-- repr of data -/
theorem q_repr {K : PySem.W.Frag} {H : Hp} {Q : VK} {a : Addr} {d : PyData} {n k : Nat} (h : Dp K H (.ref a) d) (i : Ni d n k) (hn : n ≤ 16000000) (hk : k ≤ 1000) (q : Q (.str d.shown) H) : rRepr K [.ref a] H Q :=
  ⟨a, d, rfl, h, i.shw, PyData.hasDict_of_canLay _ i.lay, Nat.le_trans i.dep hk, Nat.le_trans i.len (sizeLine_big hn), q⟩
/-! ### the parts of a statement, as the objects that they are -/
mutual
theorem Sx.In.to {M N : List Addr} {H : Hp} (n : ∀ l xs, H l = some (.lst xs) → l ∉ M → l ∉ N) : ∀ {s : Sx} {v : V}, s.In M H v → s.In N H v
  | .skip, _, h => h
  | .stop, _, h => h
  | .set _ _, _, h => h
  | .give _ _, _, h => h
  | .take _ _, _, h => h
  | .ife _ _ _, _, ⟨q, x, y, z, e, h, a, b, c⟩ => ⟨q, x, y, z, e, h, a, Sx.In.to n b, Sx.In.to n c⟩
  | .rep _ _ _, _, ⟨q, x, y, e, h, a, b⟩ => ⟨q, x, y, e, h, a, Sx.In.to n b⟩
  | .seq _, _, ⟨q, l, xs, e, h, hl, m, a⟩ => ⟨q, l, xs, e, h, hl, n _ _ hl m, Ss.In.to n a⟩
  | .par _, _, ⟨q, l, xs, e, h, hl, m, a⟩ => ⟨q, l, xs, e, h, hl, n _ _ hl m, Ps.In.to n a⟩
  | .alt _, _, ⟨q, l, xs, e, h, hl, m, a⟩ => ⟨q, l, xs, e, h, hl, n _ _ hl m, As.In.to n a⟩
theorem Ss.In.to {M N : List Addr} {H : Hp} (n : ∀ l xs, H l = some (.lst xs) → l ∉ M → l ∉ N) : ∀ {s : Ss} {v : List V}, s.In M H v → s.In N H v
  | .nil, _, h => h
  | .cons _ _, _, ⟨x, ys, e, a, b⟩ => ⟨x, ys, e, Sx.In.to n a, Ss.In.to n b⟩
theorem Ps.In.to {M N : List Addr} {H : Hp} (n : ∀ l xs, H l = some (.lst xs) → l ∉ M → l ∉ N) : ∀ {s : Ps} {v : List V}, s.In M H v → s.In N H v
  | .nil, _, h => h
  | .cons _ _ _, _, ⟨q, x, ys, e, h, a, b⟩ => ⟨q, x, ys, e, h, Sx.In.to n a, Ps.In.to n b⟩
theorem As.In.to {M N : List Addr} {H : Hp} (n : ∀ l xs, H l = some (.lst xs) → l ∉ M → l ∉ N) : ∀ {s : As} {v : List V}, s.In M H v → s.In N H v
  | .nil, _, h => h
  | .cons _ _ _ _ _, _, ⟨q, u, x, y, ys, e, h, g, a, b, c⟩ => ⟨q, u, x, y, ys, e, h, g, a, Sx.In.to n b, As.In.to n c⟩
end
theorem to_add {M : List Addr} {H : Hp} {p : Addr} (n : H p = none) : ∀ l xs, H l = some (.lst xs) → l ∉ M → l ∉ p :: M := fun _ _ h m => nin_c (ne_of_none h n) m
theorem Sx.In.add {M : List Addr} {H : Hp} {p : Addr} (n : H p = none) {s : Sx} {v : V} (h : s.In M H v) : s.In (p :: M) H v := h.to (to_add n)
abbrev RowP (H : Hp) (x y : V) : Prop := ∃ q t, x = .ref q ∧ H q = some (.tup [.int t, y])
abbrev RowA (H : Hp) (x y : V) : Prop := ∃ q u c t, x = .ref q ∧ H q = some (.tup [u, .int c, t, y])
def Sx.Pv (M : List Addr) (H : Hp) (v : V) : Sx → List V → Prop
  | .seq _, pl => ∃ p l, v = .ref p ∧ H p = some (.tup [.str "seq", .ref l]) ∧ H l = some (.lst pl) ∧ l ∉ M
  | .par _, pl => ∃ p l xs, v = .ref p ∧ H p = some (.tup [.str "par", .ref l]) ∧ H l = some (.lst xs) ∧ l ∉ M ∧ Paired (RowP H) xs pl
  | .alt _, pl => ∃ p l xs, v = .ref p ∧ H p = some (.tup [.str "alt", .ref l]) ∧ H l = some (.lst xs) ∧ l ∉ M ∧ Paired (RowA H) xs pl
  | .ife _ _ _, pl => ∃ p x y z, v = .ref p ∧ H p = some (.tup [.str "if", x, y, z]) ∧ pl = [y, z]
  | .rep _ n _, pl => ∃ p x y, v = .ref p ∧ H p = some (.tup [.str "repeat", x, .int n, y]) ∧ pl = [y]
  | _, pl => pl = []
theorem Sx.Pv.kp {M : List Addr} {H H' : Hp} {v : V} (k : Kp M H H') : ∀ {s : Sx} {pl : List V}, s.Pv M H v pl → s.Pv M H' v pl
  | .skip, _, h => h
  | .stop, _, h => h
  | .set _ _, _, h => h
  | .give _ _, _, h => h
  | .take _ _, _, h => h
  | .ife _ _ _, _, ⟨p, x, y, z, e, h, a⟩ => ⟨p, x, y, z, e, k.tup _ _ h, a⟩
  | .rep _ _ _, _, ⟨p, x, y, e, h, a⟩ => ⟨p, x, y, e, k.tup _ _ h, a⟩
  | .seq _, _, ⟨p, l, e, h, hl, m⟩ => ⟨p, l, e, k.tup _ _ h, k.out _ _ m hl, m⟩
  | .par _, _, ⟨p, l, xs, e, h, hl, m, a⟩ => ⟨p, l, xs, e, k.tup _ _ h, k.out _ _ m hl, m, Paired.mapP a fun _ _ ⟨q, t, z, y⟩ => ⟨q, t, z, k.tup _ _ y⟩⟩
  | .alt _, _, ⟨p, l, xs, e, h, hl, m, a⟩ => ⟨p, l, xs, e, k.tup _ _ h, k.out _ _ m hl, m, Paired.mapP a fun _ _ ⟨q, u, c, t, z, y⟩ => ⟨q, u, c, t, z, k.tup _ _ y⟩⟩
theorem Sx.Pv.to {M N : List Addr} {H : Hp} {v : V} (n : ∀ l xs, H l = some (.lst xs) → l ∉ M → l ∉ N) : ∀ {s : Sx} {pl : List V}, s.Pv M H v pl → s.Pv N H v pl
  | .skip, _, h => h
  | .stop, _, h => h
  | .set _ _, _, h => h
  | .give _ _, _, h => h
  | .take _ _, _, h => h
  | .ife _ _ _, _, h => h
  | .rep _ _ _, _, h => h
  | .seq _, _, ⟨p, l, e, h, hl, m⟩ => ⟨p, l, e, h, hl, n _ _ hl m⟩
  | .par _, _, ⟨p, l, xs, e, h, hl, m, a⟩ => ⟨p, l, xs, e, h, hl, n _ _ hl m, a⟩
  | .alt _, _, ⟨p, l, xs, e, h, hl, m, a⟩ => ⟨p, l, xs, e, h, hl, n _ _ hl m, a⟩
theorem Ps.pv {M : List Addr} {H : Hp} : ∀ {ps : Ps} {xs : List V}, ps.In M H xs → ∃ pl, Paired (RowP H) xs pl ∧ SxL M H pl ps.list
  | .nil, _, h => by cases h; exact ⟨[], .nil, .nil⟩
  | .cons t s r, _, ⟨q, x, ys, e, h, a, b⟩ => by
    obtain ⟨pl, g1, g2⟩ := Ps.pv b
    subst e
    exact ⟨x :: pl, .cons ⟨q, t, rfl, h⟩ g1, .cons a g2⟩
theorem As.pv {M : List Addr} {H : Hp} : ∀ {ps : As} {xs : List V}, ps.In M H xs → ∃ pl, Paired (RowA H) xs pl ∧ SxL M H pl ps.list
  | .nil, _, h => by cases h; exact ⟨[], .nil, .nil⟩
  | .cons _ c _ s r, _, ⟨q, u, x, y, ys, e, h, g, t, a, b⟩ => by
    obtain ⟨pl, g1, g2⟩ := As.pv b
    subst e
    exact ⟨y :: pl, .cons ⟨q, u, c, x, rfl, h⟩ g1, .cons a g2⟩
theorem Sx.In.pv {M : List Addr} {H : Hp} : ∀ {s : Sx} {v : V}, s.In M H v → ∃ pl, s.Pv M H v pl ∧ SxL M H pl s.parts
  | .skip, _, _ => ⟨[], rfl, .nil⟩
  | .stop, _, _ => ⟨[], rfl, .nil⟩
  | .set _ _, _, _ => ⟨[], rfl, .nil⟩
  | .give _ _, _, _ => ⟨[], rfl, .nil⟩
  | .take _ _, _, _ => ⟨[], rfl, .nil⟩
  | .ife _ _ _, _, ⟨p, x, y, z, e, h, _, a, b⟩ => ⟨[y, z], ⟨p, x, y, z, e, h, rfl⟩, .cons a (.cons b .nil)⟩
  | .rep _ _ _, _, ⟨p, x, y, e, h, _, a⟩ => ⟨[y], ⟨p, x, y, e, h, rfl⟩, .cons a .nil⟩
  | .seq _, _, ⟨p, l, xs, e, h, hl, m, a⟩ => ⟨xs, ⟨p, l, e, h, hl, m⟩, Ss.in_list a⟩
  | .par _, _, ⟨p, l, xs, e, h, hl, m, a⟩ => by
    obtain ⟨pl, g1, g2⟩ := Ps.pv a
    exact ⟨pl, ⟨p, l, xs, e, h, hl, m, g1⟩, g2⟩
  | .alt _, _, ⟨p, l, xs, e, h, hl, m, a⟩ => by
    obtain ⟨pl, g1, g2⟩ := As.pv a
    exact ⟨pl, ⟨p, l, xs, e, h, hl, m, g1⟩, g2⟩
theorem paired_at {α β : Type} {F : α → β → Prop} : ∀ {xs : List α} {ys : List β} {i : Nat} {x : α}, Paired F xs ys → xs[i]? = some x → ∃ y, ys[i]? = some y ∧ F x y
  | _, _, _, _, .nil, h => by simp at h
  | _, _, 0, _, .cons a t, h => by
    simp at h
    subst h
    exact ⟨_, rfl, a⟩
  | _, _, i + 1, _, .cons a t, h => by
    obtain ⟨y, h1, h2⟩ := paired_at (i := i) t (by simpa using h)
    exact ⟨y, by simpa using h1, h2⟩
/-- the list of the parts, the objects themselves -/
def sp_partsV : Sp := fun vs H Q _ => ∃ (M : List Addr) (s : Sx) (v : V) (pl : List V), vs = [v] ∧ s.In M H v ∧ s.Pv M H v pl ∧ pl.length ≤ 50000 ∧ ∀ (l : Addr) (H' : Hp), H' l = some (.lst pl) → Ex H H' → (H l = none ∨ l ∉ M) → Q (.ref l) H'
theorem ok_parts_ofV (T : Glo K w mg) (D : Dn K mg "parts_of" s_parts_of p_parts_of) : Cal P w K mg base "parts_of" 1 p_parts_of sp_partsV := by
  refine D.ok sc_parts_of (fun vs H Q E h => ?_) (fun f cdv A outer s H vs Q E hr h => ?_)
  · obtain ⟨_, _, _, _, rfl, _⟩ := h
    rfl
  obtain ⟨M, s0, v, pl, rfl, hs, hv, hz, q⟩ := h
  refine ⟨_, (pss_cons (ps_set (i := 1) sc_parts_of.nd rfl (by first | exact Or.inl rfl | exact Or.inr rfl) (pe_ix ix_seq (pv 0) pe_int (fun _ _ => rfl))) (pss_cons (ps_if (pt_cmpR (op_eqA (hu64 hr)) (pv 1) pe_str (nomark _)) (pss_one (ps_ret (pe_callTy call_listA rfl T.n_list (by decide +kernel) (pa_cons (pe_ix ix_seq (pv 0) pe_int (fun _ _ => rfl)) pa_nil)))) pss_nil) (pss_cons (ps_if (pt_cmpR (op_eqA (hu64 hr)) (pv 1) pe_str (nomark _)) (pss_one (ps_ret (pe_lc (own := [("row", 2)]) (tt := tYes) rfl sc_parts_of.nd (pi_list (pe_ix ix_seq (pv 0) pe_int (fun _ _ => rfl))) (blkOk_by (N := ["s", "kind", "row"]) (sc := defScope s_parts_of) (by decide +kernel)) (fun _ _ _ _ _ => (pg_name (i := 2) sc_parts_of.nd rfl (by first | exact Or.inl rfl | exact Or.inr rfl))) (fun _ _ _ _ _ => pts_nil) (fun _ _ _ _ _ => (pe_ix (ix_seqK (K := K) rfl) (pv 2) pe_int (fun _ _ => rfl)))))) pss_nil) (pss_cons (ps_if (pt_cmpR (op_eqA (hu64 hr)) (pv 1) pe_str (nomark _)) (pss_one (ps_ret (pe_lc (own := [("row", 2)]) (tt := tYes) rfl sc_parts_of.nd (pi_list (pe_ix ix_seq (pv 0) pe_int (fun _ _ => rfl))) (blkOk_by (N := ["s", "kind", "row"]) (sc := defScope s_parts_of) (by decide +kernel)) (fun _ _ _ _ _ => (pg_name (i := 2) sc_parts_of.nd rfl (by first | exact Or.inl rfl | exact Or.inr rfl))) (fun _ _ _ _ _ => pts_nil) (fun _ _ _ _ _ => (pe_ix (ix_seqK (K := K) rfl) (pv 2) pe_int (fun _ _ => rfl)))))) pss_nil) (pss_cons (ps_if (pt_cmpR (op_eqA (hu64 hr)) (pv 1) pe_str (nomark _)) (pss_one (ps_ret (pe_lst (pa_cons (pe_ix ix_seq (pv 0) pe_int (fun _ _ => rfl)) (pa_cons (pe_ix ix_seq (pv 0) pe_int (fun _ _ => rfl)) pa_nil))))) pss_nil) (pss_cons (ps_if (pt_cmpR (op_eqA (hu64 hr)) (pv 1) pe_str (nomark _)) (pss_one (ps_ret (pe_lst (pa_cons (pe_ix ix_seq (pv 0) pe_int (fun _ _ => rfl)) pa_nil)))) pss_nil) (pss_one (ps_ret (pe_lst pa_nil))))))))), ?_⟩
  try dsimp only [cxOf, Cx.nox]
  cases s0 with
  | skip =>
    obtain ⟨p, rfl, hp⟩ := hs
    cases hv
    repeat' (first | specialize "st" | fail)
    exact q _ _ hn ke (.inl hp)
  | stop =>
    obtain ⟨p, rfl, hp⟩ := hs
    cases hv
    repeat' (first | specialize "st" | fail)
    exact q _ _ hn ke (.inl hp)
  | set t e =>
    obtain ⟨p, x, y, rfl, hp, _⟩ := hs
    cases hv
    repeat' (first | specialize "st" | fail)
    exact q _ _ hn ke (.inl hp)
  | give k e =>
    obtain ⟨p, x, rfl, hp, _⟩ := hs
    cases hv
    repeat' (first | specialize "st" | fail)
    exact q _ _ hn ke (.inl hp)
  | take k t =>
    obtain ⟨p, x, rfl, hp, _⟩ := hs
    cases hv
    repeat' (first | specialize "st" | fail)
    exact q _ _ hn ke (.inl hp)
  | ife e a b =>
    obtain ⟨p, x, y, z, rfl, hp, rfl⟩ := hv
    repeat' (first | specialize "st" | fail)
    exact q _ _ hn ke (.inl hp)
  | rep e k a =>
    obtain ⟨p, x, y, rfl, hp, rfl⟩ := hv
    repeat' (first | specialize "st" | fail)
    exact q _ _ hn ke (.inl hp)
  | seq ss =>
    obtain ⟨p, l, rfl, hp, hl, nl⟩ := hv
    repeat' (first | specialize "st" | fail)
    exact q _ _ hn ke (.inl hp)
  | par ps =>
    obtain ⟨p, l, xs, rfl, hp, hl, nl, hpr⟩ := hv
    have hxl := Paired.length hpr
    repeat' (first | specialize "st" | fail)
    intro D hD
    refine lc_list (xs := xs) (fun i H' => Ex H H' ∧ H' D = some (.lst (pl.take i))) ?_ ?_ ?_ ?_
    · exact ⟨Ex.mk hD rfl, upd_same⟩
    · rintro i H' _ ⟨e, _⟩
      exact sql (e _ _ hl)
    · rintro i x H' hx ⟨e, h1⟩
      obtain ⟨y0, e3, ⟨q0, t, rfl, hq⟩⟩ := paired_at hpr hx
      have hq := e _ _ hq
      have hi : i < pl.length := (List.getElem?_eq_some_iff.mp e3).1
      refine ⟨rfl, ?_⟩
      repeat' (first | specialize "st" | fail)
      refine ⟨_, h1, sl1000' (by rw [List.length_take]; omega), fun b u hb => ?_, ?_⟩
      · rw [upd_ne (ne_of_none hb hD)]
        exact e _ _ hb
      · rw [List.take_add_one, e3]
        exact upd_same
    · rintro H' ⟨e, h1⟩
      rw [hxl, List.take_length] at h1
      exact q _ _ h1 e (.inl hD)
  | alt rs =>
    obtain ⟨p, l, xs, rfl, hp, hl, nl, hpr⟩ := hv
    have hxl := Paired.length hpr
    repeat' (first | specialize "st" | fail)
    intro D hD
    refine lc_list (xs := xs) (fun i H' => Ex H H' ∧ H' D = some (.lst (pl.take i))) ?_ ?_ ?_ ?_
    · exact ⟨Ex.mk hD rfl, upd_same⟩
    · rintro i H' _ ⟨e, _⟩
      exact sql (e _ _ hl)
    · rintro i x H' hx ⟨e, h1⟩
      obtain ⟨y0, e3, ⟨q0, u, c1, y, rfl, hq⟩⟩ := paired_at hpr hx
      have hq := e _ _ hq
      have hi : i < pl.length := (List.getElem?_eq_some_iff.mp e3).1
      refine ⟨rfl, ?_⟩
      repeat' (first | specialize "st" | fail)
      refine ⟨_, h1, sl1000' (by rw [List.length_take]; omega), fun b u hb => ?_, ?_⟩
      · rw [upd_ne (ne_of_none hb hD)]
        exact e _ _ hb
      · rw [List.take_add_one, e3]
        exact upd_same
    · rintro H' ⟨e, h1⟩
      rw [hxl, List.take_length] at h1
      exact q _ _ h1 e (.inl hD)
/-! ### the branches of a statement in the order of the text: (parent, statement), the objects themselves -/
def BrsL (R : Sx → V → V → List (V × V) → Prop) : List Sx → List V → V → List (V × V) → Prop
  | [], vs, _, l => vs = [] ∧ l = []
  | s :: ss, vs, p, l => ∃ v ws l1 l2, vs = v :: ws ∧ l = l1 ++ l2 ∧ R s v p l1 ∧ BrsL R ss ws p l2
def BrsP (H : Hp) (R : Sx → V → V → List (V × V) → Prop) : Ps → List V → V → List (V × V) → Prop
  | .nil, xs, _, l => xs = [] ∧ l = []
  | .cons t s r, xs, p, l => ∃ q x ys l1 l2, xs = .ref q :: ys ∧ H q = some (.tup [.int t, x]) ∧ l = (p, x) :: (l1 ++ l2) ∧ R s x (.int t) l1 ∧ BrsP H R r ys p l2
def Sx.isPar : Sx → Option Ps
  | .par ps => some ps
  | _ => none
def Brs (M : List Addr) (H : Hp) : Nat → Sx → V → V → List (V × V) → Prop
  | 0, _, _, _, _ => False
  | n + 1, s, v, p, l => s.In M H v ∧ ((∃ ps q l0 xs, s = .par ps ∧ v = .ref q ∧ H q = some (.tup [.str "par", .ref l0]) ∧ H l0 = some (.lst xs) ∧ l0 ∉ M ∧ BrsP H (Brs M H n) ps xs p l) ∨ (s.isPar = none ∧ ∃ pl, s.Pv M H v pl ∧ BrsL (Brs M H n) s.parts pl p l))
theorem BrsL.imp {R R' : Sx → V → V → List (V × V) → Prop} (h : ∀ s v p l, R s v p l → R' s v p l) : ∀ {ss : List Sx} {vs : List V} {p : V} {l : List (V × V)}, BrsL R ss vs p l → BrsL R' ss vs p l
  | [], _, _, _, g => g
  | _ :: _, _, _, _, ⟨v, ws, l1, l2, a, b, c, d⟩ => ⟨v, ws, l1, l2, a, b, h _ _ _ _ c, BrsL.imp h d⟩
theorem BrsP.imp {H H' : Hp} {R R' : Sx → V → V → List (V × V) → Prop} (k : ∀ q xs, H q = some (.tup xs) → H' q = some (.tup xs)) (h : ∀ s v p l, R s v p l → R' s v p l) : ∀ {ss : Ps} {vs : List V} {p : V} {l : List (V × V)}, BrsP H R ss vs p l → BrsP H' R' ss vs p l
  | .nil, _, _, _, g => g
  | .cons _ _ _, _, _, _, ⟨q, x, ys, l1, l2, a, b, c, d, e⟩ => ⟨q, x, ys, l1, l2, a, k _ _ b, c, h _ _ _ _ d, BrsP.imp k h e⟩
theorem Brs.kp {M : List Addr} {H H' : Hp} (k : Kp M H H') : ∀ {n : Nat} {s : Sx} {v p : V} {l : List (V × V)}, Brs M H n s v p l → Brs M H' n s v p l
  | 0, _, _, _, _, h => h
  | n + 1, s, v, p, l, ⟨i, h⟩ => ⟨i.kp k, h.imp (fun ⟨ps, q, l0, xs, a, b, c, d, e, f⟩ => ⟨ps, q, l0, xs, a, b, k.tup _ _ c, k.out _ _ e d, e, BrsP.imp k.tup (fun _ _ _ _ z => Brs.kp (n := n) k z) f⟩)
      (fun ⟨a, pl, b, c⟩ => ⟨a, pl, b.kp k, BrsL.imp (fun _ _ _ _ z => Brs.kp (n := n) k z) c⟩)⟩
theorem Brs.to {M N : List Addr} {H : Hp} (k : ∀ l xs, H l = some (.lst xs) → l ∉ M → l ∉ N) : ∀ {n : Nat} {s : Sx} {v p : V} {l : List (V × V)}, Brs M H n s v p l → Brs N H n s v p l
  | 0, _, _, _, _, h => h
  | n + 1, s, v, p, l, ⟨i, h⟩ => ⟨i.to k, h.imp (fun ⟨ps, q, l0, xs, a, b, c, d, e, f⟩ => ⟨ps, q, l0, xs, a, b, c, d, k _ _ d e, BrsP.imp (fun _ _ z => z) (fun _ _ _ _ z => Brs.to (n := n) k z) f⟩)
      (fun ⟨a, pl, b, c⟩ => ⟨a, pl, b.to k, BrsL.imp (fun _ _ _ _ z => Brs.to (n := n) k z) c⟩)⟩
theorem Ss.dep_in : ∀ {ss : Ss} {x : Sx}, x ∈ ss.list → x.dep ≤ ss.dep
  | .cons s r, x, h => by
    simp only [Ss.dep]
    rcases List.mem_cons.mp h with rfl | h
    · exact Nat.le_max_left ..
    · exact Nat.le_trans (Ss.dep_in h) (Nat.le_max_right ..)
theorem Ps.dep_in : ∀ {ss : Ps} {x : Sx}, x ∈ ss.list → x.dep ≤ ss.dep
  | .cons _ s r, x, h => by
    simp only [Ps.dep]
    rcases List.mem_cons.mp h with rfl | h
    · exact Nat.le_max_left ..
    · exact Nat.le_trans (Ps.dep_in h) (Nat.le_max_right ..)
theorem As.dep_in : ∀ {ss : As} {x : Sx}, x ∈ ss.list → x.dep ≤ ss.dep
  | .cons _ _ _ s r, x, h => by
    simp only [As.dep]
    rcases List.mem_cons.mp h with rfl | h
    · exact Nat.le_max_left ..
    · exact Nat.le_trans (As.dep_in h) (Nat.le_max_right ..)
theorem Sx.dep_in {s x : Sx} (h : x ∈ s.parts) : x.dep < s.dep := by
  cases s with
  | skip => cases h
  | stop => cases h
  | set _ _ => cases h
  | give _ _ => cases h
  | take _ _ => cases h
  | ife e a b =>
    simp only [Sx.parts, List.mem_cons, List.not_mem_nil, or_false] at h
    simp only [Sx.dep]
    rcases h with rfl | rfl <;> omega
  | rep e n a =>
    simp only [Sx.parts, List.mem_cons, List.not_mem_nil, or_false] at h
    simp only [Sx.dep]
    subst h
    omega
  | seq ss =>
    have := Ss.dep_in h
    simp only [Sx.dep]
    omega
  | par ss =>
    have := Ps.dep_in h
    simp only [Sx.dep]
    omega
  | alt ss =>
    have := As.dep_in h
    simp only [Sx.dep]
    omega
theorem brsL_ex {M : List Addr} {H : Hp} {R : Sx → V → V → List (V × V) → Prop} : ∀ {ss : List Sx} {vs : List V} (p : V), SxL M H vs ss → (∀ s v, s ∈ ss → s.In M H v → ∃ l, R s v p l) → ∃ l, BrsL R ss vs p l
  | _, _, _, .nil, _ => ⟨[], rfl, rfl⟩
  | _, _, p, .cons a t, h => by
    obtain ⟨l1, h1⟩ := h _ _ (List.mem_cons_self ..) a
    obtain ⟨l2, h2⟩ := brsL_ex p t fun s v m => h s v (List.mem_cons_of_mem _ m)
    exact ⟨l1 ++ l2, _, _, l1, l2, rfl, rfl, h1, h2⟩
theorem brsP_ex {M : List Addr} {H : Hp} {R : Sx → V → V → List (V × V) → Prop} : ∀ {ss : Ps} {xs : List V} (p : V), ss.In M H xs → (∀ s v t, s ∈ ss.list → s.In M H v → ∃ l, R s v t l) → ∃ l, BrsP H R ss xs p l
  | .nil, _, _, h, _ => by cases h; exact ⟨[], rfl, rfl⟩
  | .cons t s r, _, p, ⟨q, x, ys, e, g, a, b⟩, h => by
    obtain ⟨l1, h1⟩ := h _ x (.int t) (List.mem_cons_self ..) a
    obtain ⟨l2, h2⟩ := brsP_ex p b fun s v t m => h s v t (List.mem_cons_of_mem _ m)
    exact ⟨_, q, x, ys, l1, l2, e, g, rfl, h1, h2⟩
theorem brs_ex {M : List Addr} {H : Hp} : ∀ {n : Nat} {s : Sx} {v : V} (p : V), s.In M H v → s.dep ≤ n → ∃ l, Brs M H n s v p l
  | 0, s, _, _, _, hd => by cases s <;> simp only [Sx.dep] at hd <;> omega
  | n + 1, s, v, p, h, hd => by
    by_cases hp : s.isPar = none
    · obtain ⟨pl, h1, h2⟩ := h.pv
      obtain ⟨l, hl⟩ := brsL_ex (R := Brs M H n) p h2 fun s' v' m i => brs_ex p i (by have := Sx.dep_in m; omega)
      exact ⟨l, h, .inr ⟨hp, pl, h1, hl⟩⟩
    · cases s with
      | par ps =>
        obtain ⟨q, l0, xs, e, g, gl, gm, a⟩ := id h
        obtain ⟨l, hl⟩ := brsP_ex (R := Brs M H n) p a fun s' v' t m i => brs_ex t i (by have := Ps.dep_in m; simp only [Sx.dep] at hd; omega)
        exact ⟨l, h, .inl ⟨ps, q, l0, xs, rfl, e, g, gl, gm, hl⟩⟩
      | _ => exact absurd rfl hp
/-! numbers, counts and sizes over the parts -/
def numL : List Sx → Int → Prop
  | [], _ => True
  | s :: r, t => s.num t ∧ numL r (t + s.cnt)
def cntL : List Sx → Nat
  | [] => 0
  | s :: r => s.cnt + cntL r
def szL : List Sx → Nat
  | [] => 0
  | s :: r => s.sz + szL r
theorem Ss.cntL : ∀ {ss : Ss}, ss.cnt = Y.cntL ss.list
  | .nil => rfl
  | .cons s r => by simp only [Ss.cnt, Ss.list, Y.cntL, Ss.cntL (ss := r)]
theorem As.cntL : ∀ {ss : As}, ss.cnt = Y.cntL ss.list
  | .nil => rfl
  | .cons _ _ _ s r => by simp only [As.cnt, As.list, Y.cntL, As.cntL (ss := r)]
theorem Ss.szL : ∀ {ss : Ss}, ss.sz = Y.szL ss.list
  | .nil => rfl
  | .cons s r => by simp only [Ss.sz, Ss.list, Y.szL, Ss.szL (ss := r)]
theorem As.szL : ∀ {ss : As}, ss.sz = Y.szL ss.list
  | .nil => rfl
  | .cons _ _ _ s r => by simp only [As.sz, As.list, Y.szL, As.szL (ss := r)]
theorem Ps.szL : ∀ {ss : Ps}, ss.sz = Y.szL ss.list
  | .nil => rfl
  | .cons _ s r => by simp only [Ps.sz, Ps.list, Y.szL, Ps.szL (ss := r)]
theorem Ss.numL : ∀ {ss : Ss} {t : Int}, ss.num t → Y.numL ss.list t
  | .nil, _, _ => trivial
  | .cons _ _, _, h => ⟨h.1, Ss.numL h.2⟩
theorem As.numL : ∀ {ss : As} {t : Int}, ss.num t → Y.numL ss.list t
  | .nil, _, _ => trivial
  | .cons _ _ _ _ _, _, h => ⟨h.1, As.numL h.2⟩
theorem Sx.cntL {s : Sx} (h : s.isPar = none) : s.cnt = Y.cntL s.parts := by
  cases s with
  | ife e a b => simp [Sx.cnt, Sx.parts, Y.cntL]
  | rep e n a => simp [Sx.cnt, Sx.parts, Y.cntL]
  | seq ss => exact Ss.cntL
  | alt ss => exact As.cntL
  | par ss => cases h
  | _ => rfl
theorem Sx.numL {s : Sx} {t : Int} (h : s.isPar = none) (n : s.num t) : Y.numL s.parts t := by
  cases s with
  | ife e a b => exact ⟨n.1, n.2, trivial⟩
  | rep e k a => exact ⟨n, trivial⟩
  | seq ss => exact Ss.numL n
  | alt ss => exact As.numL n
  | par ss => cases h
  | _ => trivial
theorem Sx.szL {s : Sx} : Y.szL s.parts < s.sz := by
  cases s with
  | ife e a b => simp only [Sx.sz, Sx.parts, Y.szL]; omega
  | rep e n a => simp only [Sx.sz, Sx.parts, Y.szL]; omega
  | seq ss => have := Ss.szL (ss := ss); simp only [Sx.sz, Sx.parts]; omega
  | alt ss => have := As.szL (ss := ss); simp only [Sx.sz, Sx.parts]; omega
  | par ss => have := Ps.szL (ss := ss); simp only [Sx.sz, Sx.parts]; omega
  | _ => simp only [Sx.sz, Sx.parts, Y.szL]; omega
theorem Sx.sz0 {s : Sx} : 0 < s.sz := by cases s <;> simp only [Sx.sz] <;> omega
theorem szL_len : ∀ {l : List Sx}, l.length ≤ szL l
  | [] => Nat.le_refl 0
  | s :: r => by
    have := s.sz0
    have := szL_len (l := r)
    simp only [List.length_cons, szL]
    omega
theorem szL_mem : ∀ {l : List Sx} {x : Sx}, x ∈ l → x.sz ≤ szL l
  | s :: r, x, h => by
    simp only [szL]
    rcases List.mem_cons.mp h with rfl | h
    · omega
    · have := szL_mem h
      omega
theorem Sx.In.notPar {M : List Addr} {H : Hp} {s0 : Sx} {v : V} (hs : s0.In M H v) (hp : s0.isPar = none) : ∃ (p0 : Addr) (k0 : Str) (r0 : List V), v = .ref p0 ∧ H p0 = some (.tup (.str k0 :: r0)) ∧ ¬ V.str k0 = V.str "par" := by
  cases s0 with
  | par ps => cases hp
  | skip => obtain ⟨p0, e, h⟩ := hs; exact ⟨p0, _, _, e, h, by decide +kernel⟩
  | stop => obtain ⟨p0, e, h⟩ := hs; exact ⟨p0, _, _, e, h, by decide +kernel⟩
  | set _ _ => obtain ⟨p0, _, _, e, h, _⟩ := hs; exact ⟨p0, _, _, e, h, by decide +kernel⟩
  | give _ _ => obtain ⟨p0, _, e, h, _⟩ := hs; exact ⟨p0, _, _, e, h, by decide +kernel⟩
  | take _ _ => obtain ⟨p0, _, e, h, _⟩ := hs; exact ⟨p0, _, _, e, h, by decide +kernel⟩
  | ife _ _ _ => obtain ⟨p0, _, _, _, e, h, _⟩ := hs; exact ⟨p0, _, _, e, h, by decide +kernel⟩
  | rep _ _ _ => obtain ⟨p0, _, _, e, h, _⟩ := hs; exact ⟨p0, _, _, e, h, by decide +kernel⟩
  | seq _ => obtain ⟨p0, _, _, e, h, _⟩ := hs; exact ⟨p0, _, _, e, h, by decide +kernel⟩
  | alt _ => obtain ⟨p0, _, _, e, h, _⟩ := hs; exact ⟨p0, _, _, e, h, by decide +kernel⟩
theorem brsL_len {R : Sx → V → V → List (V × V) → Prop} : ∀ {ss : List Sx} {vs : List V} {p : V} {l : List (V × V)}, BrsL R ss vs p l → vs.length = ss.length
  | [], _, _, _, ⟨a, _⟩ => by rw [a]; rfl
  | _ :: ss, _, _, _, ⟨v, ws, l1, l2, a, b, c, d⟩ => by rw [a, List.length_cons, List.length_cons, brsL_len d]
theorem brsP_len {H : Hp} {R : Sx → V → V → List (V × V) → Prop} : ∀ {ss : Ps} {vs : List V} {p : V} {l : List (V × V)}, BrsP H R ss vs p l → vs.length = ss.list.length
  | .nil, _, _, _, ⟨a, _⟩ => by rw [a]; rfl
  | .cons _ _ r, _, _, _, ⟨q, x, ys, l1, l2, a, b, c, d, e⟩ => by rw [a, Ps.list, List.length_cons, List.length_cons, brsP_len e]
/-- the pairs stand as tuples -/
abbrev Prs (H : Hp) (us : List V) (l : List (V × V)) : Prop := Paired (fun u (x : V × V) => ∃ q, u = .ref q ∧ H q = some (.tup [x.1, x.2])) us l
theorem prs_kp {M : List Addr} {H H' : Hp} {us : List V} {l : List (V × V)} (k : Kp M H H') (h : Prs H us l) : Prs H' us l := Paired.mapP h fun _ _ ⟨q, e, z⟩ => ⟨q, e, k.tup _ _ z⟩
theorem cal_imp {x : Str} {k : Nat} {ps : List Str} {sp sp' : Sp} (G : Cal P w K mg base x k ps sp) (h : ∀ vs H Q E, sp' vs H Q E → sp vs H Q E) : Cal P w K mg base x k ps sp' := by
  obtain ⟨f, fd, F, m, kp, b⟩ := G
  exact ⟨f, fd, F.imp h, m, kp, b⟩
/-! ### sorted(d) of a dict whose keys are ints, any number of them -/
def rSortedDN : List V → Hp → VK → Prop := fun xs H Q => ∃ (a : Addr) (kvs : List (Key × V)) (ks : List Int), xs = [.ref a] ∧ Rd H a (.dK kvs) ∧ kvs.map (·.1) = ks.map Sum.inl ∧ ks.length ≤ 1000 ∧
  ∀ (ys : List Int) (p : Addr), ys.Perm ks → ys.Pairwise (· ≤ ·) → H p = none → Q (.ref p) (upd H p (.lst (ys.map V.int)))
section
open PySem.Spec PyProof.Rows
theorem ints_by : ∀ {vs : List Value} {ks : List Int}, vs.length = ks.length → (∀ (j : Nat) (v : Value) (k : Int), vs[j]? = some v → ks[j]? = some k → ∃ t, v = Value.int k t) → IntsAre vs ks
  | [], [], _, _ => .nil
  | [], _ :: _, h, _ => by cases h
  | _ :: _, [], h, _ => by cases h
  | v :: vs, k :: ks, h, g => by
    obtain ⟨t, e⟩ := g 0 v k rfl rfl
    subst e
    exact .cons _ _ (ints_by (Nat.succ.inj h) fun j v k a b => g (j + 1) v k (by simpa using a) (by simpa using b))
theorem call_sortedDN {X : Cx} (hc : X.calm = true) : CallR X (.builtin "sorted") rSortedDN := by
  rintro pins s σ H xs us Q I r ⟨d, kvs, ks, rfl, hd, hk, hl, q⟩
  obtain ⟨u, rfl, rx⟩ := r.one
  cases rx
  obtain ⟨_, lo, vs, rel, dd⟩ := dk_rd I.hok hd
  obtain ⟨ep, hat⟩ := dd.dictAt
  have hks : vs.map (·.1) = ks.map Sum.inl := rel.keys.symm.trans hk
  have lv : vs.length = ks.length := by simpa using congrArg List.length hks
  refine Calls.call_function_entry PyProof.Rows.kind_sorted PyProof.Rows.plain_sorted PyProof.Rows.entry_sorted (PyProof.Rows.args_sorted1 _) ?_
  unfold Builtin.«sorted»
  refine wpAny_bind (m := checkCount "sorted" 1 1 _) (wpAny_pure ?_)
  refine wpAny_bind (PySem.W.kdu_collect (A := X.A.in1) (PySem.W.kdl_dict (kvs := vs) (ep := ep) (knd := mixKind X.prog X.w) lo) (I.ok.hd hc) hat (by rw [lv, sizeLine_eq]; omega) fun h' tk acc hk it => ?_)
  obtain ⟨ws, ews⟩ : ∃ ws, ws = acc.toList := ⟨_, rfl⟩
  have lw : ws.length = ks.length := by rw [ews, Array.length_toList, it.1, lv]
  have hI : IntsAre ws ks := ints_by lw fun j v k hv hk' => by
    rw [ews, Array.getElem?_toList] at hv
    obtain ⟨key, x, a1, a2⟩ := it.2 j v hv
    have a3 := congrArg (fun l => l[j]?) hks
    simp only [List.getElem?_map, a1, hk', Option.map_some] at a3
    obtain rfl : key = Sum.inl k := Option.some.inj a3
    obtain ⟨i, t, b1, b2⟩ | ⟨z, t, b1, b2⟩ := keyIs_shape (show keyIs (Sum.inl k) v = true from a2)
    · cases b1
      exact ⟨t, b2⟩
    · cases b1
  rw [← ews]
  have I1 : Inv X pins σ H { s with heap := h', toks := tk } := I.kept hk
  have hz : ws.length ≤ sizeLine := by rw [lw, sizeLine_eq]; omega
  refine wpAny_bind (wpAny_newList ?_ hz)
  have hoL : (h'.push (PyProof.Rows.seqObj "list" ws.toArray 0)).get? h'.objs.size = some (PyProof.Rows.seqObj "list" ws.toArray 0) := Heap.get?_push_size _ rfl
  show wpAny _ _ _ _ _ { s with heap := h'.push (PyProof.Rows.seqObj "list" ws.toArray 0), toks := tk }
  refine wpAny_bind (wpAny_holding (wpAny_call_entry PyProof.Rows.slot_list_sort ⟨_, hoL, rfl⟩ PyProof.Rows.entry_list_sort
    (SrtO.list_sort_ord SrtO.swo_int hoL hz (fun h2 => SrtO.ints_sortable hI h2) fun out hs hb => ⟨_, rfl, ?_⟩) (PyProof.Rows.args_list_sort _)))
  obtain ⟨k1, k2, k3⟩ := SrtO.ints_out hI hs hb
  obtain ⟨n, hn⟩ := PyProof.Rows.sortedHeap_at (vs := ws) (out := out.toArray) hoL
  refine wpAny_pure ⟨_, rfl, .ref h'.objs.size, upd H h'.objs.size (.lst ((out.map SrtO.iv).map V.int)), I1.laid (t' := tk) (fun b u e => ?_) (Nat.le_refl _)
    (show ObjOk X.prog X.w _ _ _ (.lst ((out.map SrtO.iv).map V.int)) from ⟨by rw [List.length_map, k2.length_eq, sizeLine_eq]; omega, out, n, vals_of_ints k1, hn⟩), rfl, q _ _ k2 k3 (I1.hok.fresh (Nat.le_refl _))⟩
  have hb2 : b < h'.objs.size := Heap.lt_size e
  rw [PyProof.Rows.sortedHeap_old (Nat.ne_of_lt hb2) (by rw [PyProof.Rows.size_push']; exact Nat.lt_succ_of_lt hb2)]
  exact Heap.get?_push_of_some _ e
end
abbrev s_note_branches : Stmt := topS 11
theorem sc_note_branches : FnScope ["found", "parent", "s", "part", "thread"] ["found", "parent", "s"] (defScope s_note_branches) := ⟨rfl, rfl, rfl, by decide +kernel, rfl, by decide +kernel, by decide +kernel⟩
abbrev p_note_branches : List Str := ["found", "parent", "s"]
abbrev s_threads_of : Stmt := topS 10
theorem sc_threads_of : FnScope ["core", "found", "thread"] ["core"] (defScope s_threads_of) := ⟨rfl, rfl, rfl, by decide +kernel, rfl, by decide +kernel, by decide +kernel⟩
abbrev p_threads_of : List Str := ["core"]
def rowsK : Nat → List V → List (Key × V)
  | _, [] => []
  | i, v :: r => (Sum.inl (i : Int), v) :: rowsK (i + 1) r
theorem rowsK_len : ∀ {i : Nat} {ws : List V}, (rowsK i ws).length = ws.length
  | _, [] => rfl
  | i, _ :: r => by simp only [rowsK, List.length_cons, rowsK_len (ws := r)]
theorem rowsK_not : ∀ {i : Nat} {ws : List V} {k : Int}, k < i ∨ (i + ws.length : Nat) ≤ k → valV (rowsK i ws) (Sum.inl k) = none
  | _, [], _, _ => rfl
  | i, w :: r, k, h => by
    have e : (w :: r).length = r.length + 1 := rfl
    rw [e] at h
    have ih := rowsK_not (i := i + 1) (ws := r) (k := k) (by omega)
    simp only [rowsK]
    rw [valV_neg (fun z => by have := Sum.inl.inj z; omega)]
    exact ih
theorem rowsK_app : ∀ {i : Nat} {ws us : List V}, rowsK i (ws ++ us) = rowsK i ws ++ rowsK (i + ws.length) us
  | _, [], _ => rfl
  | i, w :: r, us => by
    have e : (w :: r).length = r.length + 1 := rfl
    simp only [rowsK, List.cons_append, rowsK_app (ws := r), e]
    rw [show i + 1 + r.length = i + (r.length + 1) by omega]
theorem rowsK_put {v : V} {ws : List V} : putK (rowsK 0 ws) (Sum.inl ((ws.length : Nat) : Int)) v = rowsK 0 (ws ++ [v]) := by
  have h := rowsK_not (i := 0) (ws := ws) (k := ws.length) (.inr (by omega))
  unfold putK
  rw [valV_any, h, if_neg (by decide), rowsK_app, Nat.zero_add]
  rfl
theorem rowsK_val : ∀ {i : Nat} {ws : List V} {j : Nat} {v : V}, ws[j]? = some v → valV (rowsK i ws) (Sum.inl ((i + j : Nat) : Int)) = some v
  | i, [], _, _, h => by simp at h
  | i, w :: r, 0, v, h => by
    simp at h
    subst h
    exact valV_pos rfl
  | i, w :: r, j + 1, v, h => by
    have ih := rowsK_val (i := i + 1) (j := j) (v := v) (ws := r) (by simpa using h)
    rw [show i + 1 + j = i + (j + 1) by omega] at ih
    simp only [rowsK]
    rw [valV_neg (fun z => by have := Sum.inl.inj z; omega)]
    exact ih
def sp_note (n : Nat) : Sp := fun vs H Q _ => ∃ (M : List Addr) (s : Sx) (v p : V) (r : Addr) (ws : List V) (l : List (V × V)), vs = [.ref r, p, v] ∧ Brs (r :: M) H n s v p l ∧ s.num ws.length ∧ H r = some (.dK (rowsK 0 ws)) ∧ ws.length + s.cnt ≤ 1000 ∧ s.sz ≤ 50000 ∧
  ∀ (us : List V) (H' : Hp), Kp [r] H H' → H' r = some (.dK (rowsK 0 (ws ++ us))) → Prs H' us l → us.length = s.cnt → Q .non H'
theorem ok_note (T : Glo K w mg) (D : Dn K mg "note_branches" s_note_branches p_note_branches) (n : Nat) (G_parts_of : Cal P w K mg base "parts_of" 1 p_parts_of sp_partsV) (G_note_branches : Cal P w K mg base "note_branches" (1 + n) p_note_branches (sp_note n)) :
    Cal P w K mg base "note_branches" (1 + n + 1) p_note_branches (sp_note (n + 1)) := by
  refine D.ok sc_note_branches (fun vs H Q E h => ?_) (fun f cdv A outer s H vs Q E hr h => ?_)
  · obtain ⟨_, _, _, _, _, _, _, rfl, _⟩ := h
    rfl
  obtain ⟨M, s0, v, pt, r, ws, l, rfl, ⟨hs, hb⟩, hnm, hrw, hc, hz, q⟩ := h
  refine ⟨_, (pss_cons (ps_if (pt_cmpR (op_eqA (hu64 hr)) (pe_ix ix_seq (pv 2) pe_int (fun _ _ => rfl)) pe_str (nomark _)) (pss_cons (ps_for PassesOwn.never rfl (pi_list (pe_ix ix_seq (pv 2) pe_int (fun _ _ => rfl))) (pg_tup rfl (pgs_cons (pg_name (i := 4) sc_note_branches.nd rfl (by first | exact Or.inl rfl | exact Or.inr rfl)) (pgs_cons (pg_name (i := 3) sc_note_branches.nd rfl (by first | exact Or.inl rfl | exact Or.inr rfl)) pgs_nil))) (pss_cons (ps_dput (hu_of hr) (pv 0) (pv 4) (pe_tup (pa_cons (pv 1) (pa_cons (pv 3) pa_nil))) rfl) (pss_one (ps_expr (pe_cal G_note_branches (hr.mono (by (first | subst "lev" | fail))) rfl (pa_cons (pv 0) (pa_cons (pv 4) (pa_cons (pv 3) pa_nil)))))))) (pss_one ps_retN)) pss_nil) (pss_one (ps_for PassesOwn.never rfl (pi_list (pe_cal G_parts_of (hr.mono (by (first | subst "lev" | fail))) rfl (pa_cons (pv 2) pa_nil))) (pg_name (i := 3) sc_note_branches.nd rfl (by first | exact Or.inl rfl | exact Or.inr rfl)) (pss_one (ps_expr (pe_cal G_note_branches (hr.mono (by (first | subst "lev" | fail))) rfl (pa_cons (pv 0) (pa_cons (pv 1) (pa_cons (pv 3) pa_nil))))))))), ?_⟩
  try dsimp only [cxOf, Cx.nox]
  rcases hb with ⟨ps, q0, l0, xs, rfl, rfl, hq, hl, hm, hb⟩ | ⟨hp, pl, hpv, hb⟩
  · repeat' (first | specialize "st" | fail)
    have hl0r : l0 ∉ [r] := fun z => hm (by rw [List.mem_singleton.mp z]; exact List.mem_cons_self ..)
    refine w_list (xs := xs) (fun i σ H' => ∃ (us : List V) (l1 l2 : List (V × V)) (psr : Ps) (y3 y4 : Option V), σ = [some (.ref r), some pt, some (.ref q0), y3, y4] ∧ Kp [r] H H' ∧ H' r = some (.dK (rowsK 0 (ws ++ us))) ∧ Prs H' us l1 ∧ l = l1 ++ l2 ∧
      BrsP H' (Brs (r :: M) H' n) psr (xs.drop i) pt l2 ∧ psr.num ((ws.length + us.length : Nat) : Int) ∧ us.length + psr.cnt = ps.cnt ∧ psr.sz ≤ ps.sz) ?_ ?_ ?_ ?_
    · exact ⟨[], [], l, ps, none, none, rfl, Kp.refl _, by rw [List.append_nil]; exact hrw, .nil, rfl, hb, hnm, by simp, Nat.le_refl _⟩
    · rintro i σ H' _ ⟨us, l1, l2, psr, y3, y4, rfl, k, _⟩
      exact sql (k.out _ _ hl0r hl)
    · rintro i x σ H' hx ⟨us, l1, l2, psr, y3, y4, rfl, k, hr', hP, rfl, hB, hN, hC, hS⟩
      obtain ⟨hi, e⟩ := List.getElem?_eq_some_iff.mp hx
      rw [List.drop_eq_getElem_cons hi, e] at hB
      cases psr with
      | nil => cases hB.1
      | cons t s2 rest =>
        obtain ⟨q2, x2, ys, l3, l4, e1, e2, e3, e4, e5⟩ := hB
        cases e1
        subst e3
        obtain ⟨rfl, hN1, hN2⟩ := hN
        have hz2 : (Ps.cons (↑(ws.length + us.length)) s2 rest).sz ≤ ps.sz := hS
        simp only [Ps.cnt, Ps.sz] at hC hS
        simp only [Sx.cnt, Sx.sz] at hc hz
        have hsz := s2.sz0
        clear hb hq hl
        repeat' (first | specialize "st" | fail)
        have hr2 : Hn r = some (.dK (rowsK 0 (ws ++ us))) := ke _ _ hr'
        obtain ⟨Hm, rfl⟩ : ∃ x, x = Hn := ⟨_, rfl⟩
        have kd : Ex H' Hm := ke
        refine q_dputI hr2 (by rw [rowsK_len, List.length_append]; omega) ?_
        intro Hn ku hu
        rw [show ws.length + us.length = (ws ++ us).length by rw [List.length_append], rowsK_put] at hu
        repeat' (first | specialize "st" | fail)
        have kk : Kp [r] H' Hn := kd.kp.trans ku
        have kM : Kp (r :: M) H' Hn := kk.sub sub_hd1
        refine ⟨M, s2, x2, _, r, _, l3, rfl, e4.kp kM, ?_, hu, ?_, by omega, fun us2 H2 k2 h2 P2 n2 => ?_⟩
        · rw [show (((ws ++ us ++ [V.ref p]).length : Nat) : Int) = ((ws.length + us.length : Nat) : Int) + 1 by simp only [List.length_append, List.length_cons, List.length_nil]; omega]
          exact hN1
        · simp only [List.length_append, List.length_cons, List.length_nil]
          omega
        have k2M : Kp (r :: M) Hn H2 := k2.sub sub_hd1
        repeat' (first | specialize "st" | fail)
        refine ⟨us ++ [V.ref p] ++ us2, l1 ++ [(pt, x2)] ++ l3, l4, rest, _, _, rfl, k.trans (kk.trans k2), ?_, ?_, ?_, ?_, ?_, ?_, ?_⟩
        · rw [h2]
          simp only [List.append_assoc]
        · exact pair_app (pair_app (prs_kp (kk.trans k2) hP) (.cons ⟨p, rfl, k2.tup _ _ (ku.tup _ _ hn)⟩ .nil)) P2
        · simp only [List.append_assoc, List.cons_append, List.nil_append]
        · exact BrsP.imp (kM.trans k2M).tup (fun _ _ _ _ z => z.kp (kM.trans k2M)) e5
        · rw [show (((ws.length + (us ++ [V.ref p] ++ us2).length : Nat)) : Int) = ((ws.length + us.length : Nat) : Int) + 1 + (s2.cnt : Int) by simp only [List.length_append, List.length_cons, List.length_nil]; omega]
          exact hN2
        · simp only [List.length_append, List.length_cons, List.length_nil]
          omega
        · omega
    · rintro σ H' ⟨us, l1, l2, psr, y3, y4, rfl, k, hr', hP, rfl, hB, hN, hC, hS⟩
      rw [List.drop_length] at hB
      cases psr with
      | cons t s2 rest =>
        obtain ⟨q2, x2, ys, l3, l4, e1, _⟩ := hB
        cases e1
      | nil =>
        obtain ⟨_, rfl⟩ := hB
        rw [List.append_nil] at q
        iterate 1 ((first | specialize "st" | fail))
        exact q us H' k hr' hP (by simp only [Ps.cnt] at hC; simp only [Sx.cnt]; omega)
  · have hnp : ∃ (p0 : Addr) (k0 : Str) (r0 : List V), v = .ref p0 ∧ H p0 = some (.tup (.str k0 :: r0)) ∧ ¬ V.str k0 = V.str "par" := by
      cases s0 with
      | par ps => cases hp
      | skip => obtain ⟨p0, e, h⟩ := hs; exact ⟨p0, _, _, e, h, by decide +kernel⟩
      | stop => obtain ⟨p0, e, h⟩ := hs; exact ⟨p0, _, _, e, h, by decide +kernel⟩
      | set _ _ => obtain ⟨p0, _, _, e, h, _⟩ := hs; exact ⟨p0, _, _, e, h, by decide +kernel⟩
      | give _ _ => obtain ⟨p0, _, e, h, _⟩ := hs; exact ⟨p0, _, _, e, h, by decide +kernel⟩
      | take _ _ => obtain ⟨p0, _, e, h, _⟩ := hs; exact ⟨p0, _, _, e, h, by decide +kernel⟩
      | ife _ _ _ => obtain ⟨p0, _, _, _, e, h, _⟩ := hs; exact ⟨p0, _, _, e, h, by decide +kernel⟩
      | rep _ _ _ => obtain ⟨p0, _, _, e, h, _⟩ := hs; exact ⟨p0, _, _, e, h, by decide +kernel⟩
      | seq _ => obtain ⟨p0, _, _, e, h, _⟩ := hs; exact ⟨p0, _, _, e, h, by decide +kernel⟩
      | alt _ => obtain ⟨p0, _, _, e, h, _⟩ := hs; exact ⟨p0, _, _, e, h, by decide +kernel⟩
    obtain ⟨p0, k0, r0, rfl, hp0, nk⟩ := hnp
    have hpl : pl.length ≤ 50000 := by
      rw [brsL_len hb]
      have := szL_len (l := s0.parts)
      have := s0.szL
      omega
    iterate 7 ((first | specialize "st" | fail))
    refine q_ixT (xs := .str k0 :: r0) (v := .str k0) (sqt hp0) at0 ?_
    iterate 1 ((first | specialize "st" | fail))
    refine q_eqN rfl nk ?_
    repeat' (first | specialize "st" | fail)
    refine ⟨r :: M, s0, .ref p0, pl, rfl, hs, hpv, hpl, fun l0 H1 hl0 e1 fl => ?_⟩
    refine ⟨l0, rfl, ⟨pl, sql hl0⟩, ?_⟩
    have nl0 : l0 ∉ [r] := fun z => by
      rw [List.mem_singleton.mp z] at fl
      rcases fl with fl | fl
      · rw [hrw] at fl
        cases fl
      · exact fl (List.mem_cons_self ..)
    refine w_list (xs := pl) (fun i σ H2 => ∃ (us : List V) (l1 l2 : List (V × V)) (ssr : List Sx) (y3 y4 : Option V), σ = [some (.ref r), some pt, some (.ref p0), y3, y4] ∧ Kp [r] H H2 ∧ H2 l0 = some (.lst pl) ∧ H2 r = some (.dK (rowsK 0 (ws ++ us))) ∧ Prs H2 us l1 ∧ l = l1 ++ l2 ∧
      BrsL (Brs (r :: M) H2 n) ssr (pl.drop i) pt l2 ∧ numL ssr ((ws.length + us.length : Nat) : Int) ∧ us.length + cntL ssr = s0.cnt ∧ szL ssr ≤ szL s0.parts) ?_ ?_ ?_ ?_
    · refine ⟨[], [], l, s0.parts, none, none, rfl, e1.kp, hl0, ?_, .nil, rfl, BrsL.imp (fun _ _ _ _ z => z.kp e1.kp) hb, Sx.numL hp hnm, ?_, Nat.le_refl _⟩
      · rw [List.append_nil]
        exact e1 _ _ hrw
      · rw [← Sx.cntL hp]
        exact Nat.zero_add _
    · rintro i σ H2 _ ⟨us, l1, l2, ssr, y3, y4, rfl, k, h1, _⟩
      exact sql h1
    · rintro i x σ H2 hx ⟨us, l1, l2, ssr, y3, y4, rfl, k, h1, h3, hP, rfl, hB, hN, hC, hS⟩
      obtain ⟨hi, e⟩ := List.getElem?_eq_some_iff.mp hx
      rw [List.drop_eq_getElem_cons hi, e] at hB
      cases ssr with
      | nil => cases hB.1
      | cons s2 rest =>
        obtain ⟨v2, ys, l3, l4, e3, rfl, e4, e5⟩ := hB
        cases e3
        simp only [cntL, szL] at hC hS
        have hsz := s0.szL
        clear hb
        repeat' (first | specialize "st" | fail)
        refine ⟨M, s2, _, _, r, _, l3, rfl, e4, ?_, h3, ?_, by omega, fun us2 H3 k2 g2 P2 n2 => ?_⟩
        · rw [List.length_append]
          exact hN.1
        · rw [List.length_append]
          omega
        have k2M : Kp (r :: M) H2 H3 := k2.sub sub_hd1
        repeat' (first | specialize "st" | fail)
        refine ⟨us ++ us2, l1 ++ l3, l4, rest, _, _, rfl, k.trans k2, k2.out _ _ nl0 h1, ?_, pair_app (prs_kp k2 hP) P2, ?_, BrsL.imp (fun _ _ _ _ z => z.kp k2M) e5, ?_, ?_, ?_⟩
        · rw [← List.append_assoc]
          exact g2
        · rw [List.append_assoc]
        · rw [List.length_append, n2, show ((ws.length + (us.length + s2.cnt) : Nat) : Int) = ((ws.length + us.length : Nat) : Int) + s2.cnt by omega]
          exact hN.2
        · rw [List.length_append]
          omega
        · omega
    · rintro σ H2 ⟨us, l1, l2, ssr, y3, y4, rfl, k, h1, h3, hP, rfl, hB, hN, hC, hS⟩
      rw [List.drop_length] at hB
      cases ssr with
      | cons s2 rest =>
        obtain ⟨v2, ys, l3, l4, e3, _⟩ := hB
        cases e3
      | nil =>
        obtain ⟨_, rfl⟩ := hB
        rw [List.append_nil] at q
        exact q us H2 k h3 hP hC
theorem note_all (T : Glo K w mg) (D : Dn K mg "note_branches" s_note_branches p_note_branches) (G_parts_of : Cal P w K mg base "parts_of" 1 p_parts_of sp_partsV) : ∀ n : Nat, Cal P w K mg base "note_branches" (1 + n) p_note_branches (sp_note n)
  | 0 => cal_imp (cal_false D sc_note_branches 0) fun _ _ _ _ ⟨_, _, _, _, _, _, _, _, h, _⟩ => h
  | n + 1 => ok_note T D n G_parts_of (note_all T D G_parts_of n)
def upto : Nat → Nat → List Int
  | _, 0 => []
  | i, n + 1 => (i : Int) :: upto (i + 1) n
theorem upto_len : ∀ {i n : Nat}, (upto i n).length = n
  | _, 0 => rfl
  | i, n + 1 => by rw [upto, List.length_cons, upto_len]
theorem upto_at : ∀ {i n j : Nat}, j < n → (upto i n)[j]? = some ((i + j : Nat) : Int)
  | _, 0, _, h => absurd h (Nat.not_lt_zero _)
  | i, n + 1, 0, _ => rfl
  | i, n + 1, j + 1, h => by
    rw [upto, List.getElem?_cons_succ, upto_at (by omega), show i + 1 + j = i + (j + 1) by omega]
theorem upto_ge : ∀ {i n : Nat} {x : Int}, x ∈ upto i n → (i : Int) ≤ x
  | i, n + 1, x, h => by
    rcases List.mem_cons.mp h with rfl | h
    · exact Int.le_refl _
    · have := upto_ge h
      omega
theorem upto_pw : ∀ {i n : Nat}, (upto i n).Pairwise (· ≤ ·)
  | _, 0 => List.Pairwise.nil
  | i, n + 1 => List.Pairwise.cons (fun x h => by have := upto_ge h; omega) upto_pw
theorem rowsK_keys : ∀ {i : Nat} {ws : List V}, (rowsK i ws).map (·.1) = (upto i ws.length).map Sum.inl
  | _, [] => rfl
  | i, w :: r => by
    show (Sum.inl (i : Int) : Key) :: (rowsK (i + 1) r).map (·.1) = _
    rw [rowsK_keys]
    rfl
theorem perm_upto {i n : Nat} {ys : List Int} (p : ys.Perm (upto i n)) (s : ys.Pairwise (· ≤ ·)) : ys = upto i n := List.Perm.eq_of_pairwise (fun _ _ _ _ => Int.le_antisymm) s upto_pw p
/-- the threads of a core: a new list of (parent, statement), the objects themselves -/
def sp_threads (n : Nat) : Sp := fun vs H Q _ => ∃ (p ch : Addr) (nc : Int) (s : Sx) (v : V) (l : List (V × V)), vs = [.ref p] ∧ H p = some (.tup [.str "core", .int nc, .ref ch, v]) ∧ Brs [] H n s v (.int 0) l ∧ s.num 1 ∧ s.cnt ≤ 40 ∧ s.sz ≤ 50000 ∧
  ∀ (L : Addr) (us : List V) (H' : Hp), Ex H H' → H L = none → H' L = some (.lst us) → Prs H' us ((.non, v) :: l) → us.length = s.cnt + 1 → Q (.ref L) H'
theorem ok_threads (T : Glo K w mg) (D : Dn K mg "threads_of" s_threads_of p_threads_of) (n : Nat) (G_note_branches : Cal P w K mg base "note_branches" (1 + n) p_note_branches (sp_note n)) : Cal P w K mg base "threads_of" (1 + n + 1) p_threads_of (sp_threads n) := by
  refine D.ok sc_threads_of (fun vs H Q E h => ?_) (fun f cdv A outer s H vs Q E hr h => ?_)
  · obtain ⟨_, _, _, _, _, _, rfl, _⟩ := h
    rfl
  obtain ⟨pc, ch, nc, s0, v, l, rfl, hp, hb, hnm, hc, hz, q⟩ := h
  refine ⟨_, (pss_cons (ps_set (i := 1) sc_threads_of.nd rfl (by first | exact Or.inl rfl | exact Or.inr rfl) (pe_disp (pps_cons pe_int (pe_tup (pa_cons pe_non (pa_cons (pe_ix ix_seq (pv 0) pe_int (fun _ _ => rfl)) pa_nil))) pps_nil) rfl rfl (by simp) (by decide))) (pss_cons (ps_expr (pe_cal G_note_branches (hr.mono (by (first | subst "lev" | fail))) rfl (pa_cons (pv 1) (pa_cons pe_int (pa_cons (pe_ix ix_seq (pv 0) pe_int (fun _ _ => rfl)) pa_nil))))) (pss_one (ps_ret (pe_lc (own := [("thread", 2)]) (tt := tYes) rfl sc_threads_of.nd (pi_list (pe_callB (call_sortedDN rfl) rfl T.n_sorted (by decide +kernel) (pa_cons (pv 1) pa_nil))) (blkOk_by (N := ["core", "found", "thread"]) (sc := defScope s_threads_of) (by decide +kernel)) (fun _ _ _ _ _ => (pg_name (i := 2) sc_threads_of.nd rfl (by first | exact Or.inl rfl | exact Or.inr rfl))) (fun _ _ _ _ _ => pts_nil) (fun _ _ _ _ _ => (pe_dget (hu_of hr) (pv 1) (pv 2) (fun _ _ => rfl)))))))), ?_⟩
  try dsimp only [cxOf, Cx.nox]
  repeat' (first | specialize "st" | fail)
  rename_i H1 k1
  have hd1 : Hn dp = some (.dK []) := ke _ _ hdn
  obtain ⟨Hm, rfl⟩ : ∃ x, x = Hn := ⟨_, rfl⟩
  have e1 : Ex H Hm := k1.trans ke
  have hpc : H pc = some (.tup [.str "core", .int nc, .ref ch, v]) := by assumption
  refine q_disp (rowsK 0 [.ref p]) hd1 rfl (List.nodup_cons.mpr ⟨List.not_mem_nil, List.nodup_nil⟩) (show 1 ≤ 15 by decide) ?_
  intro Hn ku hu
  have eN : Ex H Hn := fun a o h => ku.out _ _ (fun z => by rw [List.mem_singleton.mp z, hdp] at h; cases h) (e1 _ _ h)
  have hb2 : Brs [dp] H n s0 v (.int 0) l := hb.to (to_add hdp)
  have hdp0 : H dp = none := hdp
  clear ke
  repeat' (first | specialize "st" | fail)
  refine ⟨[], s0, v, _, dp, [.ref p], l, rfl, hb2.kp eN.kp, hnm, hu, ?_, hz, fun us H2 k2 g2 P2 n2 => ?_⟩
  · simp only [List.length_cons, List.length_nil]
    omega
  have k2' : Ex H H2 := fun a o h => k2.out _ _ (fun z => by rw [List.mem_singleton.mp z, hdp0] at h; cases h) (eN _ _ h)
  repeat' (first | specialize "st" | fail)
  have hws : ([V.ref p] ++ us).length = s0.cnt + 1 := by
    simp only [List.length_append, List.length_cons, List.length_nil]
    omega
  refine ⟨dp, rowsK 0 ([V.ref p] ++ us), upto 0 (s0.cnt + 1), rfl, .inl g2, by rw [rowsK_keys, hws], by rw [upto_len]; omega, fun ys ps hperm hsort hps => ?_⟩
  obtain rfl := perm_upto hperm hsort
  have ePs : Ex H2 (upd H2 ps (.lst ((upto 0 (s0.cnt + 1)).map V.int))) := Ex.mk hps rfl
  have hPl : upd H2 ps (.lst ((upto 0 (s0.cnt + 1)).map V.int)) ps = some (.lst ((upto 0 (s0.cnt + 1)).map V.int)) := upd_same
  refine ⟨ps, rfl, ⟨_, sql hPl⟩, fun D hD => ?_⟩
  generalize upd H2 ps (.lst ((upto 0 (s0.cnt + 1)).map V.int)) = H3 at ePs hPl hD ⊢
  have hn2 : H2 p = some (.tup [.non, v]) := k2.tup _ _ (ku.tup _ _ hn)
  refine lc_list (xs := (upto 0 (s0.cnt + 1)).map V.int) (fun i H4 => Ex H3 H4 ∧ H4 D = some (.lst (([V.ref p] ++ us).take i))) ?_ ?_ ?_ ?_
  · exact ⟨Ex.mk hD rfl, upd_same⟩
  · rintro i H4 _ ⟨e, _⟩
    exact sql (e _ _ hPl)
  · rintro i x H4 hx ⟨e, h1⟩
    rw [List.getElem?_map] at hx
    obtain ⟨k, hk, rfl⟩ := Option.map_eq_some_iff.mp hx
    have hi : i < s0.cnt + 1 := by
      have := (List.getElem?_eq_some_iff.mp hk).1
      rw [upto_len] at this
      exact this
    rw [upto_at hi, Nat.zero_add] at hk
    obtain rfl := Option.some.inj hk
    obtain ⟨y, hy⟩ : ∃ y, ([V.ref p] ++ us)[i]? = some y := ⟨_, List.getElem?_eq_getElem (by rw [hws]; exact hi)⟩
    have hval := rowsK_val (i := 0) hy
    rw [Nat.zero_add] at hval
    have g4 : H4 dp = some (.dK (rowsK 0 ([V.ref p] ++ us))) := e _ _ (ePs _ _ g2)
    refine ⟨rfl, ?_⟩
    repeat' (first | specialize "st" | fail)
    refine q_dgetI g4 hval ?_
    refine ⟨_, h1, sl1000' (by rw [List.length_take]; omega), fun b u hb => ?_, ?_⟩
    · rw [upd_ne (ne_of_none hb hD)]
      exact e _ _ hb
    · rw [List.take_add_one, hy]
      exact upd_same
  · rintro H4 ⟨e, h1⟩
    rw [List.length_map, upto_len, ← hws, List.take_length] at h1
    have e4 : Ex H2 H4 := ePs.trans e
    exact q D _ _ (k2'.trans e4) (free_back (k2'.trans ePs) hD) h1 (.cons ⟨p, rfl, e4 _ _ hn2⟩ (prs_kp (M := []) e4.kp P2)) hws
/-! the rows are the same, part by part -/
def okV (v : V) : Prop := v = .non ∨ (∃ i, v = .int i) ∨ ∃ a, v = .ref a
theorem sm0_ok {K : PySem.W.Frag} {H : Hp} {v : V} (h : okV v) : Sm K H 0 v v := by
  rcases h with rfl | ⟨i, rfl⟩ | ⟨a, rfl⟩
  · exact .inl ⟨rfl, rfl⟩
  · exact .inl ⟨rfl, rfl⟩
  · exact .inr ⟨a, rfl, rfl⟩
theorem Sx.In.isRef {M : List Addr} {H : Hp} {s : Sx} {v : V} (h : s.In M H v) : ∃ a, v = .ref a := by
  cases s with
  | skip => obtain ⟨p, e, _⟩ := h; exact ⟨p, e⟩
  | stop => obtain ⟨p, e, _⟩ := h; exact ⟨p, e⟩
  | set _ _ => obtain ⟨p, _, _, e, _⟩ := h; exact ⟨p, e⟩
  | give _ _ => obtain ⟨p, _, e, _⟩ := h; exact ⟨p, e⟩
  | take _ _ => obtain ⟨p, _, e, _⟩ := h; exact ⟨p, e⟩
  | ife _ _ _ => obtain ⟨p, _, _, _, e, _⟩ := h; exact ⟨p, e⟩
  | rep _ _ _ => obtain ⟨p, _, _, e, _⟩ := h; exact ⟨p, e⟩
  | seq _ => obtain ⟨p, _, _, e, _⟩ := h; exact ⟨p, e⟩
  | par _ => obtain ⟨p, _, _, e, _⟩ := h; exact ⟨p, e⟩
  | alt _ => obtain ⟨p, _, _, e, _⟩ := h; exact ⟨p, e⟩
theorem brsL_ok {R : Sx → V → V → List (V × V) → Prop} (h : ∀ s v p l, R s v p l → okV p → ∀ x ∈ l, okV x.1 ∧ okV x.2) : ∀ {ss : List Sx} {vs : List V} {p : V} {l : List (V × V)}, BrsL R ss vs p l → okV p → ∀ x ∈ l, okV x.1 ∧ okV x.2
  | [], _, _, _, ⟨_, e⟩, _, x, hx => by rw [e] at hx; cases hx
  | s :: ss, _, p, _, ⟨v, ws, l1, l2, _, e, a, b⟩, hp, x, hx => by
    rw [e] at hx
    rcases List.mem_append.mp hx with hx | hx
    · exact h _ _ _ _ a hp x hx
    · exact brsL_ok h b hp x hx
theorem brsP_ok {H : Hp} {R : Sx → V → V → List (V × V) → Prop} (h : ∀ s v p l, R s v p l → okV v ∧ (okV p → ∀ x ∈ l, okV x.1 ∧ okV x.2)) : ∀ {ss : Ps} {vs : List V} {p : V} {l : List (V × V)}, BrsP H R ss vs p l → okV p → ∀ x ∈ l, okV x.1 ∧ okV x.2
  | .nil, _, _, _, ⟨_, e⟩, _, x, hx => by rw [e] at hx; cases hx
  | .cons t s r, _, p, _, ⟨q, y, ys, l1, l2, _, _, e, a, b⟩, hp, x, hx => by
    rw [e] at hx
    rcases List.mem_cons.mp hx with rfl | hx
    · exact ⟨hp, (h _ _ _ _ a).1⟩
    rcases List.mem_append.mp hx with hx | hx
    · exact (h _ _ _ _ a).2 (.inr (.inl ⟨t, rfl⟩)) x hx
    · exact brsP_ok h b hp x hx
theorem brs_ok {M : List Addr} {H : Hp} : ∀ {n : Nat} {s : Sx} {v p : V} {l : List (V × V)}, Brs M H n s v p l → okV v ∧ (okV p → ∀ x ∈ l, okV x.1 ∧ okV x.2)
  | 0, _, _, _, _, h => h.elim
  | n + 1, s, v, p, l, ⟨i, h⟩ => by
    refine ⟨.inr (.inr i.isRef), fun hp => ?_⟩
    rcases h with ⟨ps, q, l0, xs, _, _, _, _, _, b⟩ | ⟨_, pl, _, b⟩
    · exact brsP_ok (fun _ _ _ _ z => brs_ok (n := n) z) b hp
    · exact brsL_ok (fun _ _ _ _ z => (brs_ok (n := n) z).2) b hp
theorem prs_sm {K : PySem.W.Frag} {H : Hp} : ∀ {l : List (V × V)} {us ws : List V}, (∀ x ∈ l, okV x.1 ∧ okV x.2) → Prs H us l → Prs H ws l → Paired (Sm K H 1) us ws
  | [], _, _, _, .nil, .nil => .nil
  | x :: l, _, _, h, .cons ⟨q, e, a⟩ t, .cons ⟨q', e', a'⟩ t' => by
    subst e
    subst e'
    obtain ⟨o1, o2⟩ := h x (List.mem_cons_self ..)
    exact .cons (.inr ⟨q, q', _, _, rfl, rfl, .inr ⟨sqt a, sqt a'⟩, .cons (sm0_ok o1) (.cons (sm0_ok o2) .nil)⟩) (prs_sm (fun y hy => h y (List.mem_cons_of_mem _ hy)) t t')
abbrev s_Touch___init__ : Stmt := inClass (topS 3) 0
theorem sc_Touch___init__ : FnScope ["self"] ["self"] (defScope s_Touch___init__) := ⟨rfl, rfl, rfl, by decide +kernel, rfl, by decide +kernel, by decide +kernel⟩
abbrev p_Touch___init__ : List Str := ["self"]
abbrev s_cells_of : Stmt := topS 9
theorem sc_cells_of : FnScope ["target", "first", "size"] ["target"] (defScope s_cells_of) := ⟨rfl, rfl, rfl, by decide +kernel, rfl, by decide +kernel, by decide +kernel⟩
abbrev p_cells_of : List Str := ["target"]
abbrev s_note_expression : Stmt := topS 8
theorem sc_note_expression : FnScope ["found", "e", "kind", "operand", "k"] ["found", "e"] (defScope s_note_expression) := ⟨rfl, rfl, rfl, by decide +kernel, rfl, by decide +kernel, by decide +kernel⟩
abbrev p_note_expression : List Str := ["found", "e"]
abbrev s_note_target : Stmt := topS 7
theorem sc_note_target : FnScope ["found", "target", "k"] ["found", "target"] (defScope s_note_target) := ⟨rfl, rfl, rfl, by decide +kernel, rfl, by decide +kernel, by decide +kernel⟩
abbrev p_note_target : List Str := ["found", "target"]
abbrev s_note_guard : Stmt := topS 6
theorem sc_note_guard : FnScope ["found", "guard"] ["found", "guard"] (defScope s_note_guard) := ⟨rfl, rfl, rfl, by decide +kernel, rfl, by decide +kernel, by decide +kernel⟩
abbrev p_note_guard : List Str := ["found", "guard"]
abbrev s_note_statement : Stmt := topS 5
theorem sc_note_statement : FnScope ["found", "s", "kind", "part", "guard", "c", "target", "_"] ["found", "s"] (defScope s_note_statement) := ⟨rfl, rfl, rfl, by decide +kernel, rfl, by decide +kernel, by decide +kernel⟩
abbrev p_note_statement : List Str := ["found", "s"]
abbrev s_touched : Stmt := topS 4
theorem sc_touched : FnScope ["s", "found"] ["s"] (defScope s_touched) := ⟨rfl, rfl, rfl, by decide +kernel, rfl, by decide +kernel, by decide +kernel⟩
abbrev p_touched : List Str := ["s"]
/-! ### what terms and statements touch -/
def Tm.tw : Tm → Int → Prop
  | .cell k, x => x = k
  | .at f s _, x => f ≤ x ∧ x < f + s
  | _, _ => False
def Tm.rd : Tm → Int → Prop
  | .num _, _ => False
  | .cell k, x => x = k
  | .at f s e, x => (f ≤ x ∧ x < f + s) ∨ e.rd x
  | .neg e, x => e.rd x
  | .not e, x => e.rd x
  | .bin _ a b, x => a.rd x ∨ b.rd x
def Tm.ti : Tm → Int → Prop
  | .at _ _ e, x => e.rd x
  | _, _ => False
theorem Tm.rd_fit {R : Int → Prop} : ∀ {e : Tm} {x : Int}, e.fit R → e.rd x → R x
  | .num _, _, _, e => e.elim
  | .cell _, _, h, e => by cases e; exact h
  | .at _ _ _, _, h, e => by
    rcases e with ⟨a, b⟩ | e
    · exact h.2.2.1 _ a b
    · exact Tm.rd_fit h.2.2.2 e
  | .neg e, _, h, g => Tm.rd_fit (e := e) h g
  | .not e, _, h, g => Tm.rd_fit (e := e) h g
  | .bin _ _ _, _, h, g => g.elim (Tm.rd_fit h.1) (Tm.rd_fit h.2)
theorem Tm.tw_aim {W R : Int → Prop} : ∀ {e : Tm} {x : Int}, e.aim W R → e.tw x → W x
  | .cell _, _, h, e => by cases e; exact h
  | .at _ _ _, _, h, e => h.2.2.1 _ e.1 e.2
theorem Tm.ti_aim {W R : Int → Prop} : ∀ {e : Tm} {x : Int}, e.aim W R → e.ti x → R x
  | .at _ _ _, _, h, e => Tm.rd_fit h.2.2.2 e
/-! ### the object that notes it -/
def addK (r : List Int) (k : Int) : List Int := if k ∈ r then r else r ++ [k]
theorem addK_mem {r : List Int} {k x : Int} : x ∈ addK r k ↔ x ∈ r ∨ x = k := by
  unfold addK
  split
  · next h =>
    constructor
    · exact .inl
    · rintro (h1 | rfl)
      · exact h1
      · exact h
  · rw [List.mem_append, List.mem_singleton]
theorem addK_nd {r : List Int} {k : Int} (h : r.Nodup) : (addK r k).Nodup := by
  unfold addK
  split
  · exact h
  · next n => exact nodup_snoc h n
def keysK (r : List Int) : List (Key × V) := r.map fun k => (Sum.inl k, V.bl true)
theorem keysK_any (k : Int) : ∀ r : List Int, ((keysK r).any fun kv => decide (kv.1 = Sum.inl k)) = decide (k ∈ r)
  | [] => rfl
  | x :: r => by
    show (decide ((Sum.inl x : Key) = Sum.inl k) || (keysK r).any fun kv => decide (kv.1 = Sum.inl k)) = _
    rw [keysK_any k r]
    by_cases h : x = k
    · subst h
      simp
    · have h1 : ¬ (Sum.inl x : Key) = Sum.inl k := fun z => h (Sum.inl.inj z)
      have h2 : (k ∈ x :: r) ↔ k ∈ r := by
        rw [List.mem_cons]
        exact ⟨fun z => z.elim (fun e => absurd e.symm h) id, .inr⟩
      simp only [decide_eq_false h1, Bool.false_or]
      exact decide_eq_decide.mpr h2.symm
theorem keysK_put (r : List Int) (k : Int) : putK (keysK r) (Sum.inl k) (.bl true) = keysK (addK r k) := by
  unfold putK addK
  rw [keysK_any]
  by_cases h : k ∈ r
  · rw [if_pos (decide_eq_true h), if_pos h]
    unfold keysK
    rw [List.map_map]
    refine List.map_congr_left fun x _ => ?_
    show (if (Sum.inl x : Key) = Sum.inl k then (Sum.inl x, V.bl true) else (Sum.inl x, V.bl true)) = _
    split <;> rfl
  · rw [if_neg (by rw [decide_eq_true_iff]; exact h), if_neg h]
    unfold keysK
    rw [List.map_append]
    rfl
theorem keysK_keys (r : List Int) : (keysK r).map (·.1) = r.map Sum.inl := by
  unfold keysK
  rw [List.map_map]
  rfl
theorem keysK_len (r : List Int) : (keysK r).length = r.length := List.length_map ..
/-- lists of numbers below n without doubles are short -/
theorem nd_short : ∀ (n : Nat) {r : List Int}, r.Nodup → (∀ x ∈ r, 0 ≤ x ∧ x < n) → r.length ≤ n
  | 0, r, _, h => by
    cases r with
    | nil => exact Nat.le_refl 0
    | cons x r =>
      have := h x (List.mem_cons_self ..)
      omega
  | n + 1, r, nd, h => by
    have h1 := nd_short n (r := r.filter fun x => decide (x ≠ (n : Int))) (nd.filter _) fun x hx => by
      obtain ⟨a, b⟩ := List.mem_filter.mp hx
      have b := of_decide_eq_true b
      have := h x a
      omega
    have h2 : r.length ≤ (r.filter fun x => decide (x ≠ (n : Int))).length + 1 := by
      have key : ∀ l : List Int, l.Nodup → l.length ≤ (l.filter fun x => decide (x ≠ (n : Int))).length + 1 ∧ ((n : Int) ∉ l → l.length = (l.filter fun x => decide (x ≠ (n : Int))).length) := fun l => by
        induction l with
        | nil => intro _; exact ⟨Nat.zero_le _, fun _ => rfl⟩
        | cons x l ih =>
          intro hl
          obtain ⟨n1, n2⟩ := List.nodup_cons.mp hl
          obtain ⟨i1, i2⟩ := ih n2
          by_cases e : x = (n : Int)
          · have hn : (n : Int) ∉ l := e ▸ n1
            rw [List.filter_cons_of_neg (by simp [e])]
            refine ⟨by rw [List.length_cons, i2 hn]; omega, fun z => absurd (e ▸ List.mem_cons_self ..) z⟩
          · rw [List.filter_cons_of_pos (by simp [e])]
            simp only [List.length_cons]
            exact ⟨by omega, fun z => by rw [i2 fun w => z (List.mem_cons_of_mem _ w)]⟩
      exact (key r nd).1
    omega
section
variable {C : Addr}
structure TchK (K : PySem.W.Frag) (C : Addr) : Prop where
  cl : Cls K C
  nR : NoAttr K C "reads"
  nW : NoAttr K C "writes"
  nG : NoAttr K C "gives"
  nT : NoAttr K C "takes"
def tfl (r w g t : Addr) : List (Str × V) := [("reads", .ref r), ("writes", .ref w), ("gives", .ref g), ("takes", .ref t)]
/-- its places -/
structure Tpl where
  a : Addr
  r : Addr
  w : Addr
  g : Addr
  t : Addr
abbrev Tpl.all (p : Tpl) : List Addr := [p.r, p.w, p.g, p.t]
structure Tls where
  r : List Int
  w : List Int
  g : List Int
  t : List Int
structure Tls.ok (l : Tls) : Prop where
  nr : l.r.Nodup
  nw : l.w.Nodup
  ng : l.g.Nodup
  nt : l.t.Nodup
  br : ∀ x ∈ l.r, 0 ≤ x ∧ x < (900 : Nat)
  bw : ∀ x ∈ l.w, 0 ≤ x ∧ x < (900 : Nat)
  bg : ∀ x ∈ l.g, 0 ≤ x ∧ x < (900 : Nat)
  bt : ∀ x ∈ l.t, 0 ≤ x ∧ x < (900 : Nat)
structure TcIn (C : Addr) (p : Tpl) (l : Tls) (H : Hp) : Prop where
  ob : ∃ dx, H p.a = some (.ins C dx (tfl p.r p.w p.g p.t))
  r : H p.r = some (.dK (keysK l.r))
  w : H p.w = some (.dK (keysK l.w))
  g : H p.g = some (.dK (keysK l.g))
  t : H p.t = some (.dK (keysK l.t))
  rw : p.r ≠ p.w
  rg : p.r ≠ p.g
  rt : p.r ≠ p.t
  wg : p.w ≠ p.g
  wt : p.w ≠ p.t
  gt : p.g ≠ p.t
theorem TcIn.ex {p : Tpl} {l : Tls} {H H' : Hp} (e : Ex H H') (h : TcIn C p l H) : TcIn C p l H' := by
  obtain ⟨⟨dx, a⟩, b, c, d, f, n1, n2, n3, n4, n5, n6⟩ := h
  exact ⟨⟨dx, e _ _ a⟩, e _ _ b, e _ _ c, e _ _ d, e _ _ f, n1, n2, n3, n4, n5, n6⟩
theorem TcIn.na {p : Tpl} {l : Tls} {H : Hp} (h : TcIn C p l H) : p.a ∉ p.all := by
  obtain ⟨⟨dx, a⟩, b, c, d, f, _⟩ := h
  simp only [List.mem_cons, List.not_mem_nil, or_false, not_or]
  exact ⟨ne_knd a b (by intro z; cases z), ne_knd a c (by intro z; cases z), ne_knd a d (by intro z; cases z), ne_knd a f (by intro z; cases z)⟩
theorem TcIn.putR {p : Tpl} {l : Tls} {H H' : Hp} {k : Int} (h : TcIn C p l H) (e : Kp [p.r] H H') (hn : H' p.r = some (.dK (keysK (addK l.r k)))) : TcIn C p { l with r := addK l.r k } H' := by
  have na := h.na
  simp only [List.mem_cons, List.not_mem_nil, or_false, not_or] at na
  obtain ⟨⟨dx, a⟩, b, c, d, f, n1, n2, n3, n4, n5, n6⟩ := h
  have o : ∀ {x : Addr} {u : HO}, x ≠ p.r → H x = some u → H' x = some u := fun n g => e.out _ _ (fun z => n (List.mem_singleton.mp z)) g
  exact ⟨⟨dx, o na.1 a⟩, hn, o (Ne.symm n1) c, o (Ne.symm n2) d, o (Ne.symm n3) f, n1, n2, n3, n4, n5, n6⟩
theorem TcIn.putW {p : Tpl} {l : Tls} {H H' : Hp} {k : Int} (h : TcIn C p l H) (e : Kp [p.w] H H') (hn : H' p.w = some (.dK (keysK (addK l.w k)))) : TcIn C p { l with w := addK l.w k } H' := by
  have na := h.na
  simp only [List.mem_cons, List.not_mem_nil, or_false, not_or] at na
  obtain ⟨⟨dx, a⟩, b, c, d, f, n1, n2, n3, n4, n5, n6⟩ := h
  have o : ∀ {x : Addr} {u : HO}, x ≠ p.w → H x = some u → H' x = some u := fun n g => e.out _ _ (fun z => n (List.mem_singleton.mp z)) g
  exact ⟨⟨dx, o na.2.1 a⟩, o n1 b, hn, o (Ne.symm n4) d, o (Ne.symm n5) f, n1, n2, n3, n4, n5, n6⟩
theorem TcIn.putG {p : Tpl} {l : Tls} {H H' : Hp} {k : Int} (h : TcIn C p l H) (e : Kp [p.g] H H') (hn : H' p.g = some (.dK (keysK (addK l.g k)))) : TcIn C p { l with g := addK l.g k } H' := by
  have na := h.na
  simp only [List.mem_cons, List.not_mem_nil, or_false, not_or] at na
  obtain ⟨⟨dx, a⟩, b, c, d, f, n1, n2, n3, n4, n5, n6⟩ := h
  have o : ∀ {x : Addr} {u : HO}, x ≠ p.g → H x = some u → H' x = some u := fun n g => e.out _ _ (fun z => n (List.mem_singleton.mp z)) g
  exact ⟨⟨dx, o na.2.2.1 a⟩, o n2 b, o n4 c, hn, o (Ne.symm n6) f, n1, n2, n3, n4, n5, n6⟩
theorem TcIn.putT {p : Tpl} {l : Tls} {H H' : Hp} {k : Int} (h : TcIn C p l H) (e : Kp [p.t] H H') (hn : H' p.t = some (.dK (keysK (addK l.t k)))) : TcIn C p { l with t := addK l.t k } H' := by
  have na := h.na
  simp only [List.mem_cons, List.not_mem_nil, or_false, not_or] at na
  obtain ⟨⟨dx, a⟩, b, c, d, f, n1, n2, n3, n4, n5, n6⟩ := h
  have o : ∀ {x : Addr} {u : HO}, x ≠ p.t → H x = some u → H' x = some u := fun n g => e.out _ _ (fun z => n (List.mem_singleton.mp z)) g
  exact ⟨⟨dx, o na.2.2.2 a⟩, o n3 b, o n5 c, o n6 d, hn, n1, n2, n3, n4, n5, n6⟩
def rgI (f s : Int) : List Int := (List.range s.toNat).map fun i => f + (i : Nat)
theorem rgI_mem {f s x : Int} (h : 0 ≤ s) : x ∈ rgI f s ↔ f ≤ x ∧ x < f + s := by
  unfold rgI
  constructor
  · intro hx
    obtain ⟨i, hi, e⟩ := List.mem_map.mp hx
    have := List.mem_range.mp hi
    omega
  · rintro ⟨a, b⟩
    exact List.mem_map.mpr ⟨(x - f).toNat, List.mem_range.mpr (by omega), by omega⟩
theorem rgV_rgI (f s : Int) : rgV f (f + s) = (rgI f s).map V.int := by
  unfold rgV rgI
  rw [List.map_map, show f + s - f = s by omega]
  rfl
/-- the cells for which a target stands, as a new list -/
def Tm.cl : Tm → List Int
  | .cell k => [k]
  | .at f s _ => rgI f s
  | _ => []
theorem Tm.cl_mem {W R : Int → Prop} : ∀ {e : Tm} {x : Int}, e.fit R ∨ e.aim W R → (x ∈ e.cl ↔ e.tw x)
  | .cell _, _, _ => List.mem_singleton
  | .at _ _ _, _, h => rgI_mem (h.elim (fun z => by have := z.1; omega) fun z => by have := z.1; omega)
  | .num _, _, _ => ⟨fun h => absurd h List.not_mem_nil, fun h => h.elim⟩
  | .neg _, _, _ => ⟨fun h => absurd h List.not_mem_nil, fun h => h.elim⟩
  | .not _, _, _ => ⟨fun h => absurd h List.not_mem_nil, fun h => h.elim⟩
  | .bin _ _ _, _, _ => ⟨fun h => absurd h List.not_mem_nil, fun h => h.elim⟩
theorem r_lstRg {te : L2.St → Hp → (Int → Int → Hp → Prop) → Prop} {σ : L2.St} {H : Hp} {Q : VK} (q : te σ H fun a b H1 => RgOk a b ∧ ∀ q, H1 q = none → Q (.ref q) (upd H1 q (.lst (rgV a b)))) : tLstRg te σ H Q := q
theorem r_rg2 {ta tb : TE} {σ : L2.St} {H : Hp} {Q : Int → Int → Hp → Prop} (q : ta σ H fun x H1 => tb σ H1 fun y H2 => ∃ i j, x = .int i ∧ y = .int j ∧ Q i j H2) : tRg2 ta tb σ H Q := q
def sp_cellsof : Sp := fun vs H Q _ => ∃ (e : Tm) (v : V) (R W : Int → Prop), vs = [v] ∧ e.In H v ∧ e.tgt ∧ (e.fit R ∨ e.aim W R) ∧ (∀ x, e.tw x → 0 ≤ x ∧ x < 900) ∧ ∀ L H', H L = none → Ex H H' → H' L = some (.lst (e.cl.map V.int)) → Q (.ref L) H'
theorem ok_cellsof (T : Glo K w mg) (D : Dn K mg "cells_of" s_cells_of p_cells_of) : Cal P w K mg base "cells_of" 1 p_cells_of sp_cellsof := by
  refine D.ok sc_cells_of (fun vs H Q E h => ?_) (fun f cdv A outer s H vs Q E hr h => ?_)
  · obtain ⟨_, _, _, _, rfl, _⟩ := h
    rfl
  obtain ⟨e, v, R, W, rfl, he, ht, hf, hb, q⟩ := h
  refine ⟨_, (pss_cons (ps_if (pt_cmpR (op_eqA (hu64 hr)) (pe_ix ix_seq (pv 0) pe_int (fun _ _ => rfl)) pe_str (nomark _)) (pss_one (ps_ret (pe_lst (pa_cons (pe_ix ix_seq (pv 0) pe_int (fun _ _ => rfl)) pa_nil)))) pss_nil) (pss_cons (ps_asg (pe_slice sl_any (pv 0) (po_some pe_int) (po_some pe_int)) (pg_tup rfl (pgs_cons (pg_name (i := 1) sc_cells_of.nd rfl (by first | exact Or.inl rfl | exact Or.inr rfl)) (pgs_cons (pg_name (i := 2) sc_cells_of.nd rfl (by first | exact Or.inl rfl | exact Or.inr rfl)) pgs_nil)))) (pss_one (ps_ret (pe_listRg rfl rfl T.n_list (prg_2 rfl T.n_range (pv 1) (pe_op op_addA (pv 1) (pv 2)))))))), ?_⟩
  try dsimp only [cxOf, Cx.nox]
  cases e with
  | cell k =>
    obtain ⟨p, rfl, hp⟩ := he
    repeat' (first | specialize "st" | fail)
    exact q _ _ hp ke hn
  | «at» f0 s0 e0 =>
    obtain ⟨p, x, rfl, hp, hx⟩ := he
    have hs0 : 0 < s0 ∧ s0 < 5 := hf.elim (fun z => ⟨z.1, z.2.1⟩) fun z => ⟨z.1, z.2.1⟩
    have hb1 := hb f0 ⟨Int.le_refl _, by omega⟩
    repeat' (first | specialize "st" | fail)
    refine .inr ⟨p, _, rfl, sqt hp, (by show ¬ (HT.sIx 4 0 (some 1) = 0 ∧ HT.sIx 4 4 (some 3) = 4); decide), fun l hl => ?_⟩
    have hl2 : upd H l (.tup [.int f0, .int s0]) l = some (.tup [.int f0, .int s0]) := upd_same
    have el : Ex H (upd H l (.tup [.int f0, .int s0])) := Ex.mk hl rfl
    show gTup K _ _ _ _ (upd H l (.tup [.int f0, .int s0])) _
    generalize upd H l (.tup [.int f0, .int s0]) = H1 at hl2 el ⊢
    repeat' (first | specialize "st" | fail)
    refine r_lstRg (r_rg2 ?_)
    repeat' (first | specialize "st" | fail)
    refine ⟨f0, f0 + s0, rfl, rfl, RgOk.of_le (by omega) (by omega) (by omega) (by omega), fun L hL => ?_⟩
    rw [rgV_rgI]
    exact q L _ (free_back el hL) (el.trans (Ex.mk hL rfl)) upd_same
  | num _ => exact ht.elim
  | neg _ => exact ht.elim
  | not _ => exact ht.elim
  | bin _ _ _ => exact ht.elim
end
section
variable {C : Addr}
/-- reads noted: l grows by the numbers of P -/
structure Tls.addR (l l' : Tls) (P : Int → Prop) : Prop where
  r : ∀ x, x ∈ l'.r ↔ x ∈ l.r ∨ P x
  w : l'.w = l.w
  g : l'.g = l.g
  t : l'.t = l.t
theorem Tls.addR.refl (l : Tls) : l.addR l fun _ => False := ⟨fun _ => ⟨.inl, fun h => h.elim id fun z => z.elim⟩, rfl, rfl, rfl⟩
theorem Tls.addR.trans {a b c : Tls} {P Q : Int → Prop} (h : a.addR b P) (g : b.addR c Q) : a.addR c fun x => P x ∨ Q x :=
  ⟨fun x => by rw [g.r, h.r, or_assoc], g.w.trans h.w, g.g.trans h.g, g.t.trans h.t⟩
theorem Tls.addR.cg {a b : Tls} {P Q : Int → Prop} (h : a.addR b P) (e : ∀ x, P x ↔ Q x) : a.addR b Q := ⟨fun x => by rw [h.r, e], h.w, h.g, h.t⟩
theorem Tls.ok.addR {l : Tls} {k : Int} (h : l.ok) (hk : 0 ≤ k ∧ k < 900) : Tls.ok { l with r := addK l.r k } :=
  ⟨addK_nd h.nr, h.nw, h.ng, h.nt, fun x hx => (addK_mem.mp hx).elim (h.br x) fun e => by subst e; exact hk, h.bw, h.bg, h.bt⟩
theorem Tls.ok.addW {l : Tls} {k : Int} (h : l.ok) (hk : 0 ≤ k ∧ k < 900) : Tls.ok { l with w := addK l.w k } :=
  ⟨h.nr, addK_nd h.nw, h.ng, h.nt, h.br, fun x hx => (addK_mem.mp hx).elim (h.bw x) fun e => by subst e; exact hk, h.bg, h.bt⟩
theorem Tls.ok.addG {l : Tls} {k : Int} (h : l.ok) (hk : 0 ≤ k ∧ k < 900) : Tls.ok { l with g := addK l.g k } :=
  ⟨h.nr, h.nw, addK_nd h.ng, h.nt, h.br, h.bw, fun x hx => (addK_mem.mp hx).elim (h.bg x) fun e => by subst e; exact hk, h.bt⟩
theorem Tls.ok.addT {l : Tls} {k : Int} (h : l.ok) (hk : 0 ≤ k ∧ k < 900) : Tls.ok { l with t := addK l.t k } :=
  ⟨h.nr, h.nw, h.ng, addK_nd h.nt, h.br, h.bw, h.bg, fun x hx => (addK_mem.mp hx).elim (h.bt x) fun e => by subst e; exact hk⟩
theorem Tls.ok.lens {l : Tls} (h : l.ok) : l.r.length ≤ 900 ∧ l.w.length ≤ 900 ∧ l.g.length ≤ 900 ∧ l.t.length ≤ 900 := ⟨nd_short 900 h.nr h.br, nd_short 900 h.nw h.bw, nd_short 900 h.ng h.bg, nd_short 900 h.nt h.bt⟩
theorem TcIn.fr {p : Tpl} {l : Tls} {H : Hp} (h : TcIn C p l H) : ∃ dx, H p.a = some (.ins C dx (tfl p.r p.w p.g p.t)) := h.ob
local macro_rules | `(tactic| subst "ne") => `(tactic| exact op_ne (by decide +kernel))
def sp_nexpr (C : Addr) (n : Nat) : Sp := fun vs H Q _ => ∃ (p : Tpl) (l : Tls) (e : Tm) (v : V) (R : Int → Prop), vs = [.ref p.a, v] ∧ TcIn C p l H ∧ l.ok ∧ e.In H v ∧ e.deep ≤ n ∧ e.fit R ∧ (∀ x, R x → 0 ≤ x ∧ x < 900) ∧
  ∀ (l' : Tls) (H' : Hp), Kp [p.r] H H' → TcIn C p l' H' → l'.ok → l.addR l' e.rd → Q .non H'
theorem ok_nexpr (T : Glo K w mg) (W : TchK K C) (D : Dn K mg "note_expression" s_note_expression p_note_expression) (n : Nat) (G_cells_of : Cal P w K mg base "cells_of" 1 p_cells_of sp_cellsof) (G_note_expression : Cal P w K mg base "note_expression" (1 + n) p_note_expression (sp_nexpr C n)) :
    Cal P w K mg base "note_expression" (1 + n + 1) p_note_expression (sp_nexpr C (n + 1)) := by
  obtain ⟨hcS, nR, nW, nG, nT⟩ := W
  refine D.ok sc_note_expression (fun vs H Q E h => ?_) (fun f cdv A outer s H vs Q E hr h => ?_)
  · obtain ⟨_, _, _, _, _, rfl, _⟩ := h
    rfl
  obtain ⟨pt, l, e, v, R, rfl, ht, hl, he, hd, hf, hR, q⟩ := h
  refine ⟨_, (pss_cons (ps_set (i := 2) sc_note_expression.nd rfl (by first | exact Or.inl rfl | exact Or.inr rfl) (pe_ix ix_seq (pv 1) pe_int (fun _ _ => rfl))) (pss_cons (ps_if (pt_cmpR (op_eqA (hu64 hr)) (pv 2) pe_str (nomark _)) (pss_one ps_retN) pss_nil) (pss_cons (ps_if (PW.pt (pw_or (pt_cmpR (op_eqA (hu64 hr)) (pv 2) pe_str (nomark _)) (pw_or1 (pt_cmpR (op_eqA (hu64 hr)) (pv 2) pe_str (nomark _))))) (pss_cons (ps_for PassesOwn.never rfl (pi_list (pe_cal G_cells_of (hr.mono (by (first | subst "lev" | fail))) rfl (pa_cons (pv 1) pa_nil))) (pg_name (i := 4) sc_note_expression.nd rfl (by first | exact Or.inl rfl | exact Or.inr rfl)) (pss_one (ps_dput (hu_of hr) (pe_fld (pv 0) rfl) (pv 4) pe_bl rfl))) (pss_cons (ps_if (pt_cmpR (op_eqA (hu64 hr)) (pv 2) pe_str (nomark _)) (pss_one (ps_expr (pe_cal G_note_expression (hr.mono (by (first | subst "lev" | fail))) rfl (pa_cons (pv 0) (pa_cons (pe_ix ix_seq (pv 1) pe_int (fun _ _ => rfl)) pa_nil))))) pss_nil) (pss_one ps_retN))) pss_nil) (pss_one (ps_for PassesOwn.never rfl (pi_tup (pe_slice sl_any (pv 1) (po_some pe_int) po_none)) (pg_name (i := 3) sc_note_expression.nd rfl (by first | exact Or.inl rfl | exact Or.inr rfl)) (pss_one (ps_expr (pe_cal G_note_expression (hr.mono (by (first | subst "lev" | fail))) rfl (pa_cons (pv 0) (pa_cons (pv 3) pa_nil)))))))))), ?_⟩
  try dsimp only [cxOf, Cx.nox]
  cases e with
  | num k =>
    obtain ⟨q0, rfl, hq0⟩ := he
    repeat' (first | specialize "st" | fail)
    exact q l H (Kp.refl _) ht hl (Tls.addR.refl l)
  | cell k =>
    have hein := he
    obtain ⟨q0, rfl, hq0⟩ := he
    repeat' (first | specialize "st" | fail)
    refine ⟨.cell k, _, R, R, rfl, hein, trivial, .inl hf, fun x hx => hR _ (Tm.rd_fit hf (hx)), fun L H1 hL e1 hL1 => ?_⟩
    refine ⟨L, rfl, ⟨_, sql hL1⟩, ?_⟩
    have nL : L ∉ [pt.r] := fun z => by
      rw [List.mem_singleton.mp z, ht.r] at hL
      cases hL
    refine w_list (xs := (Tm.cell k).cl.map V.int) (fun i σ H' => ∃ (l' : Tls) (y : Option V), σ = [some (.ref pt.a), some (.ref q0), some (.str "cell"), none, y] ∧ Kp [pt.r] H1 H' ∧ TcIn C pt l' H' ∧ l'.ok ∧ l.addR l' fun x => x ∈ (Tm.cell k).cl.take i) ?_ ?_ ?_ ?_
    · exact ⟨l, none, rfl, Kp.refl _, ht.ex e1, hl, (Tls.addR.refl l).cg fun x => by simp⟩
    · rintro i σ H' _ ⟨l', y, rfl, k1, _⟩
      exact sql (k1.out _ _ nL hL1)
    · rintro i x σ H' hx ⟨l', y, rfl, k1, ht', hl', ha⟩
      rw [List.getElem?_map] at hx
      obtain ⟨z, hz, rfl⟩ := Option.map_eq_some_iff.mp hx
      have hzR : 0 ≤ z ∧ z < 900 := hR _ (Tm.rd_fit hf (show z = k from List.mem_singleton.mp (List.mem_of_getElem? hz)))
      obtain ⟨dx, hob⟩ := ht'.fr
      have hlen := hl'.lens.1
      repeat' (first | specialize "st" | fail)
      refine q_dputI ht'.r (by rw [keysK_len]; omega) ?_
      intro Hn ku hu
      rw [keysK_put] at hu
      refine ⟨_, _, rfl, k1.trans ku, ht'.putR ku hu, hl'.addR hzR, ⟨fun x => ?_, ha.w, ha.g, ha.t⟩⟩
      rw [List.take_add_one, hz]
      show x ∈ addK l'.r z ↔ _
      rw [addK_mem, ha.r, List.mem_append, or_assoc]
      simp
    · rintro σ H' ⟨l', y, rfl, k1, ht', hl', ha⟩
      rw [List.length_map, List.take_length] at ha
      repeat' (first | specialize "st" | fail)
      exact q l' H' (e1.kp.trans k1) ht' hl' (ha.cg fun x => List.mem_singleton)
  | «at» f0 s0 e0 =>
    have hein := he
    obtain ⟨q0, x0, rfl, hq0, hx0⟩ := he
    repeat' (first | specialize "st" | fail)
    refine ⟨.at f0 s0 e0, _, R, R, rfl, hein, trivial, .inl hf, fun x hx => hR _ (Tm.rd_fit hf (.inl hx)), fun L H1 hL e1 hL1 => ?_⟩
    refine ⟨L, rfl, ⟨_, sql hL1⟩, ?_⟩
    have nL : L ∉ [pt.r] := fun z => by
      rw [List.mem_singleton.mp z, ht.r] at hL
      cases hL
    refine w_list (xs := (Tm.at f0 s0 e0).cl.map V.int) (fun i σ H' => ∃ (l' : Tls) (y : Option V), σ = [some (.ref pt.a), some (.ref q0), some (.str "at"), none, y] ∧ Kp [pt.r] H1 H' ∧ TcIn C pt l' H' ∧ l'.ok ∧ l.addR l' fun x => x ∈ (Tm.at f0 s0 e0).cl.take i) ?_ ?_ ?_ ?_
    · exact ⟨l, none, rfl, Kp.refl _, ht.ex e1, hl, (Tls.addR.refl l).cg fun x => by simp⟩
    · rintro i σ H' _ ⟨l', y, rfl, k1, _⟩
      exact sql (k1.out _ _ nL hL1)
    · rintro i x σ H' hx ⟨l', y, rfl, k1, ht', hl', ha⟩
      rw [List.getElem?_map] at hx
      obtain ⟨z, hz, rfl⟩ := Option.map_eq_some_iff.mp hx
      have hzR : 0 ≤ z ∧ z < 900 := hR _ (Tm.rd_fit hf (.inl ((rgI_mem (by have := hf.1; omega)).mp (List.mem_of_getElem? hz))))
      obtain ⟨dx, hob⟩ := ht'.fr
      have hlen := hl'.lens.1
      repeat' (first | specialize "st" | fail)
      refine q_dputI ht'.r (by rw [keysK_len]; omega) ?_
      intro Hn ku hu
      rw [keysK_put] at hu
      refine ⟨_, _, rfl, k1.trans ku, ht'.putR ku hu, hl'.addR hzR, ⟨fun x => ?_, ha.w, ha.g, ha.t⟩⟩
      rw [List.take_add_one, hz]
      show x ∈ addK l'.r z ↔ _
      rw [addK_mem, ha.r, List.mem_append, or_assoc]
      simp
    · rintro σ H' ⟨l', y, rfl, k1, ht', hl', ha⟩
      rw [List.length_map, List.take_length] at ha
      have hq1 : H' q0 = _ := k1.tup _ _ (e1 _ _ hq0)
      repeat' (first | specialize "st" | fail)
      refine ⟨pt, l', e0, x0, R, rfl, ht', hl', (tm_ex e1 hx0).up k1.tup, by simp only [Tm.deep] at hd; omega, hf.2.2.2, hR, fun l2 H2 k2 ht2 hl2 ha2 => ?_⟩
      repeat' (first | specialize "st" | fail)
      exact q l2 H2 (e1.kp.trans (k1.trans k2)) ht2 hl2 ((ha.trans ha2).cg fun x => by rw [show x ∈ (Tm.at f0 s0 e0).cl ↔ f0 ≤ x ∧ x < f0 + s0 from rgI_mem (by have := hf.1; omega)]; rfl)
  | neg e0 =>
    obtain ⟨q0, x0, rfl, hq0, hx0⟩ := he
    have hops : Paired (fun v (e : Tm) => e.In H v ∧ e.deep ≤ n ∧ e.fit R) [x0] [e0] := .cons ⟨hx0, by simp only [Tm.deep] at hd; omega, hf⟩ .nil
    repeat' (first | specialize "st" | fail)
    have hpn := hn
    have hops1 := Paired.mapP hops fun v (e : Tm) z => (⟨tm_ex ke z.1, z.2⟩ : e.In Hn v ∧ e.deep ≤ n ∧ e.fit R)
    refine w_tup (xs := [x0]) (fun i σ H' => ∃ (l' : Tls) (y : Option V), σ = [some (.ref pt.a), some (.ref q0), some (.str "neg"), y, none] ∧ Kp [pt.r] Hn H' ∧ TcIn C pt l' H' ∧ l'.ok ∧ l.addR l' fun x => ∃ e ∈ ([e0] : List Tm).take i, e.rd x) ?_ ?_ ?_ ?_
    · exact ⟨l, none, rfl, Kp.refl _, ht.ex ke, hl, (Tls.addR.refl l).cg fun x => by simp⟩
    · rintro i σ H' _ ⟨l', y, rfl, k1, _⟩
      exact sqt (k1.tup _ _ hpn)
    · rintro i x σ H' hx ⟨l', y, rfl, k1, ht', hl', ha⟩
      obtain ⟨e9, he9, hi9, hd9, hf9⟩ := paired_at hops1 hx
      repeat' (first | specialize "st" | fail)
      refine ⟨pt, l', e9, x, R, rfl, ht', hl', hi9.up k1.tup, hd9, hf9, hR, fun l2 H2 k2 ht2 hl2 ha2 => ?_⟩
      repeat' (first | specialize "st" | fail)
      refine ⟨l2, _, rfl, k1.trans k2, ht2, hl2, (ha.trans ha2).cg fun z => ?_⟩
      rw [List.take_add_one, he9]
      simp only [List.mem_append, Option.toList_some, List.mem_singleton]
      constructor
      · rintro (⟨e, a, b⟩ | b)
        · exact ⟨e, .inl a, b⟩
        · exact ⟨e9, .inr rfl, b⟩
      · rintro ⟨e, a | rfl, b⟩
        · exact .inl ⟨e, a, b⟩
        · exact .inr b
    · rintro σ H' ⟨l', y, rfl, k1, ht', hl', ha⟩
      exact q l' H' (ke.kp.trans k1) ht' hl' (ha.cg fun x => by simp [Tm.rd])
  | not e0 =>
    obtain ⟨q0, x0, rfl, hq0, hx0⟩ := he
    have hops : Paired (fun v (e : Tm) => e.In H v ∧ e.deep ≤ n ∧ e.fit R) [x0] [e0] := .cons ⟨hx0, by simp only [Tm.deep] at hd; omega, hf⟩ .nil
    repeat' (first | specialize "st" | fail)
    have hpn := hn
    have hops1 := Paired.mapP hops fun v (e : Tm) z => (⟨tm_ex ke z.1, z.2⟩ : e.In Hn v ∧ e.deep ≤ n ∧ e.fit R)
    refine w_tup (xs := [x0]) (fun i σ H' => ∃ (l' : Tls) (y : Option V), σ = [some (.ref pt.a), some (.ref q0), some (.str "not"), y, none] ∧ Kp [pt.r] Hn H' ∧ TcIn C pt l' H' ∧ l'.ok ∧ l.addR l' fun x => ∃ e ∈ ([e0] : List Tm).take i, e.rd x) ?_ ?_ ?_ ?_
    · exact ⟨l, none, rfl, Kp.refl _, ht.ex ke, hl, (Tls.addR.refl l).cg fun x => by simp⟩
    · rintro i σ H' _ ⟨l', y, rfl, k1, _⟩
      exact sqt (k1.tup _ _ hpn)
    · rintro i x σ H' hx ⟨l', y, rfl, k1, ht', hl', ha⟩
      obtain ⟨e9, he9, hi9, hd9, hf9⟩ := paired_at hops1 hx
      repeat' (first | specialize "st" | fail)
      refine ⟨pt, l', e9, x, R, rfl, ht', hl', hi9.up k1.tup, hd9, hf9, hR, fun l2 H2 k2 ht2 hl2 ha2 => ?_⟩
      repeat' (first | specialize "st" | fail)
      refine ⟨l2, _, rfl, k1.trans k2, ht2, hl2, (ha.trans ha2).cg fun z => ?_⟩
      rw [List.take_add_one, he9]
      simp only [List.mem_append, Option.toList_some, List.mem_singleton]
      constructor
      · rintro (⟨e, a, b⟩ | b)
        · exact ⟨e, .inl a, b⟩
        · exact ⟨e9, .inr rfl, b⟩
      · rintro ⟨e, a | rfl, b⟩
        · exact .inl ⟨e, a, b⟩
        · exact .inr b
    · rintro σ H' ⟨l', y, rfl, k1, ht', hl', ha⟩
      exact q l' H' (ke.kp.trans k1) ht' hl' (ha.cg fun x => by simp [Tm.rd])
  | bin o a b =>
    obtain ⟨q0, x0, y0, rfl, hq0, hx0, hy0⟩ := he
    have hops : Paired (fun v (e : Tm) => e.In H v ∧ e.deep ≤ n ∧ e.fit R) [x0, y0] [a, b] := .cons ⟨hx0, by simp only [Tm.deep] at hd; omega, hf.1⟩ (.cons ⟨hy0, by simp only [Tm.deep] at hd; omega, hf.2⟩ .nil)
    repeat' (first | specialize "st" | fail)
    have hpn := hn
    have hops1 := Paired.mapP hops fun v (e : Tm) z => (⟨tm_ex ke z.1, z.2⟩ : e.In Hn v ∧ e.deep ≤ n ∧ e.fit R)
    refine w_tup (xs := [x0, y0]) (fun i σ H' => ∃ (l' : Tls) (y : Option V), σ = [some (.ref pt.a), some (.ref q0), some (.str o.str), y, none] ∧ Kp [pt.r] Hn H' ∧ TcIn C pt l' H' ∧ l'.ok ∧ l.addR l' fun x => ∃ e ∈ ([a, b] : List Tm).take i, e.rd x) ?_ ?_ ?_ ?_
    · exact ⟨l, none, rfl, Kp.refl _, ht.ex ke, hl, (Tls.addR.refl l).cg fun x => by simp⟩
    · rintro i σ H' _ ⟨l', y, rfl, k1, _⟩
      exact sqt (k1.tup _ _ hpn)
    · rintro i x σ H' hx ⟨l', y, rfl, k1, ht', hl', ha⟩
      obtain ⟨e9, he9, hi9, hd9, hf9⟩ := paired_at hops1 hx
      repeat' (first | specialize "st" | fail)
      refine ⟨pt, l', e9, x, R, rfl, ht', hl', hi9.up k1.tup, hd9, hf9, hR, fun l2 H2 k2 ht2 hl2 ha2 => ?_⟩
      repeat' (first | specialize "st" | fail)
      refine ⟨l2, _, rfl, k1.trans k2, ht2, hl2, (ha.trans ha2).cg fun z => ?_⟩
      rw [List.take_add_one, he9]
      simp only [List.mem_append, Option.toList_some, List.mem_singleton]
      constructor
      · rintro (⟨e, a, b⟩ | b)
        · exact ⟨e, .inl a, b⟩
        · exact ⟨e9, .inr rfl, b⟩
      · rintro ⟨e, a | rfl, b⟩
        · exact .inl ⟨e, a, b⟩
        · exact .inr b
    · rintro σ H' ⟨l', y, rfl, k1, ht', hl', ha⟩
      exact q l' H' (ke.kp.trans k1) ht' hl' (ha.cg fun x => by simp [Tm.rd])
end
section
variable {C : Addr}
theorem fals_or (p : Prop) : False ∨ p ↔ p := ⟨fun h => h.elim (fun z => z.elim) id, .inr⟩
theorem or_fals (p : Prop) : p ∨ False ↔ p := ⟨fun h => h.elim id fun z => z.elim, .inl⟩
def Fr.nil : Fr := ⟨fun _ => False, fun _ => False, fun _ => False, fun _ => False⟩
def Fr.or (a b : Fr) : Fr := ⟨fun x => a.W x ∨ b.W x, fun x => a.R x ∨ b.R x, fun x => a.G x ∨ b.G x, fun x => a.T x ∨ b.T x⟩
structure Fr.eqv (a b : Fr) : Prop where
  w : ∀ x, a.W x ↔ b.W x
  r : ∀ x, a.R x ↔ b.R x
  g : ∀ x, a.G x ↔ b.G x
  t : ∀ x, a.T x ↔ b.T x
structure Fr.in9 (F : Fr) : Prop where
  w : ∀ x, F.W x → 0 ≤ x ∧ x < 900
  r : ∀ x, F.R x → 0 ≤ x ∧ x < 900
  g : ∀ x, F.G x → 0 ≤ x ∧ x < 900
  t : ∀ x, F.T x → 0 ≤ x ∧ x < 900
/-- l grows by what F tells -/
structure Tls.gr (l l' : Tls) (F : Fr) : Prop where
  w : ∀ x, x ∈ l'.w ↔ x ∈ l.w ∨ F.W x
  r : ∀ x, x ∈ l'.r ↔ x ∈ l.r ∨ F.R x
  g : ∀ x, x ∈ l'.g ↔ x ∈ l.g ∨ F.G x
  t : ∀ x, x ∈ l'.t ↔ x ∈ l.t ∨ F.T x
theorem or_f {p : Prop} : p ↔ p ∨ False := ⟨.inl, fun h => h.elim id fun z => z.elim⟩
theorem Tls.gr.refl (l : Tls) : l.gr l .nil := ⟨fun _ => or_f, fun _ => or_f, fun _ => or_f, fun _ => or_f⟩
theorem Tls.gr.trans {a b c : Tls} {F G : Fr} (h : a.gr b F) (g : b.gr c G) : a.gr c (F.or G) :=
  ⟨fun x => by rw [g.w, h.w, or_assoc]; rfl, fun x => by rw [g.r, h.r, or_assoc]; rfl, fun x => by rw [g.g, h.g, or_assoc]; rfl, fun x => by rw [g.t, h.t, or_assoc]; rfl⟩
theorem Tls.gr.cg {a b : Tls} {F G : Fr} (h : a.gr b F) (e : F.eqv G) : a.gr b G := ⟨fun x => by rw [h.w, e.w], fun x => by rw [h.r, e.r], fun x => by rw [h.g, e.g], fun x => by rw [h.t, e.t]⟩
theorem Tls.addR.gr {a b : Tls} {P : Int → Prop} (h : a.addR b P) : a.gr b ⟨fun _ => False, P, fun _ => False, fun _ => False⟩ :=
  ⟨fun x => by rw [h.w]; exact or_f, h.r, fun x => by rw [h.g]; exact or_f, fun x => by rw [h.t]; exact or_f⟩
def frT (t : Tm) : Fr := ⟨t.tw, t.ti, fun _ => False, fun _ => False⟩
def frE (e : Tm) : Fr := ⟨fun _ => False, e.rd, fun _ => False, fun _ => False⟩
def frG (c : Int) : Fr := ⟨fun _ => False, fun _ => False, fun x => x = c, fun _ => False⟩
def frC (c : Int) : Fr := ⟨fun _ => False, fun _ => False, fun _ => False, fun x => x = c⟩
def frO : Option Tm → Fr
  | none => .nil
  | some e => frE e
def As.ow : As → Fr
  | .nil => .nil
  | .cons g c t _ r => (((frC c).or (frO g)).or (frT t)).or r.ow
def Sx.ow : Sx → Fr
  | .set t e => (frT t).or (frE e)
  | .give c e => (frG c).or (frE e)
  | .take c t => (frC c).or (frT t)
  | .ife e _ _ => frE e
  | .rep e _ _ => frE e
  | .alt rs => rs.ow
  | _ => .nil
mutual
/-- what a statement touches -/
def Sx.tc : Sx → Fr
  | .skip => .nil
  | .stop => .nil
  | .set t e => (Sx.set t e).ow
  | .give c e => (Sx.give c e).ow
  | .take c t => (Sx.take c t).ow
  | .ife e a b => (frE e).or (a.tc.or b.tc)
  | .rep e _ a => (frE e).or a.tc
  | .seq ss => ss.tc
  | .par ps => ps.tc
  | .alt rs => rs.ow.or rs.tc
def Ss.tc : Ss → Fr
  | .nil => .nil
  | .cons s r => s.tc.or r.tc
def Ps.tc : Ps → Fr
  | .nil => .nil
  | .cons _ s r => s.tc.or r.tc
def As.tc : As → Fr
  | .nil => .nil
  | .cons _ _ _ s r => s.tc.or r.tc
end
def tcL : List Sx → Fr
  | [] => .nil
  | s :: r => s.tc.or (tcL r)
theorem Fr.eqv.refl (a : Fr) : a.eqv a := ⟨fun _ => .rfl, fun _ => .rfl, fun _ => .rfl, fun _ => .rfl⟩
theorem Fr.eqv.trans {a b c : Fr} (h : a.eqv b) (g : b.eqv c) : a.eqv c := ⟨fun x => (h.w x).trans (g.w x), fun x => (h.r x).trans (g.r x), fun x => (h.g x).trans (g.g x), fun x => (h.t x).trans (g.t x)⟩
theorem Fr.eqv.symm {a b : Fr} (h : a.eqv b) : b.eqv a := ⟨fun x => (h.w x).symm, fun x => (h.r x).symm, fun x => (h.g x).symm, fun x => (h.t x).symm⟩
theorem Fr.eqv.or {a b c d : Fr} (h : a.eqv b) (g : c.eqv d) : (a.or c).eqv (b.or d) := ⟨fun x => or_congr (h.w x) (g.w x), fun x => or_congr (h.r x) (g.r x), fun x => or_congr (h.g x) (g.g x), fun x => or_congr (h.t x) (g.t x)⟩
theorem Fr.nil_or (a : Fr) : (Fr.nil.or a).eqv a := ⟨fun _ => fals_or _, fun _ => fals_or _, fun _ => fals_or _, fun _ => fals_or _⟩
theorem Fr.or_nil (a : Fr) : (a.or .nil).eqv a := ⟨fun _ => or_fals _, fun _ => or_fals _, fun _ => or_fals _, fun _ => or_fals _⟩
theorem Ss.tcL : ∀ {ss : Ss}, ss.tc = Y.tcL ss.list
  | .nil => rfl
  | .cons s r => by simp only [Ss.tc, Ss.list, Y.tcL, Ss.tcL (ss := r)]
theorem Ps.tcL : ∀ {ss : Ps}, ss.tc = Y.tcL ss.list
  | .nil => rfl
  | .cons _ s r => by simp only [Ps.tc, Ps.list, Y.tcL, Ps.tcL (ss := r)]
theorem As.tcL : ∀ {ss : As}, ss.tc = Y.tcL ss.list
  | .nil => rfl
  | .cons _ _ _ s r => by simp only [As.tc, As.list, Y.tcL, As.tcL (ss := r)]
theorem Sx.tc_parts {s : Sx} : (s.ow.or (tcL s.parts)).eqv s.tc := by
  cases s with
  | skip => exact Fr.nil_or _
  | stop => exact Fr.nil_or _
  | set t e => exact Fr.or_nil _
  | give c e => exact Fr.or_nil _
  | take c t => exact Fr.or_nil _
  | ife e a b => exact (Fr.eqv.refl _).or ((Fr.eqv.refl _).or (Fr.or_nil _))
  | rep e n a => exact (Fr.eqv.refl _).or (Fr.or_nil _)
  | seq ss => exact (Fr.nil_or _).trans (by rw [show (Sx.seq ss).tc = ss.tc from rfl, Ss.tcL]; exact Fr.eqv.refl _)
  | par ss => exact (Fr.nil_or _).trans (by rw [show (Sx.par ss).tc = ss.tc from rfl, Ps.tcL]; exact Fr.eqv.refl _)
  | alt ss => rw [show (Sx.alt ss).tc = ss.ow.or ss.tc from rfl, As.tcL]; exact Fr.eqv.refl _
theorem TcIn.lst {p : Tpl} {l : Tls} {H : Hp} (h : TcIn C p l H) {a : Addr} {xs : List V} (ha : H a = some (.lst xs)) : a ∉ p.all := by
  obtain ⟨_, b, c, d, f, _⟩ := h
  simp only [List.mem_cons, List.not_mem_nil, or_false, not_or]
  exact ⟨ne_knd ha b (by intro z; cases z), ne_knd ha c (by intro z; cases z), ne_knd ha d (by intro z; cases z), ne_knd ha f (by intro z; cases z)⟩
theorem tpl_r {p : Tpl} : ∀ x, x ∈ [p.r] → x ∈ p.all := fun x hx => by rw [List.mem_singleton.mp hx]; exact List.mem_cons_self ..
theorem tpl_w {p : Tpl} : ∀ x, x ∈ [p.w] → x ∈ p.all := fun x hx => by rw [List.mem_singleton.mp hx]; simp
theorem tpl_g {p : Tpl} : ∀ x, x ∈ [p.g] → x ∈ p.all := fun x hx => by rw [List.mem_singleton.mp hx]; simp
theorem tpl_t {p : Tpl} : ∀ x, x ∈ [p.t] → x ∈ p.all := fun x hx => by rw [List.mem_singleton.mp hx]; simp
def sp_ntarget (C : Addr) : Sp := fun vs H Q _ => ∃ (p : Tpl) (l : Tls) (e : Tm) (v : V) (F : Fr), vs = [.ref p.a, v] ∧ TcIn C p l H ∧ l.ok ∧ e.In H v ∧ e.deep ≤ 5 ∧ e.aim F.W F.R ∧ F.in9 ∧
  ∀ (l' : Tls) (H' : Hp), Kp p.all H H' → TcIn C p l' H' → l'.ok → l.gr l' (frT e) → Q .non H'
theorem ok_ntarget (T : Glo K w mg) (W : TchK K C) (D : Dn K mg "note_target" s_note_target p_note_target) (G_cells_of : Cal P w K mg base "cells_of" 1 p_cells_of sp_cellsof) (G_note_expression : Cal P w K mg base "note_expression" 7 p_note_expression (sp_nexpr C 6)) :
    Cal P w K mg base "note_target" 8 p_note_target (sp_ntarget C) := by
  obtain ⟨hcS, nR, nW, nG, nT⟩ := W
  refine D.ok sc_note_target (fun vs H Q E h => ?_) (fun f cdv A outer s H vs Q E hr h => ?_)
  · obtain ⟨_, _, _, _, _, rfl, _⟩ := h
    rfl
  obtain ⟨pt, l, e, v, F, rfl, ht, hl, he, hd, hf, hF, q⟩ := h
  refine ⟨_, (pss_cons (ps_for PassesOwn.never rfl (pi_list (pe_cal G_cells_of (hr.mono (by (first | subst "lev" | fail))) rfl (pa_cons (pv 1) pa_nil))) (pg_name (i := 2) sc_note_target.nd rfl (by first | exact Or.inl rfl | exact Or.inr rfl)) (pss_one (ps_dput (hu_of hr) (pe_fld (pv 0) rfl) (pv 2) pe_bl rfl))) (pss_one (ps_if (pt_cmpR (op_eqA (hu64 hr)) (pe_ix ix_seq (pv 1) pe_int (fun _ _ => rfl)) pe_str (nomark _)) (pss_one (ps_expr (pe_cal G_note_expression (hr.mono (by (first | subst "lev" | fail))) rfl (pa_cons (pv 0) (pa_cons (pe_ix ix_seq (pv 1) pe_int (fun _ _ => rfl)) pa_nil))))) pss_nil))), ?_⟩
  try dsimp only [cxOf, Cx.nox]
  repeat' (first | specialize "st" | fail)
  refine ⟨e, v, F.R, F.W, rfl, he, hf.tgt, .inr hf, fun x hx => hF.w _ (Tm.tw_aim hf hx), fun L H1 hL e1 hL1 => ?_⟩
  refine ⟨L, rfl, ⟨_, sql hL1⟩, ?_⟩
  have nL : L ∉ pt.all := (ht.ex e1).lst hL1
  refine w_list (xs := e.cl.map V.int) (fun i σ H' => ∃ (l' : Tls) (y : Option V), σ = [some (.ref pt.a), some v, y] ∧ Kp pt.all H1 H' ∧ TcIn C pt l' H' ∧ l'.ok ∧ l.gr l' ⟨fun x => x ∈ e.cl.take i, fun _ => False, fun _ => False, fun _ => False⟩) ?_ ?_ ?_ ?_
  · exact ⟨l, none, rfl, Kp.refl _, ht.ex e1, hl, (Tls.gr.refl l).cg ⟨fun x => by simp [Fr.nil], fun _ => .rfl, fun _ => .rfl, fun _ => .rfl⟩⟩
  · rintro i σ H' _ ⟨l', y, rfl, k1, _⟩
    exact sql (k1.out _ _ nL hL1)
  · rintro i x σ H' hx ⟨l', y, rfl, k1, ht', hl', ha⟩
    rw [List.getElem?_map] at hx
    obtain ⟨z, hz, rfl⟩ := Option.map_eq_some_iff.mp hx
    have hzR : 0 ≤ z ∧ z < 900 := hF.w _ (Tm.tw_aim hf ((Tm.cl_mem (.inr hf)).mp (List.mem_of_getElem? hz)))
    obtain ⟨dx, hob⟩ := ht'.fr
    have hlen := hl'.lens.2.1
    repeat' (first | specialize "st" | fail)
    refine q_dputI ht'.w (by rw [keysK_len]; omega) ?_
    intro Hn ku hu
    rw [keysK_put] at hu
    refine ⟨_, _, rfl, k1.trans (ku.sub tpl_w), ht'.putW ku hu, hl'.addW hzR, ⟨fun x => ?_, ha.r, ha.g, ha.t⟩⟩
    rw [List.take_add_one, hz]
    show x ∈ addK l'.w z ↔ _
    rw [addK_mem, ha.w, or_assoc]
    simp
  · rintro σ H' ⟨l', y, rfl, k1, ht', hl', ha⟩
    rw [List.length_map, List.take_length] at ha
    cases e with
    | cell k =>
      obtain ⟨q0, rfl, hq0⟩ := he
      have hq1 : H' q0 = _ := k1.tup _ _ (e1 _ _ hq0)
      repeat' (first | specialize "st" | fail)
      exact q l' H' (e1.kp.trans k1) ht' hl' (ha.cg ⟨fun x => List.mem_singleton, fun _ => .rfl, fun _ => .rfl, fun _ => .rfl⟩)
    | «at» f0 s0 e0 =>
      obtain ⟨q0, x0, rfl, hq0, hx0⟩ := he
      have hq1 : H' q0 = _ := k1.tup _ _ (e1 _ _ hq0)
      repeat' (first | specialize "st" | fail)
      refine ⟨pt, l', e0, x0, F.R, rfl, ht', hl', (tm_ex e1 hx0).up k1.tup, by simp only [Tm.deep] at hd; omega, hf.2.2.2, hF.r, fun l2 H2 k2 ht2 hl2 ha2 => ?_⟩
      repeat' (first | specialize "st" | fail)
      exact q l2 H2 (e1.kp.trans (k1.trans (k2.sub tpl_r))) ht2 hl2 ((ha.trans ha2.gr).cg ⟨fun x => (or_fals _).trans (rgI_mem (by have := hf.1; omega)), fun x => fals_or _, fun _ => or_fals _, fun _ => or_fals _⟩)
    | num _ => exact hf.elim
    | neg _ => exact hf.elim
    | not _ => exact hf.elim
    | bin _ _ _ => exact hf.elim
def sp_nguard (C : Addr) : Sp := fun vs H Q _ => ∃ (p : Tpl) (l : Tls) (e : Option Tm) (v : V) (F : Fr), vs = [.ref p.a, v] ∧ TcIn C p l H ∧ l.ok ∧ gIn H e v ∧ gFit F.R e ∧ F.in9 ∧
  ∀ (l' : Tls) (H' : Hp), Kp p.all H H' → TcIn C p l' H' → l'.ok → l.gr l' (frO e) → Q .non H'
theorem tm_notNon {H : Hp} {e : Tm} {v : V} (h : e.In H v) : ∃ a, v = .ref a := by
  cases e with
  | num _ => obtain ⟨a, e, _⟩ := h; exact ⟨a, e⟩
  | cell _ => obtain ⟨a, e, _⟩ := h; exact ⟨a, e⟩
  | «at» _ _ _ => obtain ⟨a, _, e, _⟩ := h; exact ⟨a, e⟩
  | neg _ => obtain ⟨a, _, e, _⟩ := h; exact ⟨a, e⟩
  | not _ => obtain ⟨a, _, e, _⟩ := h; exact ⟨a, e⟩
  | bin _ _ _ => obtain ⟨a, _, _, e, _⟩ := h; exact ⟨a, e⟩
theorem ok_nguard (T : Glo K w mg) (D : Dn K mg "note_guard" s_note_guard p_note_guard) (G_note_expression : Cal P w K mg base "note_expression" 7 p_note_expression (sp_nexpr C 6)) :
    Cal P w K mg base "note_guard" 8 p_note_guard (sp_nguard C) := by
  refine D.ok sc_note_guard (fun vs H Q E h => ?_) (fun f cdv A outer s H vs Q E hr h => ?_)
  · obtain ⟨_, _, _, _, _, rfl, _⟩ := h
    rfl
  obtain ⟨pt, l, e, v, F, rfl, ht, hl, he, hf, hF, q⟩ := h
  refine ⟨_, (pss_one (ps_if (pt_cmpR op_notN1 (pv 1) pe_non (nomark _)) (pss_one (ps_expr (pe_cal G_note_expression (hr.mono (by (first | subst "lev" | fail))) rfl (pa_cons (pv 0) (pa_cons (pv 1) pa_nil))))) pss_nil)), ?_⟩
  try dsimp only [cxOf, Cx.nox]
  cases e with
  | none =>
    cases he
    repeat' (first | specialize "st" | fail)
    exact q l H (Kp.refl _) ht hl (Tls.gr.refl l)
  | some e =>
    have he : e.In H v := he
    obtain ⟨a, rfl⟩ := tm_notNon he
    repeat' (first | specialize "st" | fail)
    refine ⟨pt, l, e, _, F.R, rfl, ht, hl, he, by have := hf.2; omega, hf.1, hF.r, fun l2 H2 k2 ht2 hl2 ha2 => ?_⟩
    repeat' (first | specialize "st" | fail)
    exact q l2 H2 (k2.sub tpl_r) ht2 hl2 ha2.gr
end
section
variable {C : Addr}
def sp_nstmt (C : Addr) (n : Nat) : Sp := fun vs H Q _ => ∃ (p : Tpl) (l : Tls) (M : List Addr) (s : Sx) (v : V) (F : Fr), vs = [.ref p.a, v] ∧ TcIn C p l H ∧ l.ok ∧ s.In M H v ∧ s.dep ≤ n ∧ s.sz ≤ 50000 ∧ s.fw F ∧ F.in9 ∧
  ∀ (l' : Tls) (H' : Hp), Kp p.all H H' → TcIn C p l' H' → l'.ok → l.gr l' s.tc → Q .non H'
theorem Ss.fw_in {F : Fr} : ∀ {ss : Ss} {x : Sx}, ss.fw F → x ∈ ss.list → x.fw F
  | .cons _ _, _, h, m => (List.mem_cons.mp m).elim (fun e => by rw [e]; exact h.1) (Ss.fw_in h.2)
theorem Ps.fw_in {F : Fr} : ∀ {ss : Ps} {x : Sx}, ss.fw F → x ∈ ss.list → x.fw F
  | .cons _ _ _, _, h, m => (List.mem_cons.mp m).elim (fun e => by rw [e]; exact h.1) (Ps.fw_in h.2)
theorem As.fw_in {F : Fr} : ∀ {ss : As} {x : Sx}, ss.fw F → x ∈ ss.list → x.fw F
  | .cons _ _ _ _ _, _, h, m => (List.mem_cons.mp m).elim (fun e => by rw [e]; exact h.2.2.2.2.1) (As.fw_in h.2.2.2.2.2)
theorem Sx.fw_in {F : Fr} {s x : Sx} (h : s.fw F) (m : x ∈ s.parts) : x.fw F := by
  cases s with
  | ife e a b =>
    simp only [Sx.parts, List.mem_cons, List.not_mem_nil, or_false] at m
    rcases m with rfl | rfl
    · exact h.2.2.1
    · exact h.2.2.2
  | rep e n a =>
    simp only [Sx.parts, List.mem_cons, List.not_mem_nil, or_false] at m
    rw [m]
    exact h.2.2.2.2
  | seq ss => exact Ss.fw_in h m
  | par ss => exact Ps.fw_in h m
  | alt ss => exact As.fw_in h m
  | _ => cases m
theorem tcL_take {ss : List Sx} {i : Nat} {s : Sx} (h : ss[i]? = some s) : ((tcL (ss.take i)).or s.tc).eqv (tcL (ss.take (i + 1))) := by
  induction ss generalizing i with
  | nil => cases h
  | cons x ss ih =>
    cases i with
    | zero =>
      simp at h
      subst h
      show (Fr.nil.or x.tc).eqv (x.tc.or (tcL (ss.take 0)))
      exact (Fr.nil_or _).trans (Fr.or_nil _).symm
    | succ i =>
      have h' : ss[i]? = some s := by simpa using h
      refine Fr.eqv.trans ?_ ((Fr.eqv.refl x.tc).or (ih h'))
      exact ⟨fun _ => or_assoc, fun _ => or_assoc, fun _ => or_assoc, fun _ => or_assoc⟩
def As.rows : As → List (Option Tm × Int × Tm)
  | .nil => []
  | .cons g c t _ r => (g, c, t) :: r.rows
def owL : List (Option Tm × Int × Tm) → Fr
  | [] => .nil
  | (g, c, t) :: r => (((frC c).or (frO g)).or (frT t)).or (owL r)
theorem As.ow_rows : ∀ {rs : As}, rs.ow = owL rs.rows
  | .nil => rfl
  | .cons _ _ _ _ r => by simp only [As.ow, As.rows, owL, As.ow_rows (rs := r)]
theorem owL_take {rs : List (Option Tm × Int × Tm)} {i : Nat} {x : Option Tm × Int × Tm} (h : rs[i]? = some x) : ((owL (rs.take i)).or (((frC x.2.1).or (frO x.1)).or (frT x.2.2))).eqv (owL (rs.take (i + 1))) := by
  induction rs generalizing i with
  | nil => cases h
  | cons y rs ih =>
    cases i with
    | zero =>
      simp at h
      subst h
      exact (Fr.nil_or _).trans (Fr.or_nil _).symm
    | succ i =>
      have h' : rs[i]? = some x := by simpa using h
      refine Fr.eqv.trans ?_ ((Fr.eqv.refl _).or (ih h'))
      exact ⟨fun _ => or_assoc, fun _ => or_assoc, fun _ => or_assoc, fun _ => or_assoc⟩
theorem As.in_row {M : List Addr} {H : Hp} {F : Fr} : ∀ {rs : As} {xs : List V} {i : Nat} {v : V}, rs.In M H xs → rs.fw F → xs[i]? = some v →
    ∃ q u g c t y x, v = .ref q ∧ H q = some (.tup [u, .int c, y, x]) ∧ rs.rows[i]? = some (g, c, t) ∧ gIn H g u ∧ t.In H y ∧ gFit F.R g ∧ F.T c ∧ t.aim F.W F.R ∧ t.deep ≤ 5
  | .nil, _, _, _, h, _, e => by cases h; simp at e
  | .cons g c t s r, _, i, v, ⟨q, u, y, x, ys, e0, h, hg, ht, a, b⟩, hf, e => by
    subst e0
    cases i with
    | zero =>
      simp at e
      subst e
      exact ⟨q, u, g, c, t, y, x, rfl, h, rfl, hg, ht, hf.1, hf.2.1, hf.2.2.1, hf.2.2.2.1⟩
    | succ i => exact As.in_row (i := i) b hf.2.2.2.2.2 (by simpa using e)
theorem As.rows_len {M : List Addr} {H : Hp} : ∀ {rs : As} {xs : List V}, rs.In M H xs → rs.rows.length = xs.length
  | .nil, _, h => by cases h; rfl
  | .cons _ _ _ _ _, _, ⟨_, _, _, _, _, e0, _, _, _, _, b⟩ => by subst e0; simp only [As.rows, List.length_cons, As.rows_len b]
theorem gr_G (l : Tls) (c : Int) : l.gr { l with g := addK l.g c } (frG c) := ⟨fun _ => or_f, fun _ => or_f, fun _ => addK_mem, fun _ => or_f⟩
theorem gr_T (l : Tls) (c : Int) : l.gr { l with t := addK l.t c } (frC c) := ⟨fun _ => or_f, fun _ => or_f, fun _ => or_f, fun _ => addK_mem⟩
/-- the loop over the parts, as the walk leaves it -/
def nLoop (K : PySem.W.Frag) (C : Addr) (n : Nat) (Q : VK) (v : V) (σ : L2.St) (H : Hp) : Prop :=
  sp_partsV [v] H (fun x H1 => ∃ a, x = V.ref a ∧ (∃ xs, SqL K H1 a xs) ∧ ∃ W : Nat → Nat → L2.St → Hp → Prop, (∃ m, W 0 m σ H1) ∧ ∀ (i m : Nat) (σ : L2.St) (H : Hp), W i m σ H →
    (Itl K a).stop i H ∧ Q V.non H ∨ (Itl K a).go i H ∧ ∃ N : L2.St → Hp → Prop, (∀ (σ' : L2.St) (H' : Hp), N σ' H' → ∃ m', m' < m ∧ W (i + 1) m' σ' H') ∧ ∀ (x : V) (H' : Hp), (Itl K a).yld i H x H' →
      gName 3 x σ H' fun σ2 H2 => tDrop (tCall (sp_nstmt C n) [] E0 (tCons (tVar 0) (tCons (tVar 3) tNil))) { nx := N, rt := Q, bk := fun x H' => Q V.non H', ct := N } σ2 H2) E0
theorem ok_nstmt (T : Glo K w mg) (W : TchK K C) (D : Dn K mg "note_statement" s_note_statement p_note_statement) (n : Nat) (hn7 : 8 ≤ 8 + n) (G_parts_of : Cal P w K mg base "parts_of" 1 p_parts_of sp_partsV) (G_note_expression : Cal P w K mg base "note_expression" 7 p_note_expression (sp_nexpr C 6))
    (G_note_target : Cal P w K mg base "note_target" 8 p_note_target (sp_ntarget C)) (G_note_guard : Cal P w K mg base "note_guard" 8 p_note_guard (sp_nguard C)) (G_note_statement : Cal P w K mg base "note_statement" (8 + n) p_note_statement (sp_nstmt C n)) :
    Cal P w K mg base "note_statement" (8 + n + 1) p_note_statement (sp_nstmt C (n + 1)) := by
  obtain ⟨hcS, nR, nW, nG, nT⟩ := W
  refine D.ok sc_note_statement (fun vs H Q E h => ?_) (fun f cdv A outer s H vs Q E hr h => ?_)
  · obtain ⟨_, _, _, _, _, _, rfl, _⟩ := h
    rfl
  obtain ⟨pt, l, M, s0, v, F, rfl, ht, hl, hs, hd, hz, hf, hF, q⟩ := h
  refine ⟨_, (pss_cons (ps_set (i := 2) sc_note_statement.nd rfl (by first | exact Or.inl rfl | exact Or.inr rfl) (pe_ix ix_seq (pv 1) pe_int (fun _ _ => rfl))) (pss_cons (ps_if (pt_cmpR (op_eqA (hu64 hr)) (pv 2) pe_str (nomark _)) (pss_cons (ps_expr (pe_cal G_note_target (hr.mono (by (first | subst "lev" | fail))) rfl (pa_cons (pv 0) (pa_cons (pe_ix ix_seq (pv 1) pe_int (fun _ _ => rfl)) pa_nil)))) (pss_one (ps_expr (pe_cal G_note_expression (hr.mono (by (first | subst "lev" | fail))) rfl (pa_cons (pv 0) (pa_cons (pe_ix ix_seq (pv 1) pe_int (fun _ _ => rfl)) pa_nil)))))) (pss_one (ps_if (pt_cmpR (op_eqA (hu64 hr)) (pv 2) pe_str (nomark _)) (pss_cons (ps_dput (hu_of hr) (pe_fld (pv 0) rfl) (pe_ix ix_seq (pv 1) pe_int (fun _ _ => rfl)) pe_bl rfl) (pss_one (ps_expr (pe_cal G_note_expression (hr.mono (by (first | subst "lev" | fail))) rfl (pa_cons (pv 0) (pa_cons (pe_ix ix_seq (pv 1) pe_int (fun _ _ => rfl)) pa_nil)))))) (pss_one (ps_if (pt_cmpR (op_eqA (hu64 hr)) (pv 2) pe_str (nomark _)) (pss_cons (ps_dput (hu_of hr) (pe_fld (pv 0) rfl) (pe_ix ix_seq (pv 1) pe_int (fun _ _ => rfl)) pe_bl rfl) (pss_one (ps_expr (pe_cal G_note_target (hr.mono (by (first | subst "lev" | fail))) rfl (pa_cons (pv 0) (pa_cons (pe_ix ix_seq (pv 1) pe_int (fun _ _ => rfl)) pa_nil)))))) (pss_one (ps_if (pt_cmpR (op_eqA (hu64 hr)) (pv 2) pe_str (nomark _)) (pss_one (ps_for PassesOwn.never rfl (pi_list (pe_ix ix_seq (pv 1) pe_int (fun _ _ => rfl))) (pg_tup rfl (pgs_cons (pg_name (i := 4) sc_note_statement.nd rfl (by first | exact Or.inl rfl | exact Or.inr rfl)) (pgs_cons (pg_name (i := 5) sc_note_statement.nd rfl (by first | exact Or.inl rfl | exact Or.inr rfl)) (pgs_cons (pg_name (i := 6) sc_note_statement.nd rfl (by first | exact Or.inl rfl | exact Or.inr rfl)) (pgs_cons (pg_name (i := 7) sc_note_statement.nd rfl (by first | exact Or.inl rfl | exact Or.inr rfl)) pgs_nil))))) (pss_cons (ps_dput (hu_of hr) (pe_fld (pv 0) rfl) (pv 5) pe_bl rfl) (pss_cons (ps_expr (pe_cal G_note_guard (hr.mono (by (first | subst "lev" | fail))) rfl (pa_cons (pv 0) (pa_cons (pv 4) pa_nil)))) (pss_one (ps_expr (pe_cal G_note_target (hr.mono (by (first | subst "lev" | fail))) rfl (pa_cons (pv 0) (pa_cons (pv 6) pa_nil))))))))) (pss_one (ps_if (PW.pt (pw_or (pt_cmpR (op_eqA (hu64 hr)) (pv 2) pe_str (nomark _)) (pw_or1 (pt_cmpR (op_eqA (hu64 hr)) (pv 2) pe_str (nomark _))))) (pss_one (ps_expr (pe_cal G_note_expression (hr.mono (by (first | subst "lev" | fail))) rfl (pa_cons (pv 0) (pa_cons (pe_ix ix_seq (pv 1) pe_int (fun _ _ => rfl)) pa_nil))))) pss_nil))))))))) (pss_one (ps_for PassesOwn.never rfl (pi_list (pe_cal G_parts_of (hr.mono (by (first | subst "lev" | fail))) rfl (pa_cons (pv 1) pa_nil))) (pg_name (i := 3) sc_note_statement.nd rfl (by first | exact Or.inl rfl | exact Or.inr rfl)) (pss_one (ps_expr (pe_cal G_note_statement (hr.mono (by (first | subst "lev" | fail))) rfl (pa_cons (pv 0) (pa_cons (pv 3) pa_nil))))))))), ?_⟩
  try dsimp only [cxOf, Cx.nox]
  have hsA : s0.In pt.all H v := hs.to fun a xs ha _ => ht.lst ha
  have hsz := s0.szL
  have hsl := szL_len (l := s0.parts)
  have key : ∀ (l1 : Tls) (H1 : Hp) (kd : Str) (y4 y5 y6 y7 : Option V), Kp pt.all H H1 → TcIn C pt l1 H1 → l1.ok → l.gr l1 s0.ow →
      nLoop K C n Q v [some (.ref pt.a), some v, some (.str kd), none, y4, y5, y6, y7] H1 := by
    intro l1 H1 kd y4 y5 y6 y7 k1 ht1 hl1 g1
    have hs1 := hsA.kp k1
    obtain ⟨pl, hpv, hpl⟩ := hs1.pv
    have hlen := Paired.length hpl
    refine ⟨pt.all, s0, v, pl, rfl, hs1, hpv, by omega, fun L H2 hL e2 _ => ?_⟩
    refine ⟨L, rfl, ⟨pl, sql hL⟩, ?_⟩
    have ht2 := ht1.ex e2
    have nL : L ∉ pt.all := ht2.lst hL
    refine w_list (xs := pl) (fun i σ H3 => ∃ (l2 : Tls) (y : Option V), σ = [some (.ref pt.a), some v, some (.str kd), y, y4, y5, y6, y7] ∧ Kp pt.all H2 H3 ∧ TcIn C pt l2 H3 ∧ l2.ok ∧ l1.gr l2 (tcL (s0.parts.take i))) ?_ ?_ ?_ ?_
    · exact ⟨l1, none, rfl, Kp.refl _, ht2, hl1, Tls.gr.refl l1⟩
    · rintro i σ H3 _ ⟨l2, y, rfl, k3, _⟩
      exact sql (k3.out _ _ nL hL)
    · rintro i x σ H3 hx ⟨l2, y, rfl, k3, ht3, hl3, g3⟩
      obtain ⟨s1, hs1, hi⟩ := paired_at hpl hx
      have hmem : s1 ∈ s0.parts := List.mem_of_getElem? hs1
      have hdp := Sx.dep_in hmem
      have hs1z := szL_mem hmem
      repeat' (first | specialize "st" | fail)
      refine ⟨pt, l2, pt.all, s1, x, F, rfl, ht3, hl3, (hi.kp (M := pt.all) e2.kp).kp k3, by omega, by omega, Sx.fw_in hf hmem, hF, fun l4 H4 k4 ht4 hl4 g4 => ?_⟩
      repeat' (first | specialize "st" | fail)
      exact ⟨l4, _, rfl, k3.trans k4, ht4, hl4, (g3.trans g4).cg (tcL_take hs1)⟩
    · rintro σ H3 ⟨l2, y, rfl, k3, ht3, hl3, g3⟩
      rw [hlen, List.take_length] at g3
      exact q l2 H3 (k1.trans (e2.kp.trans k3)) ht3 hl3 ((g1.trans g3).cg Sx.tc_parts)
  cases s0 with
  | skip =>
    obtain ⟨q0, rfl, hq0⟩ := hs
    repeat' (first | specialize "st" | fail)
    exact key l H _ _ _ _ _ (Kp.refl _) ht hl (Tls.gr.refl l)
  | stop =>
    obtain ⟨q0, rfl, hq0⟩ := hs
    repeat' (first | specialize "st" | fail)
    exact key l H _ _ _ _ _ (Kp.refl _) ht hl (Tls.gr.refl l)
  | seq ss =>
    obtain ⟨q0, _, _, rfl, hq0, _⟩ := hs
    repeat' (first | specialize "st" | fail)
    exact key l H _ _ _ _ _ (Kp.refl _) ht hl (Tls.gr.refl l)
  | par ss =>
    obtain ⟨q0, _, _, rfl, hq0, _⟩ := hs
    repeat' (first | specialize "st" | fail)
    exact key l H _ _ _ _ _ (Kp.refl _) ht hl (Tls.gr.refl l)
  | set t e =>
    obtain ⟨q0, x, y, rfl, hq0, hx, hy⟩ := hs
    repeat' (first | specialize "st" | fail)
    refine ⟨pt, l, t, x, F, rfl, ht, hl, hx, hf.2.1, hf.1, hF, fun l1 H1 k1 ht1 hl1 g1 => ?_⟩
    have hq1 : H1 q0 = _ := k1.tup _ _ hq0
    repeat' (first | specialize "st" | fail)
    refine ⟨pt, l1, e, y, F.R, rfl, ht1, hl1, hy.up k1.tup, hf.2.2.2.le6, hf.2.2.1, hF.r, fun l2 H2 k2 ht2 hl2 g2 => ?_⟩
    repeat' (first | specialize "st" | fail)
    exact key l2 H2 _ _ _ _ _ (k1.trans (k2.sub tpl_r)) ht2 hl2 (g1.trans g2.gr)
  | give c e =>
    obtain ⟨q0, x, rfl, hq0, hx⟩ := hs
    obtain ⟨dx, hob⟩ := ht.fr
    have hlen := hl.lens.2.2.1
    repeat' (first | specialize "st" | fail)
    refine q_dputI ht.g (by rw [keysK_len]; omega) ?_
    intro Hn ku hu
    rw [keysK_put] at hu
    have hq1 : Hn q0 = _ := ku.tup _ _ hq0
    have htn := ht.putG ku hu
    repeat' (first | specialize "st" | fail)
    refine ⟨pt, _, e, x, F.R, rfl, htn, hl.addG (hF.g _ hf.1), hx.up ku.tup, Nat.le_succ_of_le hf.2.2, hf.2.1, hF.r, fun l2 H2 k2 ht2 hl2 g2 => ?_⟩
    repeat' (first | specialize "st" | fail)
    exact key l2 H2 _ _ _ _ _ ((ku.sub tpl_g).trans (k2.sub tpl_r)) ht2 hl2 ((gr_G l c).trans g2.gr)
  | take c t =>
    obtain ⟨q0, x, rfl, hq0, hx⟩ := hs
    obtain ⟨dx, hob⟩ := ht.fr
    have hlen := hl.lens.2.2.2
    repeat' (first | specialize "st" | fail)
    refine q_dputI ht.t (by rw [keysK_len]; omega) ?_
    intro Hn ku hu
    rw [keysK_put] at hu
    have hq1 : Hn q0 = _ := ku.tup _ _ hq0
    have htn := ht.putT ku hu
    repeat' (first | specialize "st" | fail)
    refine ⟨pt, _, t, x, F, rfl, htn, hl.addT (hF.t _ hf.1), hx.up ku.tup, hf.2.2, hf.2.1, hF, fun l2 H2 k2 ht2 hl2 g2 => ?_⟩
    repeat' (first | specialize "st" | fail)
    exact key l2 H2 _ _ _ _ _ ((ku.sub tpl_t).trans k2) ht2 hl2 ((gr_T l c).trans g2)
  | ife e a b =>
    obtain ⟨q0, x, y, z, rfl, hq0, hx, _⟩ := hs
    repeat' (first | specialize "st" | fail)
    refine ⟨pt, l, e, x, F.R, rfl, ht, hl, hx, Nat.le_succ_of_le hf.2.1, hf.1, hF.r, fun l2 H2 k2 ht2 hl2 g2 => ?_⟩
    repeat' (first | specialize "st" | fail)
    exact key l2 H2 _ _ _ _ _ (k2.sub tpl_r) ht2 hl2 g2.gr
  | rep e m a =>
    obtain ⟨q0, x, y, rfl, hq0, hx, _⟩ := hs
    repeat' (first | specialize "st" | fail)
    refine ⟨pt, l, e, x, F.R, rfl, ht, hl, hx, Nat.le_succ_of_le hf.2.1, hf.1, hF.r, fun l2 H2 k2 ht2 hl2 g2 => ?_⟩
    repeat' (first | specialize "st" | fail)
    exact key l2 H2 _ _ _ _ _ (k2.sub tpl_r) ht2 hl2 g2.gr
  | alt rs =>
    obtain ⟨q0, l0, xs, rfl, hq0, hl0, _, hrs⟩ := hs
    have hrl := As.rows_len hrs
    have nl0 : l0 ∉ pt.all := ht.lst hl0
    repeat' (first | specialize "st" | fail)
    refine w_list (xs := xs) (fun i σ H3 => ∃ (l2 : Tls) (y4 y5 y6 y7 : Option V), σ = [some (.ref pt.a), some (.ref q0), some (.str "alt"), none, y4, y5, y6, y7] ∧ Kp pt.all H H3 ∧ TcIn C pt l2 H3 ∧ l2.ok ∧ l.gr l2 (owL (rs.rows.take i))) ?_ ?_ ?_ ?_
    · exact ⟨l, none, none, none, none, rfl, Kp.refl _, ht, hl, Tls.gr.refl l⟩
    · rintro i σ H3 _ ⟨l2, y4, y5, y6, y7, rfl, k3, _⟩
      exact sql (k3.out _ _ nl0 hl0)
    · rintro i x σ H3 hx ⟨l2, y4, y5, y6, y7, rfl, k3, ht3, hl3, g3⟩
      obtain ⟨q1, u, g, c, t, y, z, rfl, hq1, hrow, hg, hty, hgf, hcT, hta, htd⟩ := As.in_row hrs hf hx
      have hq3 : H3 q1 = _ := k3.tup _ _ hq1
      obtain ⟨dx, hob⟩ := ht3.fr
      have hlen := hl3.lens.2.2.2
      repeat' (first | specialize "st" | fail)
      refine q_dputI ht3.t (by rw [keysK_len]; omega) ?_
      intro Hn ku hu
      rw [keysK_put] at hu
      have htn := ht3.putT ku hu
      repeat' (first | specialize "st" | fail)
      refine ⟨pt, _, g, u, F, rfl, htn, hl3.addT (hF.t _ hcT), (hg.up k3.tup).up ku.tup, hgf, hF, fun l4 H4 k4 ht4 hl4 g4 => ?_⟩
      repeat' (first | specialize "st" | fail)
      refine ⟨pt, l4, t, y, F, rfl, ht4, hl4, ((hty.up k3.tup).up ku.tup).up k4.tup, htd, hta, hF, fun l5 H5 k5 ht5 hl5 g5 => ?_⟩
      repeat' (first | specialize "st" | fail)
      refine ⟨l5, _, _, _, _, rfl, k3.trans ((ku.sub tpl_t).trans (k4.trans k5)), ht5, hl5, ?_⟩
      exact (g3.trans (((gr_T l2 c).trans g4).trans g5)).cg (owL_take hrow)
    · rintro σ H3 ⟨l2, y4, y5, y6, y7, rfl, k3, ht3, hl3, g3⟩
      rw [← hrl, List.take_length, ← As.ow_rows] at g3
      repeat' (first | specialize "st" | fail)
      exact key l2 H3 _ _ _ _ _ k3 ht3 hl3 g3
/-- a new one, empty -/
def sp_tinit (C : Addr) : Sp := fun vs H Q _ => ∃ (a dx : Addr), vs = [.ref a] ∧ H a = some (.ins C dx []) ∧ ∀ (p : Tpl) (H' : Hp), p.a = a → Kp [a] H H' → (∀ x ∈ p.all, H x = none) → TcIn C p ⟨[], [], [], []⟩ H' → Q .non H'
theorem ok_tinit (T : Glo K w mg) (W : TchK K C) (D : DnI K mg "Touch" "Touch.__init__" C s_Touch___init__ p_Touch___init__) : MakC P w K mg base "Touch" C 1 p_Touch___init__ (sp_tinit C) := by
  obtain ⟨hcS, nR, nW, nG, nT⟩ := W
  refine D.ok sc_Touch___init__ (fun vs H Q E h => ?_) (fun f cdv A outer s H vs Q E hr h => ?_)
  · obtain ⟨_, _, rfl, _⟩ := h
    rfl
  obtain ⟨a, dx, rfl, ha, q⟩ := h
  refine ⟨_, (pss_cons (ps_fld (pv 0) pe_dnewK rfl) (pss_cons (ps_fld (pv 0) pe_dnewK rfl) (pss_cons (ps_fld (pv 0) pe_dnewK rfl) (pss_one (ps_fld (pv 0) pe_dnewK rfl))))), ?_⟩
  try dsimp only [cxOf, Cx.nox]
  repeat' (first | specialize "st" | fail)
  rename_i r H1 hr1 e1 hn1 H2 ku1 hu1 w H3 hw3 e3 hn3 H4 ku3 hu3 g H5 hg5 e5 hn5 H6 ku5 hu5 H7
  have nr : r ∉ [a] := fun z => by rw [List.mem_singleton.mp z, ha] at hr1; cases hr1
  have a2 : H2 a ≠ none := fsome hu1
  have nw : w ∉ [a] := fun z => by rw [List.mem_singleton.mp z] at hw3; exact a2 hw3
  have ng : g ∉ [a] := fun z => by rw [List.mem_singleton.mp z] at hg5; exact fsome hu3 hg5
  have nt : p ∉ [a] := fun z => by rw [List.mem_singleton.mp z] at hp; exact fsome hu5 hp
  have r2 : H2 r = some (.dK (keysK [])) := ku1.out _ _ nr hn1
  have r4 : H4 r = some (.dK (keysK [])) := ku3.out _ _ nr (e3 _ _ r2)
  have r6 : H6 r = some (.dK (keysK [])) := ku5.out _ _ nr (e5 _ _ r4)
  have rN : Hn r = some (.dK (keysK [])) := ku.out _ _ nr (ke _ _ r6)
  have w4 : H4 w = some (.dK (keysK [])) := ku3.out _ _ nw hn3
  have w6 : H6 w = some (.dK (keysK [])) := ku5.out _ _ nw (e5 _ _ w4)
  have wN : Hn w = some (.dK (keysK [])) := ku.out _ _ nw (ke _ _ w6)
  have g6 : H6 g = some (.dK (keysK [])) := ku5.out _ _ ng hn5
  have gN : Hn g = some (.dK (keysK [])) := ku.out _ _ ng (ke _ _ g6)
  have tN : Hn p = some (.dK (keysK [])) := ku.out _ _ nt hn
  have back : ∀ {x : Addr} {G G' : Hp}, x ∉ [a] → Kp [a] G G' → G' x = none → G x = none := fun {x G G'} n k h => by
    cases h1 : G x with
    | none => rfl
    | some o => rw [k.out _ _ n h1] at h; cases h
  have hw0 : H w = none := free_back e1 (back nw ku1 hw3)
  have hg0 : H g = none := free_back e1 (back ng ku1 (free_back e3 (back ng ku3 hg5)))
  have ht0 : H p = none := free_back e1 (back nt ku1 (free_back e3 (back nt ku3 (free_back e5 (back nt ku5 hp)))))
  refine q ⟨a, r, w, g, p⟩ _ rfl (e1.kp.trans (ku1.trans (e3.kp.trans (ku3.trans (e5.kp.trans (ku5.trans (ke.kp.trans ku))))))) (fun x hx => ?_) ⟨⟨dx, hu⟩, rN, wN, gN, tN, ne_of_none r2 hw3, ne_of_none r4 hg5, ne_of_none r6 hp, ne_of_none w4 hg5, ne_of_none w6 hp, ne_of_none g6 hp⟩
  simp only [List.mem_cons, List.not_mem_nil, or_false] at hx
  rcases hx with rfl | rfl | rfl | rfl
  · exact hr1
  · exact hw0
  · exact hg0
  · exact ht0
end
theorem pe_mkC0 {X : Cx} {x : Str} {C : Addr} {k : Nat} {ps : List Str} {sp : Sp} {p pos : Pos} (G : MakC X.prog X.w X.K X.mg X.base x C k ps sp) (hr : Room (k + 1) X.A) (hg : Gl X x)
    (hdb : (x == ("__debug__" : Str)) = false := by decide) : PE X (.Call (.Name x p) [] [] pos) (tMake C sp [] E0 tNil) := by
  obtain ⟨f, fd, mk, F, m, b⟩ := G
  exact pe_make0 mk F hr hg m b .nil pass0 hdb
section
variable {C : Addr}
/-- ascending, each once -/
def Asc (l : List Int) : Prop := l.Pairwise (· < ·)
theorem asc_of {l ks : List Int} (p : l.Perm ks) (s : l.Pairwise (· ≤ ·)) (n : ks.Nodup) : Asc l := by
  have nl : l.Nodup := p.nodup_iff.mpr n
  induction l generalizing ks with
  | nil => exact List.Pairwise.nil
  | cons x l ih =>
    obtain ⟨s1, s2⟩ := List.pairwise_cons.mp s
    obtain ⟨n1, n2⟩ := List.nodup_cons.mp nl
    refine List.pairwise_cons.mpr ⟨fun y hy => ?_, ih (List.Perm.refl l) s2 n2 n2⟩
    have := s1 y hy
    have : x ≠ y := fun z => n1 (z ▸ hy)
    omega
theorem asc_ext : ∀ {a b : List Int}, Asc a → Asc b → (∀ x, x ∈ a ↔ x ∈ b) → a = b
  | [], [], _, _, _ => rfl
  | [], y :: b, _, _, h => absurd ((h y).mpr (List.mem_cons_self ..)) List.not_mem_nil
  | x :: a, [], _, _, h => absurd ((h x).mp (List.mem_cons_self ..)) List.not_mem_nil
  | x :: a, y :: b, ha, hb, h => by
    obtain ⟨a1, a2⟩ := List.pairwise_cons.mp ha
    obtain ⟨b1, b2⟩ := List.pairwise_cons.mp hb
    have hx := (h x).mp (List.mem_cons_self ..)
    have hy := (h y).mpr (List.mem_cons_self ..)
    have e : x = y := by
      rcases List.mem_cons.mp hx with e | hx
      · exact e
      · rcases List.mem_cons.mp hy with e | hy
        · exact e.symm
        · have := a1 y hy
          have := b1 x hx
          omega
    subst e
    rw [asc_ext a2 b2 fun z => ?_]
    constructor
    · intro hz
      rcases List.mem_cons.mp ((h z).mp (List.mem_cons_of_mem _ hz)) with e | q
      · have := a1 z hz
        omega
      · exact q
    · intro hz
      rcases List.mem_cons.mp ((h z).mpr (List.mem_cons_of_mem _ hz)) with e | q
      · have := b1 z hz
        omega
      · exact q
theorem q_sortDN {H : Hp} {Q : VK} {a : Addr} {r : List Int} (h : H a = some (.dK (keysK r))) (nd : r.Nodup) (hl : r.length ≤ 900) (q : ∀ (l : List Int) (p : Addr) (Hn : Hp), Asc l → (∀ x, x ∈ l ↔ x ∈ r) → H p = none → Ex H Hn → Hn p = some (.lst (l.map V.int)) → Q (.ref p) Hn) : rSortedDN [.ref a] H Q :=
  ⟨a, keysK r, r, rfl, .inl h, keysK_keys r, by omega, fun ys p hp hs hn => q ys p _ (asc_of hp hs nd) (fun _ => hp.mem_iff) hn (Ex.mk hn rfl) upd_same⟩
/-- four ascending lists, new -/
def sp_touched (n : Nat) : Sp := fun vs H Q _ => ∃ (M : List Addr) (s : Sx) (v : V) (F : Fr), vs = [v] ∧ s.In M H v ∧ s.dep ≤ n ∧ s.sz ≤ 50000 ∧ s.fw F ∧ F.in9 ∧
  ∀ (q a b c d : Addr) (r w g t : List Int) (H' : Hp), Ex H H' → H' q = some (.tup [.ref a, .ref b, .ref c, .ref d]) → H a = none → H b = none → H c = none → H d = none → [a, b, c, d].Nodup → H' a = some (.lst (r.map V.int)) → H' b = some (.lst (w.map V.int)) → H' c = some (.lst (g.map V.int)) → H' d = some (.lst (t.map V.int)) →
    Asc r → Asc w → Asc g → Asc t → (∀ x, x ∈ r ↔ s.tc.R x) → (∀ x, x ∈ w ↔ s.tc.W x) → (∀ x, x ∈ g ↔ s.tc.G x) → (∀ x, x ∈ t ↔ s.tc.T x) → Q (.ref q) H'
theorem q_makT {H : Hp} {Q : VK} (q : ∀ (p : Tpl) (H' : Hp), Ex H H' → H p.a = none → (∀ x ∈ p.all, H x = none) → TcIn C p ⟨[], [], [], []⟩ H' → Q (.ref p.a) H') : makK C (sp_tinit C) Q [] H := by
  intro x dx nx ndx ne
  refine ⟨x, dx, rfl, upd_same, fun p H' e k f t => ⟨rfl, ?_⟩⟩
  subst e
  have old : Ex H H' := fun b u hb => k.out _ _ (nin_c (ne_of_none hb nx) List.not_mem_nil) (by rw [upd_ne (ne_of_none hb nx), upd_ne (ne_of_none hb ndx)]; exact hb)
  exact q p H' old nx (fun y hy => free_back (fun b u hb => by rw [upd_ne (ne_of_none hb nx), upd_ne (ne_of_none hb ndx)]; exact hb) (f y hy)) t
theorem ok_touched (T : Glo K w mg) (W : TchK K C) (D : Dn K mg "touched" s_touched p_touched) (n : Nat) (M_Touch : MakC P w K mg base "Touch" C 1 p_Touch___init__ (sp_tinit C)) (G_note_statement : Cal P w K mg base "note_statement" (8 + n) p_note_statement (sp_nstmt C n)) :
    Cal P w K mg base "touched" (8 + n + 1) p_touched (sp_touched n) := by
  obtain ⟨hcS, nR, nW, nG, nT⟩ := W
  refine D.ok sc_touched (fun vs H Q E h => ?_) (fun f cdv A outer s H vs Q E hr h => ?_)
  · obtain ⟨_, _, _, _, rfl, _⟩ := h
    rfl
  obtain ⟨M, s0, v, F, rfl, hs, hd, hz, hf, hF, q⟩ := h
  refine ⟨_, (pss_cons (ps_set (i := 1) sc_touched.nd rfl (by first | exact Or.inl rfl | exact Or.inr rfl) (pe_mkC0 M_Touch (hr.mono (by (first | subst "lev" | fail))) rfl)) (pss_cons (ps_expr (pe_cal G_note_statement (hr.mono (by (first | subst "lev" | fail))) rfl (pa_cons (pv 1) (pa_cons (pv 0) pa_nil)))) (pss_one (ps_ret (pe_tup (pa_cons (pe_callB (call_sortedDN rfl) rfl T.n_sorted (by decide +kernel) (pa_cons (pe_fld (pv 1) rfl) pa_nil)) (pa_cons (pe_callB (call_sortedDN rfl) rfl T.n_sorted (by decide +kernel) (pa_cons (pe_fld (pv 1) rfl) pa_nil)) (pa_cons (pe_callB (call_sortedDN rfl) rfl T.n_sorted (by decide +kernel) (pa_cons (pe_fld (pv 1) rfl) pa_nil)) (pa_cons (pe_callB (call_sortedDN rfl) rfl T.n_sorted (by decide +kernel) (pa_cons (pe_fld (pv 1) rfl) pa_nil)) pa_nil))))))))), ?_⟩
  try dsimp only [cxOf, Cx.nox]
  repeat' (first | specialize "st" | fail)
  refine q_makT fun pt H1 e1 na nall ht1 => ?_
  obtain ⟨dx, hob⟩ := ht1.fr
  repeat' (first | specialize "st" | fail)
  refine ⟨pt, _, M, s0, v, F, rfl, ht1, ⟨List.nodup_nil, List.nodup_nil, List.nodup_nil, List.nodup_nil, fun _ h => absurd h List.not_mem_nil, fun _ h => absurd h List.not_mem_nil, fun _ h => absurd h List.not_mem_nil, fun _ h => absurd h List.not_mem_nil⟩, hs.kp (M := M) e1.kp, hd, hz, hf, hF, fun l2 H2 k2 ht2 hl2 g2 => ?_⟩
  have e2 : Ex H H2 := fun b u hb => k2.out _ _ (fun z => by rw [nall b z] at hb; cases hb) (e1 _ _ hb)
  obtain ⟨dx2, hob2⟩ := ht2.fr
  have hlen := hl2.lens
  clear ht1 hob k2
  repeat' (first | specialize "st" | fail)
  refine q_sortDN ht2.r hl2.nr hlen.1 fun r a H3 ar mr ha e3 hr3 => ?_
  have ht3 := ht2.ex e3
  have ho3 := e3 _ _ hob2
  repeat' (first | specialize "st" | fail)
  refine q_sortDN ht3.w hl2.nw hlen.2.1 fun w b H4 aw mw hb e4 hw4 => ?_
  have ht4 := ht3.ex e4
  have ho4 := e4 _ _ ho3
  repeat' (first | specialize "st" | fail)
  refine q_sortDN ht4.g hl2.ng hlen.2.2.1 fun g c H5 ag mg2 hc e5 hg5 => ?_
  have ht5 := ht4.ex e5
  have ho5 := e5 _ _ ho4
  repeat' (first | specialize "st" | fail)
  refine q_sortDN ht5.t hl2.nt hlen.2.2.2 fun t d H6 at2 mt hd6 e6 ht6 => ?_
  have r6 := e6 _ _ (e5 _ _ (e4 _ _ hr3))
  have w6 := e6 _ _ (e5 _ _ hw4)
  have g6 := e6 _ _ hg5
  have e26 : Ex H2 H6 := e3.trans (e4.trans (e5.trans e6))
  have n1 : a ≠ b := ne_of_none hr3 hb
  have n2 : a ≠ c := ne_of_none (e4 _ _ hr3) hc
  have n3 : a ≠ d := ne_of_none (e5 _ _ (e4 _ _ hr3)) hd6
  have n4 : b ≠ c := ne_of_none hw4 hc
  have n5 : b ≠ d := ne_of_none (e5 _ _ hw4) hd6
  have n6 : c ≠ d := ne_of_none hg5 hd6
  have fa : H a = none := free_back e2 ha
  have fb : H b = none := free_back (e2.trans e3) hb
  have fc : H c = none := free_back (e2.trans (e3.trans e4)) hc
  have fd2 : H d = none := free_back (e2.trans (e3.trans (e4.trans e5))) hd6
  repeat' (first | specialize "st" | fail)
  have em : ∀ {P : Prop} {x : Int}, (x ∈ ([] : List Int) ∨ P) ↔ P := fun {P x} => ⟨fun z => z.elim (fun h => absurd h List.not_mem_nil) id, .inr⟩
  refine q _ a b c d r w g t Hn (e2.trans (e26.trans ke)) hn fa fb fc fd2 ?_ (ke _ _ r6) (ke _ _ w6) (ke _ _ g6) (ke _ _ ht6) ar aw ag at2 (fun x => ?_) (fun x => ?_) (fun x => ?_) (fun x => ?_)
  · simp only [List.nodup_cons, List.mem_cons, List.not_mem_nil, or_false, not_or, List.nodup_nil, and_true, not_false_eq_true]
    exact ⟨⟨n1, n2, n3⟩, ⟨n4, n5⟩, n6⟩
  · rw [mr, g2.r]; exact em
  · rw [mw, g2.w]; exact em
  · rw [mg2, g2.g]; exact em
  · rw [mt, g2.t]; exact em
end
/-! ### set(xs) of a list of small ints, however long it is -/
section
open PySem.Spec PyProof.Rows
variable {P : Program} {w : World} {A : Around} {E : Value → Shared → Prop}
theorem setR_few {h : Heap} {a : Addr} {S : Int → Bool} {c N : Nat} (R : SetR w h a S c) (b : ∀ k, S k = true → 0 ≤ k ∧ k < N) : c ≤ N := by
  obtain ⟨o, es, ep, t, _, _, _, _, nd, hm, _, _, hn, _⟩ := R
  have q := nd_short N nd fun x hx => b x ((hm x).mpr hx)
  rw [List.length_map, Array.length_toList] at q
  omega
/-- the builtin's loop over the list: what is in the set are the first i -/
theorem set_fill {I S : Addr} {fp wr : List Addr} {G : Array GenState → Array GenState → Prop} {n N : Nat} {Pv : Nat → Value → Prop} {St : Nat → Shared → Prop} {R : Result → Shared → Prop} (W : WalksS P w A.in1 I fp wr G n Pv St) (nS : S ∉ fp) (hN : N < 4000) {ks : List Int} (len : ks.length = n)
    (sm : ∀ x ∈ ks, 0 ≤ x ∧ x < N) (val : ∀ i v, Pv i v → ∃ k t, ks[i]? = some k ∧ v = .int k t) : ∀ (d i c : Nat) (s : Shared), i + d = n → St i s → SetR w s.heap S (fun j => decide (j ∈ ks.take i)) c →
      (∀ (s1 : Shared) (c1 : Nat), Moved (S :: wr) G s s1 → SetR w s1.heap S (fun j => decide (j ∈ ks)) c1 → R (.ok (.ret .none)) s1) → codeAny (model P w) A (.builtin "set.update.loop" ⟨[.ref S, .ref I], []⟩) R s := by
  have nw : S ∉ wr := fun z => nS (W.sub _ z)
  have sb : ∀ b ∈ wr, b ∈ S :: wr := fun b z => List.mem_cons_of_mem _ z
  intro d
  induction d with
  | zero =>
    intro i c s e st hS fin
    obtain rfl : i = n := by omega
    refine codeAny_builtin F.entry_set_update_loop ?_; rw [Around.under_plainId F.plain_set_update_loop _]; show wpAny _ A.in1 (pyNext (.ref I) >>= _) _ _ s
    refine wpAny_bind (W.done s _ _ st fun s1 mv => ?_)
    rw [List.take_of_length_le (by omega)] at hS
    exact wpAny_pure (fin s1 c (mv.mono sb) (hS.at fun o z => mv.heap S o nw z))
  | succ d ih =>
    intro i c s e st hS fin
    refine codeAny_builtin F.entry_set_update_loop ?_; rw [Around.under_plainId F.plain_set_update_loop _]; show wpAny _ A.in1 (pyNext (.ref I) >>= _) _ _ s
    refine wpAny_bind (W.item i s _ _ (by omega) st fun v s1 hP st1 mv => ?_)
    obtain ⟨z, t, hz, rfl⟩ := val i v hP
    have h1 : SetR w s1.heap S (fun j => decide (j ∈ ks.take i)) c := hS.at fun o x => mv.heap S o nw x
    have few : c ≤ N := setR_few h1 fun k hk => sm k (List.mem_of_mem_take (of_decide_eq_true hk))
    show wpAny _ A.in1 (holding [Value.int z t] (setAdd S (.int z t)) >>= _) _ _ s1; refine wpAny_bind (wpAny_holding ?_); unfold setAdd
    refine wpAny_holding (wpAny_bind ((intKind P w).pyHash (k := z) (intKind_is _ _ _ _) ?_))
    refine setR_add_hashed (s := { s1 with toks := s1.toks + 1 }) h1 (show c + 1 < 4096 by omega) fun h2 sm2 hS2 => ?_
    have h3 := hS2.congr (S' := fun j => decide (j ∈ ks.take (i + 1))) fun j => by
      rw [List.take_add_one, hz]
      simp [List.mem_append]
    refine wpAny_pure ⟨plainId_quiet F.plain_set_update_loop _, ih (i + 1) _ _ (by omega) (W.frame _ s1 _ _ st1 (Nat.le_succ _) fun b hb o x => ?_) h3 fun s2 c2 mv2 hS4 => ?_⟩
    · exact (sm2.2 b fun y => nS (y ▸ hb)).trans x
    · exact fin s2 c2 (Moved.trans W.gtrans ((mv.mono sb).then_heap (Nat.le_succ _) fun b o hb x => (sm2.2 b fun y => hb (y ▸ List.mem_cons_self ..)).trans x) mv2) hS4
abbrev bareSet (w : World) : Obj := { cls := .type "set", dict := none, data := .set #[] 0 (.fresh 0 0 (!w.params.followText "set-order")) }
set_option maxRecDepth 100000 in
set_option maxHeartbeats 8000000 in
theorem call_setL {s : Shared} {l : Addr} {its : Array Value} {ks : List Int} {N : Nat} {Q : Value → Shared → Prop} (hh : A.handled = none) (hl : s.heap.IsList l its) (hi : IntsAre its.toList ks) (hN : N < 4000) (sm : ∀ x ∈ ks, 0 ≤ x ∧ x < N)
    (q : ∀ (h1 : Heap) (tk c : Nat), SetR w h1 s.heap.objs.size (fun j => decide (j ∈ ks)) c → (∀ b o, s.heap.get? b = some o → h1.get? b = some o) → Q (.ref s.heap.objs.size) { s with heap := h1, toks := tk }) : wpAny (model P w) A (call (.type "set") [.ref l]) Q E s := by
  have len : ks.length = its.size := by
    have e := IntsAre.length hi
    rw [Array.length_toList] at e
    exact e.symm
  obtain ⟨mc, mt, hm⟩ := F.called_set.mro
  have f1 := F.called_set.made; have f2 := F.called_set.sub; have f3 := F.called_set.notType; have f4 := F.called_set.canCreate; have f5 := F.typeCall_set_1 (.ref l)
  refine wpAny_call (codeAny_of_tree (show wpAny _ _ (callAny (.type "set") _) _ _ _ from wpAny_pure ⟨Code.quiet_builtin _ (by decide +kernel), codeAny_builtin F.entry_type_call ?_⟩))
  rw [Around.under_plain (weight_type_call_type "set" [.ref l] []) rfl]; repeat (any_goals (first | assumption | wp_step))
  refine codeAny_mono (code_set_led1 (.ref l) (E := E) (Q₁ := fun ob s1 => ob = .ref s.heap.objs.size ∧ s1 = { s with heap := s.heap.push (bareSet w) }) ⟨rfl, rfl⟩) fun r s1 hr => ?_
  cases r with
  | error e => exact hr
  | ok fl =>
    cases fl with
    | ret ob =>
      obtain ⟨rfl, rfl⟩ := hr
      have hS : (s.heap.push (bareSet w)).get? s.heap.objs.size = some (bareSet w) := Heap.get?_push_size _ rfl
      have hT : Shared.TypeIs { s with heap := s.heap.push (bareSet w) } (.ref s.heap.objs.size) "set" := ⟨_, hS, rfl⟩
      have g1 := F.called_set.init.lookup; have g2 := F.called_set.init.bind (.ref s.heap.objs.size)
      repeat (any_goals (first | assumption | wp_step))
      refine codeAny_mono (codeAny_call_builtin (R := wants (fun r s2 => r = .none ∧ ∃ h1 tk c, s2 = { s with heap := h1, toks := tk } ∧ SetR w h1 s.heap.objs.size (fun j => decide (j ∈ ks)) c ∧ (∀ b o, s.heap.get? b = some o → h1.get? b = some o)) E)
        F.called_set.init.plain F.entry_set_init (check_set_init_1 hT ?_)) fun r2 s2 hr2 => ?_
      · obtain ⟨⟨oc, od, oda, osl⟩, hol, hcl, nl, hdl⟩ := hl
        obtain rfl : oc = .type "list" := hcl
        obtain rfl : oda = .seq its nl := hdl
        have hol1 := Heap.get?_push_of_some (bareSet w) hol
        have k1 := F.sub_list_set; have k2 := F.sub_list_frozenset; have k3 : (Value.type "list" == Value.type "dict") = false := by decide
        have hl1 : (s.heap.push (bareSet w)).IsList l its := ⟨_, hol1, rfl, nl, rfl⟩
        have lS : l < s.heap.objs.size := Heap.lt_size hol
        have zs : (s.heap.push (bareSet w)).objs.size = s.heap.objs.size + 1 := Heap.size_push ..
        unfold Builtin.«set.__init__» noKeywords Builtin.Frozenset.updateFrom; generalize ePI : pyIter = PI; wp_walk; subst ePI
        refine wpAny_pyIter_list hl1 (wpAny_bind (wpAny_runValue ?_))
        have hv : ∀ (i : Nat) (v : Value), its[i]? = some v → ∃ k t, ks[i]? = some k ∧ v = .int k t := fun i v hv => by
          have hik : i < ks.length := by rw [len]; exact (Array.getElem?_eq_some_iff.mp hv).1
          obtain ⟨t, e⟩ := IntsAre.int_at hi i v (by rw [Array.getElem?_toList]; exact hv)
          refine ⟨ks[i], t, List.getElem?_eq_getElem hik, ?_⟩
          rw [e, List.getD_eq_getElem?_getD, List.getElem?_eq_getElem hik] <;> rfl
        have nI : l ≠ (s.heap.push (bareSet w)).objs.size := by rw [zs]; exact Nat.ne_of_lt (Nat.lt_succ_of_lt lS)
        have nS : s.heap.objs.size ∉ [(s.heap.push (bareSet w)).objs.size, l] := by
          rw [zs]
          simp only [List.mem_cons, List.not_mem_nil, or_false, not_or]
          exact ⟨Nat.ne_of_lt (Nat.lt_succ_self _), Nat.ne_of_gt lS⟩
        refine set_fill ((Walks.list (by simp [hh]) _ l nI its).toS) nS hN len sm hv its.size 0 0 _ (Nat.zero_add _) ⟨⟨_, Heap.get?_push_size _ rfl, rfl, rfl⟩, hl1.push _⟩ (setR_new_at (Heap.get?_push_of_some _ hS)) fun s3 c3 mv hS3 => ?_
        obtain ⟨h3, g3, d3, t3, o3⟩ := s3
        obtain rfl : g3 = s.gens := mv.gens
        obtain rfl : d3 = s.drawn := mv.drawn
        obtain rfl : o3 = s.os := mv.os
        refine wpAny_pure (wpAny_pure ⟨rfl, h3, t3, c3, rfl, hS3, fun b o e => mv.heap b o ?_ (Heap.get?_push_of_some _ (Heap.get?_push_of_some _ e))⟩)
        have hb := Heap.lt_size e
        simp only [List.mem_cons, List.not_mem_nil, or_false, not_or, zs]
        exact ⟨Nat.ne_of_lt hb, Nat.ne_of_lt (Nat.lt_succ_of_lt hb)⟩
      · cases r2 with
        | error e => exact hr2
        | ok fl2 =>
          cases fl2 with
          | ret r =>
            obtain ⟨rfl, h1, tk, c, rfl, hS1, k1⟩ := hr2
            repeat (any_goals (first | assumption | wp_step))
            exact q _ _ _ hS1 k1
          | _ => exact hr2.elim
    | _ => exact hr.elim
def rSetIn (K : PySem.W.Frag) (w : World) : List V → Hp → VK → Prop := fun xs H Q => ∃ (p : Addr) (ks : List Int) (N : Nat), xs = [.ref p] ∧ SqL K H p (ks.map V.int) ∧ N < 4000 ∧ (∀ x ∈ ks, 0 ≤ x ∧ x < N) ∧
  ∀ (a : Addr) (c : Nat), H a = none → c ≤ N → Q (.ref a) (upd H a (SetO w a (fun j => decide (j ∈ ks)) c))
theorem call_setI {X : Cx} (hc : X.calm = true) : CallR X (.type "set") (rSetIn X.K X.w) := by
  rintro pins s σ H xs us Q I r ⟨p, ks, N, rfl, hp, hN, sm, q⟩
  obtain ⟨u, rfl, rx⟩ := r.one
  cases rx
  obtain ⟨its, rv, pl, hz⟩ := I.list hp
  refine call_setL (I.ok.hd hc) pl.isList (ks := ks) (by simpa using rv.ints) hN sm fun h1 tk c hS k => ?_
  exact ⟨.ref s.heap.objs.size, upd H s.heap.objs.size (SetO X.w s.heap.objs.size (fun j => decide (j ∈ ks)) c), I.laid (t' := tk) k (Nat.le_refl _) (setO_new hS), rfl, q _ c (I.hok.fresh (Nat.le_refl _)) (setR_few hS fun k hk => sm k (of_decide_eq_true hk))⟩
end
/-! ### the threads of a statement: the branches in the order of their numbers -/
mutual
def Sx.thr : Sx → List Sx
  | .ife _ a b => a.thr ++ b.thr
  | .rep _ _ a => a.thr
  | .seq ss => ss.thr
  | .par ps => ps.thr
  | .alt rs => rs.thr
  | _ => []
def Ss.thr : Ss → List Sx
  | .nil => []
  | .cons s r => s.thr ++ r.thr
def Ps.thr : Ps → List Sx
  | .nil => []
  | .cons _ s r => s :: (s.thr ++ r.thr)
def As.thr : As → List Sx
  | .nil => []
  | .cons _ _ _ s r => s.thr ++ r.thr
end
mutual
theorem Sx.thr_len : ∀ {s : Sx}, s.thr.length = s.cnt
  | .skip => rfl
  | .stop => rfl
  | .set _ _ => rfl
  | .give _ _ => rfl
  | .take _ _ => rfl
  | .ife _ a b => by simp only [Sx.thr, Sx.cnt, List.length_append, Sx.thr_len (s := a), Sx.thr_len (s := b)]
  | .rep _ _ a => by simp only [Sx.thr, Sx.cnt, Sx.thr_len (s := a)]
  | .seq ss => by simp only [Sx.thr, Sx.cnt, Ss.thr_len (s := ss)]
  | .par ss => by simp only [Sx.thr, Sx.cnt, Ps.thr_len (s := ss)]
  | .alt ss => by simp only [Sx.thr, Sx.cnt, As.thr_len (s := ss)]
theorem Ss.thr_len : ∀ {s : Ss}, s.thr.length = s.cnt
  | .nil => rfl
  | .cons a b => by simp only [Ss.thr, Ss.cnt, List.length_append, Sx.thr_len (s := a), Ss.thr_len (s := b)]
theorem Ps.thr_len : ∀ {s : Ps}, s.thr.length = s.cnt
  | .nil => rfl
  | .cons _ a b => by simp only [Ps.thr, Ps.cnt, List.length_cons, List.length_append, Sx.thr_len (s := a), Ps.thr_len (s := b)]; omega
theorem As.thr_len : ∀ {s : As}, s.thr.length = s.cnt
  | .nil => rfl
  | .cons _ _ _ a b => by simp only [As.thr, As.cnt, List.length_append, Sx.thr_len (s := a), As.thr_len (s := b)]
end
mutual
/-- something holds of all branches and their numbers -/
def Sx.tka (f : Int → Sx → Prop) : Sx → Prop
  | .ife _ a b => a.tka f ∧ b.tka f
  | .rep _ _ a => a.tka f
  | .seq ss => ss.tka f
  | .par ps => ps.tka f
  | .alt rs => rs.tka f
  | _ => True
def Ss.tka (f : Int → Sx → Prop) : Ss → Prop
  | .nil => True
  | .cons s r => s.tka f ∧ r.tka f
def Ps.tka (f : Int → Sx → Prop) : Ps → Prop
  | .nil => True
  | .cons t s r => f t s ∧ s.tka f ∧ r.tka f
def As.tka (f : Int → Sx → Prop) : As → Prop
  | .nil => True
  | .cons _ _ _ s r => s.tka f ∧ r.tka f
end
theorem thr_app1 {f : Int → Sx → Prop} {t : Int} {a b : List Sx} (h : ∀ (j : Nat) s, (a ++ b)[j]? = some s → f (t + j) s) : ∀ (j : Nat) s, a[j]? = some s → f (t + j) s := fun j s e => h j s (by rw [List.getElem?_append_left (List.getElem?_eq_some_iff.mp e).1]; exact e)
theorem thr_app2 {f : Int → Sx → Prop} {t : Int} {a b : List Sx} (h : ∀ (j : Nat) s, (a ++ b)[j]? = some s → f (t + j) s) : ∀ (j : Nat) s, b[j]? = some s → f (t + a.length + j) s := fun j s e => by
  have g := h (a.length + j) s (by rw [List.getElem?_append_right (Nat.le_add_right ..), Nat.add_sub_cancel_left]; exact e)
  rw [show t + ((a.length + j : Nat) : Int) = t + a.length + j by omega] at g
  exact g
mutual
theorem Sx.tka_of {f : Int → Sx → Prop} : ∀ {s : Sx} {t : Int}, s.num t → (∀ (j : Nat) s', s.thr[j]? = some s' → f (t + j) s') → s.tka f
  | .skip, _, _, _ => trivial
  | .stop, _, _, _ => trivial
  | .set _ _, _, _, _ => trivial
  | .give _ _, _, _, _ => trivial
  | .take _ _, _, _, _ => trivial
  | .ife _ a b, t, n, h => ⟨Sx.tka_of n.1 (thr_app1 h), Sx.tka_of n.2 (by have := thr_app2 h; rw [Sx.thr_len] at this; exact this)⟩
  | .rep _ _ a, t, n, h => Sx.tka_of (s := a) n h
  | .seq ss, t, n, h => Ss.tka_of (s := ss) n h
  | .par ss, t, n, h => Ps.tka_of (s := ss) n h
  | .alt ss, t, n, h => As.tka_of (s := ss) n h
theorem Ss.tka_of {f : Int → Sx → Prop} : ∀ {s : Ss} {t : Int}, s.num t → (∀ (j : Nat) s', s.thr[j]? = some s' → f (t + j) s') → s.tka f
  | .nil, _, _, _ => trivial
  | .cons a b, t, n, h => ⟨Sx.tka_of n.1 (thr_app1 h), Ss.tka_of n.2 (by have := thr_app2 h; rw [Sx.thr_len] at this; exact this)⟩
theorem Ps.tka_of {f : Int → Sx → Prop} : ∀ {s : Ps} {t : Int}, s.num t → (∀ (j : Nat) s', s.thr[j]? = some s' → f (t + j) s') → s.tka f
  | .nil, _, _, _ => trivial
  | .cons k a b, t, n, h => by
    have h0 := h 0 a rfl
    rw [show t + ((0 : Nat) : Int) = k by rw [n.1]; omega] at h0
    have h1 : ∀ (j : Nat) s', (a.thr ++ b.thr)[j]? = some s' → f (t + 1 + j) s' := fun j s' e => by
      have := h (j + 1) s' (by simpa [Ps.thr] using e)
      rw [show t + ((j + 1 : Nat) : Int) = t + 1 + j by omega] at this
      exact this
    exact ⟨h0, Sx.tka_of n.2.1 (thr_app1 h1), Ps.tka_of n.2.2 (by have := thr_app2 h1; rw [Sx.thr_len] at this; exact this)⟩
theorem As.tka_of {f : Int → Sx → Prop} : ∀ {s : As} {t : Int}, s.num t → (∀ (j : Nat) s', s.thr[j]? = some s' → f (t + j) s') → s.tka f
  | .nil, _, _, _ => trivial
  | .cons _ _ _ a b, t, n, h => ⟨Sx.tka_of n.1 (thr_app1 h), As.tka_of n.2 (by have := thr_app2 h; rw [Sx.thr_len] at this; exact this)⟩
end
mutual
theorem Sx.tka_in {f : Int → Sx → Prop} : ∀ {s s' : Sx}, s.tka f → s' ∈ s.thr → s'.tka f
  | .skip, _, _, m => by cases m
  | .stop, _, _, m => by cases m
  | .set _ _, _, _, m => by cases m
  | .give _ _, _, _, m => by cases m
  | .take _ _, _, _, m => by cases m
  | .ife _ a b, _, h, m => (List.mem_append.mp m).elim (Sx.tka_in h.1) (Sx.tka_in h.2)
  | .rep _ _ a, _, h, m => Sx.tka_in (s := a) h m
  | .seq ss, _, h, m => Ss.tka_in (s := ss) h m
  | .par ss, _, h, m => Ps.tka_in (s := ss) h m
  | .alt ss, _, h, m => As.tka_in (s := ss) h m
theorem Ss.tka_in {f : Int → Sx → Prop} : ∀ {s : Ss} {s' : Sx}, s.tka f → s' ∈ s.thr → s'.tka f
  | .nil, _, _, m => by cases m
  | .cons a b, _, h, m => (List.mem_append.mp m).elim (Sx.tka_in h.1) (Ss.tka_in h.2)
theorem Ps.tka_in {f : Int → Sx → Prop} : ∀ {s : Ps} {s' : Sx}, s.tka f → s' ∈ s.thr → s'.tka f
  | .nil, _, _, m => by cases m
  | .cons k a b, _, h, m => by
    rcases List.mem_cons.mp m with rfl | m
    · exact h.2.1
    · exact (List.mem_append.mp m).elim (Sx.tka_in h.2.1) (Ps.tka_in h.2.2)
theorem As.tka_in {f : Int → Sx → Prop} : ∀ {s : As} {s' : Sx}, s.tka f → s' ∈ s.thr → s'.tka f
  | .nil, _, _, m => by cases m
  | .cons _ _ _ a b, _, h, m => (List.mem_append.mp m).elim (Sx.tka_in h.1) (As.tka_in h.2)
end
/-! what holds of a statement's parts holds of its threads: depth, size, frame -/
mutual
theorem Sx.thr_d : ∀ {s s' : Sx}, s' ∈ s.thr → s'.dep < s.dep ∧ s'.sz < s.sz ∧ ∀ F, s.fw F → s'.fw F
  | .skip, _, m => by cases m
  | .stop, _, m => by cases m
  | .set _ _, _, m => by cases m
  | .give _ _, _, m => by cases m
  | .take _ _, _, m => by cases m
  | .ife e a b, s', m => by
    simp only [Sx.dep, Sx.sz]
    rcases List.mem_append.mp m with m | m
    · have ⟨h1, h2, h3⟩ := Sx.thr_d m
      exact ⟨by omega, by omega, fun F f => h3 F f.2.2.1⟩
    · have ⟨h1, h2, h3⟩ := Sx.thr_d m
      exact ⟨by omega, by omega, fun F f => h3 F f.2.2.2⟩
  | .rep e n a, s', m => by
    simp only [Sx.dep, Sx.sz]
    have ⟨h1, h2, h3⟩ := Sx.thr_d (s := a) m
    exact ⟨by omega, by omega, fun F f => h3 F f.2.2.2.2⟩
  | .seq ss, s', m => by
    simp only [Sx.dep, Sx.sz]
    have ⟨h1, h2, h3⟩ := Ss.thr_d (s := ss) m
    exact ⟨by omega, by omega, h3⟩
  | .par ss, s', m => by
    simp only [Sx.dep, Sx.sz]
    have ⟨h1, h2, h3⟩ := Ps.thr_d (s := ss) m
    exact ⟨by omega, by omega, h3⟩
  | .alt ss, s', m => by
    simp only [Sx.dep, Sx.sz]
    have ⟨h1, h2, h3⟩ := As.thr_d (s := ss) m
    exact ⟨by omega, by omega, h3⟩
theorem Ss.thr_d : ∀ {s : Ss} {s' : Sx}, s' ∈ s.thr → s'.dep ≤ s.dep ∧ s'.sz ≤ s.sz ∧ ∀ F, s.fw F → s'.fw F
  | .nil, _, m => by cases m
  | .cons a b, s', m => by
    simp only [Ss.dep, Ss.sz]
    rcases List.mem_append.mp m with m | m
    · have ⟨h1, h2, h3⟩ := Sx.thr_d m
      exact ⟨by omega, by omega, fun F f => h3 F f.1⟩
    · have ⟨h1, h2, h3⟩ := Ss.thr_d m
      exact ⟨by omega, by omega, fun F f => h3 F f.2⟩
theorem Ps.thr_d : ∀ {s : Ps} {s' : Sx}, s' ∈ s.thr → s'.dep ≤ s.dep ∧ s'.sz ≤ s.sz ∧ ∀ F, s.fw F → s'.fw F
  | .nil, _, m => by cases m
  | .cons k a b, s', m => by
    simp only [Ps.dep, Ps.sz]
    rcases List.mem_cons.mp m with rfl | m
    · exact ⟨by omega, by omega, fun F f => f.1⟩
    rcases List.mem_append.mp m with m | m
    · have ⟨h1, h2, h3⟩ := Sx.thr_d m
      exact ⟨by omega, by omega, fun F f => h3 F f.1⟩
    · have ⟨h1, h2, h3⟩ := Ps.thr_d m
      exact ⟨by omega, by omega, fun F f => h3 F f.2⟩
theorem As.thr_d : ∀ {s : As} {s' : Sx}, s' ∈ s.thr → s'.dep ≤ s.dep ∧ s'.sz ≤ s.sz ∧ ∀ F, s.fw F → s'.fw F
  | .nil, _, m => by cases m
  | .cons _ _ _ a b, s', m => by
    simp only [As.dep, As.sz]
    rcases List.mem_append.mp m with m | m
    · have ⟨h1, h2, h3⟩ := Sx.thr_d m
      exact ⟨by omega, by omega, fun F f => h3 F f.2.2.2.2.1⟩
    · have ⟨h1, h2, h3⟩ := As.thr_d m
      exact ⟨by omega, by omega, fun F f => h3 F f.2.2.2.2.2⟩
end
/-! the objects of the threads -/
def thrL (l : List Sx) : List Sx := l.flatMap Sx.thr
theorem Ss.thrL_eq : ∀ {s : Ss}, thrL s.list = s.thr
  | .nil => rfl
  | .cons a b => by show a.thr ++ thrL b.list = _; rw [Ss.thrL_eq (s := b)]; rfl
theorem As.thrL_eq : ∀ {s : As}, thrL s.list = s.thr
  | .nil => rfl
  | .cons _ _ _ a b => by show a.thr ++ thrL b.list = _; rw [As.thrL_eq (s := b)]; rfl
theorem Sx.thrL_eq {s : Sx} (h : s.isPar = none) : thrL s.parts = s.thr := by
  cases s with
  | ife e a b => show a.thr ++ (b.thr ++ []) = _; rw [List.append_nil]; rfl
  | rep e n a => show a.thr ++ [] = _; rw [List.append_nil]; rfl
  | seq ss => exact Ss.thrL_eq
  | alt ss => exact As.thrL_eq
  | par ss => cases h
  | _ => rfl
theorem brsL_thr {M : List Addr} {H : Hp} {R : Sx → V → V → List (V × V) → Prop} (h : ∀ s v p l, R s v p l → SxL M H (l.map (·.2)) s.thr) : ∀ {ss : List Sx} {vs : List V} {p : V} {l : List (V × V)}, BrsL R ss vs p l → SxL M H (l.map (·.2)) (thrL ss)
  | [], _, _, _, ⟨_, e⟩ => by rw [e]; exact .nil
  | s :: ss, _, p, _, ⟨v, ws, l1, l2, _, e, a, b⟩ => by
    rw [e, List.map_append]
    exact pair_app (h _ _ _ _ a) (brsL_thr h b)
theorem brsP_thr {M : List Addr} {H : Hp} {R : Sx → V → V → List (V × V) → Prop} (h : ∀ s v p l, R s v p l → s.In M H v ∧ SxL M H (l.map (·.2)) s.thr) : ∀ {ss : Ps} {vs : List V} {p : V} {l : List (V × V)}, BrsP H R ss vs p l → SxL M H (l.map (·.2)) ss.thr
  | .nil, _, _, _, ⟨_, e⟩ => by rw [e]; exact .nil
  | .cons t s r, _, p, _, ⟨q, y, ys, l1, l2, _, _, e, a, b⟩ => by
    rw [e, List.map_cons, List.map_append]
    exact .cons (h _ _ _ _ a).1 (pair_app (h _ _ _ _ a).2 (brsP_thr h b))
theorem Brs.in1 {M : List Addr} {H : Hp} : ∀ {n : Nat} {s : Sx} {v p : V} {l : List (V × V)}, Brs M H n s v p l → s.In M H v
  | 0, _, _, _, _, h => h.elim
  | _ + 1, _, _, _, _, h => h.1
theorem brs_thr {M : List Addr} {H : Hp} : ∀ {n : Nat} {s : Sx} {v p : V} {l : List (V × V)}, Brs M H n s v p l → SxL M H (l.map (·.2)) s.thr
  | 0, _, _, _, _, h => h.elim
  | n + 1, s, v, p, l, ⟨i, h⟩ => by
    rcases h with ⟨ps, q, l0, xs, e, _, _, _, _, b⟩ | ⟨hp, pl, _, b⟩
    · subst e
      exact brsP_thr (fun _ _ _ _ z => ⟨Brs.in1 z, brs_thr (n := n) z⟩) b
    · rw [← Sx.thrL_eq hp]
      exact brsL_thr (fun _ _ _ _ z => brs_thr (n := n) z) b
/-! ### a thread's own statement: a fork in the place of each par -/
def Cel (s : Sx) (l : List Int) : Prop := Asc l ∧ ∀ x, x ∈ l ↔ s.tc.R x ∨ s.tc.W x
theorem Cel.eq {s : Sx} {a b : List Int} (h : Cel s a) (g : Cel s b) : a = b := asc_ext h.1 g.1 fun x => (h.2 x).trans (g.2 x).symm
mutual
def Sx.Ow (M : List Addr) (H : Hp) : Sx → V → V → Prop
  | .seq ss, v, o => ∃ q l xs p k os, v = .ref q ∧ H q = some (.tup [.str "seq", .ref l]) ∧ H l = some (.lst xs) ∧ l ∉ M ∧ o = .ref p ∧ H p = some (.tup [.str "seq", .ref k]) ∧ H k = some (.lst os) ∧ k ∉ M ∧ ss.Ow M H xs os
  | .par ps, _, o => ∃ p k os, o = .ref p ∧ H p = some (.tup [.str "fork", .ref k]) ∧ H k = some (.lst os) ∧ k ∉ M ∧ ps.Ow M H os
  | .alt rs, v, o => ∃ q l xs p k os, v = .ref q ∧ H q = some (.tup [.str "alt", .ref l]) ∧ H l = some (.lst xs) ∧ l ∉ M ∧ o = .ref p ∧ H p = some (.tup [.str "alt", .ref k]) ∧ H k = some (.lst os) ∧ k ∉ M ∧ rs.Ow M H xs os
  | .ife _ a b, v, o => ∃ q x y z p y' z', v = .ref q ∧ H q = some (.tup [.str "if", x, y, z]) ∧ okV x ∧ o = .ref p ∧ H p = some (.tup [.str "if", x, y', z']) ∧ a.Ow M H y y' ∧ b.Ow M H z z'
  | .rep _ n a, v, o => ∃ q x y p y', v = .ref q ∧ H q = some (.tup [.str "repeat", x, .int n, y]) ∧ okV x ∧ o = .ref p ∧ H p = some (.tup [.str "repeat", x, .int n, y']) ∧ a.Ow M H y y'
  | _, v, o => o = v ∧ ∃ q, v = .ref q
def Ss.Ow (M : List Addr) (H : Hp) : Ss → List V → List V → Prop
  | .nil, xs, os => xs = [] ∧ os = []
  | .cons s r, xs, os => ∃ x ys o ps, xs = x :: ys ∧ os = o :: ps ∧ s.Ow M H x o ∧ r.Ow M H ys ps
def Ps.Ow (M : List Addr) (H : Hp) : Ps → List V → Prop
  | .nil, os => os = []
  | .cons t s r, os => ∃ q a l ps, os = .ref q :: ps ∧ H q = some (.tup [.int t, .ref a]) ∧ H a = some (.lst (l.map V.int)) ∧ a ∉ M ∧ Cel s l ∧ r.Ow M H ps
def As.Ow (M : List Addr) (H : Hp) : As → List V → List V → Prop
  | .nil, xs, os => xs = [] ∧ os = []
  | .cons _ c _ s r, xs, os => ∃ q u x y ys q' y' ps, xs = .ref q :: ys ∧ H q = some (.tup [u, .int c, x, y]) ∧ okV u ∧ okV x ∧ os = .ref q' :: ps ∧ H q' = some (.tup [u, .int c, x, y']) ∧ s.Ow M H y y' ∧ r.Ow M H ys ps
end
mutual
theorem Sx.Ow.kp {M : List Addr} {H H' : Hp} (k : Kp M H H') : ∀ {s : Sx} {v o : V}, s.Ow M H v o → s.Ow M H' v o
  | .skip, _, _, h => h
  | .stop, _, _, h => h
  | .set _ _, _, _, h => h
  | .give _ _, _, _, h => h
  | .take _ _, _, _, h => h
  | .ife _ _ _, _, _, ⟨q, x, y, z, p, y', z', e, h, i, e', h', a, b⟩ => ⟨q, x, y, z, p, y', z', e, k.tup _ _ h, i, e', k.tup _ _ h', Sx.Ow.kp k a, Sx.Ow.kp k b⟩
  | .rep _ _ _, _, _, ⟨q, x, y, p, y', e, h, i, e', h', a⟩ => ⟨q, x, y, p, y', e, k.tup _ _ h, i, e', k.tup _ _ h', Sx.Ow.kp k a⟩
  | .seq _, _, _, ⟨q, l, xs, p, kk, os, e, h, hl, m, e', h', hk, m', a⟩ => ⟨q, l, xs, p, kk, os, e, k.tup _ _ h, k.out _ _ m hl, m, e', k.tup _ _ h', k.out _ _ m' hk, m', Ss.Ow.kp k a⟩
  | .par _, _, _, ⟨p, kk, os, e', h', hk, m', a⟩ => ⟨p, kk, os, e', k.tup _ _ h', k.out _ _ m' hk, m', Ps.Ow.kp k a⟩
  | .alt _, _, _, ⟨q, l, xs, p, kk, os, e, h, hl, m, e', h', hk, m', a⟩ => ⟨q, l, xs, p, kk, os, e, k.tup _ _ h, k.out _ _ m hl, m, e', k.tup _ _ h', k.out _ _ m' hk, m', As.Ow.kp k a⟩
theorem Ss.Ow.kp {M : List Addr} {H H' : Hp} (k : Kp M H H') : ∀ {s : Ss} {v o : List V}, s.Ow M H v o → s.Ow M H' v o
  | .nil, _, _, h => h
  | .cons _ _, _, _, ⟨x, ys, o, ps, e, e', a, b⟩ => ⟨x, ys, o, ps, e, e', Sx.Ow.kp k a, Ss.Ow.kp k b⟩
theorem Ps.Ow.kp {M : List Addr} {H H' : Hp} (k : Kp M H H') : ∀ {s : Ps} {o : List V}, s.Ow M H o → s.Ow M H' o
  | .nil, _, h => h
  | .cons _ _ _, _, ⟨q, a, l, ps, e, h, ha, m, c, b⟩ => ⟨q, a, l, ps, e, k.tup _ _ h, k.out _ _ m ha, m, c, Ps.Ow.kp k b⟩
theorem As.Ow.kp {M : List Addr} {H H' : Hp} (k : Kp M H H') : ∀ {s : As} {v o : List V}, s.Ow M H v o → s.Ow M H' v o
  | .nil, _, _, h => h
  | .cons _ _ _ _ _, _, _, ⟨q, u, x, y, ys, q', y', ps, e, h, i, j, e', h', a, b⟩ => ⟨q, u, x, y, ys, q', y', ps, e, k.tup _ _ h, i, j, e', k.tup _ _ h', Sx.Ow.kp k a, As.Ow.kp k b⟩
end
mutual
theorem Sx.Ow.to {M N : List Addr} {H : Hp} (n : ∀ l xs, H l = some (.lst xs) → l ∉ M → l ∉ N) : ∀ {s : Sx} {v o : V}, s.Ow M H v o → s.Ow N H v o
  | .skip, _, _, h => h
  | .stop, _, _, h => h
  | .set _ _, _, _, h => h
  | .give _ _, _, _, h => h
  | .take _ _, _, _, h => h
  | .ife _ _ _, _, _, ⟨q, x, y, z, p, y', z', e, h, i, e', h', a, b⟩ => ⟨q, x, y, z, p, y', z', e, h, i, e', h', Sx.Ow.to n a, Sx.Ow.to n b⟩
  | .rep _ _ _, _, _, ⟨q, x, y, p, y', e, h, i, e', h', a⟩ => ⟨q, x, y, p, y', e, h, i, e', h', Sx.Ow.to n a⟩
  | .seq _, _, _, ⟨q, l, xs, p, kk, os, e, h, hl, m, e', h', hk, m', a⟩ => ⟨q, l, xs, p, kk, os, e, h, hl, n _ _ hl m, e', h', hk, n _ _ hk m', Ss.Ow.to n a⟩
  | .par _, _, _, ⟨p, kk, os, e', h', hk, m', a⟩ => ⟨p, kk, os, e', h', hk, n _ _ hk m', Ps.Ow.to n a⟩
  | .alt _, _, _, ⟨q, l, xs, p, kk, os, e, h, hl, m, e', h', hk, m', a⟩ => ⟨q, l, xs, p, kk, os, e, h, hl, n _ _ hl m, e', h', hk, n _ _ hk m', As.Ow.to n a⟩
theorem Ss.Ow.to {M N : List Addr} {H : Hp} (n : ∀ l xs, H l = some (.lst xs) → l ∉ M → l ∉ N) : ∀ {s : Ss} {v o : List V}, s.Ow M H v o → s.Ow N H v o
  | .nil, _, _, h => h
  | .cons _ _, _, _, ⟨x, ys, o, ps, e, e', a, b⟩ => ⟨x, ys, o, ps, e, e', Sx.Ow.to n a, Ss.Ow.to n b⟩
theorem Ps.Ow.to {M N : List Addr} {H : Hp} (n : ∀ l xs, H l = some (.lst xs) → l ∉ M → l ∉ N) : ∀ {s : Ps} {o : List V}, s.Ow M H o → s.Ow N H o
  | .nil, _, h => h
  | .cons _ _ _, _, ⟨q, a, l, ps, e, h, ha, m, c, b⟩ => ⟨q, a, l, ps, e, h, ha, n _ _ ha m, c, Ps.Ow.to n b⟩
theorem As.Ow.to {M N : List Addr} {H : Hp} (n : ∀ l xs, H l = some (.lst xs) → l ∉ M → l ∉ N) : ∀ {s : As} {v o : List V}, s.Ow M H v o → s.Ow N H v o
  | .nil, _, _, h => h
  | .cons _ _ _ _ _, _, _, ⟨q, u, x, y, ys, q', y', ps, e, h, i, j, e', h', a, b⟩ => ⟨q, u, x, y, ys, q', y', ps, e, h, i, j, e', h', Sx.Ow.to n a, As.Ow.to n b⟩
end
theorem Sm.up {K : PySem.W.Frag} {H : Hp} : ∀ {n m : Nat} {x y : V}, n ≤ m → Sm K H n x y → Sm K H m x y
  | 0, 0, _, _, _, h => h
  | 0, _ + 1, _, _, _, h => .inl h
  | n + 1, 0, _, _, e, _ => absurd e (by omega)
  | n + 1, m + 1, _, _, e, h => h.imp id fun ⟨a, b, xs, ys, e1, e2, e3, e4⟩ => ⟨a, b, xs, ys, e1, e2, e3, Paired.mapP e4 fun _ _ z => Sm.up (by omega) z⟩
theorem sm_ok {K : PySem.W.Frag} {H : Hp} {n : Nat} {v : V} (h : okV v) : Sm K H n v v := Sm.up (Nat.zero_le n) (sm0_ok h)
theorem sm_str {K : PySem.W.Frag} {H : Hp} {n : Nat} (x : Str) : Sm K H n (.str x) (.str x) := Sm.up (Nat.zero_le n) (.inl ⟨rfl, rfl⟩)
theorem sm_int {K : PySem.W.Frag} {H : Hp} {n : Nat} (x : Int) : Sm K H n (.int x) (.int x) := Sm.up (Nat.zero_le n) (.inl ⟨rfl, rfl⟩)
theorem sm_tup {K : PySem.W.Frag} {H : Hp} {n : Nat} {a b : Addr} {xs ys : List V} (h : H a = some (.tup xs)) (g : H b = some (.tup ys)) (p : Paired (Sm K H n) xs ys) : Sm K H (n + 1) (.ref a) (.ref b) := .inr ⟨a, b, xs, ys, rfl, rfl, .inr ⟨sqt h, sqt g⟩, p⟩
theorem sm_lst {K : PySem.W.Frag} {H : Hp} {n : Nat} {a b : Addr} {xs ys : List V} (h : H a = some (.lst xs)) (g : H b = some (.lst ys)) (p : Paired (Sm K H n) xs ys) : Sm K H (n + 1) (.ref a) (.ref b) := .inr ⟨a, b, xs, ys, rfl, rfl, .inl ⟨sql h, sql g⟩, p⟩
theorem sm_intl {K : PySem.W.Frag} {H : Hp} {n : Nat} : ∀ l : List Int, Paired (Sm K H n) (l.map V.int) (l.map V.int)
  | [] => .nil
  | x :: l => .cons (sm_int x) (sm_intl l)
mutual
theorem Sx.Ow.sm {K : PySem.W.Frag} {M : List Addr} {H : Hp} : ∀ {s : Sx} {v o o' : V} {n : Nat}, s.Ow M H v o → s.Ow M H v o' → 4 * s.dep ≤ n → Sm K H n o o'
  | .skip, _, _, _, _, ⟨e, q, f⟩, ⟨e', _⟩, _ => by subst e; subst e'; exact sm_ok (.inr (.inr ⟨q, f⟩))
  | .stop, _, _, _, _, ⟨e, q, f⟩, ⟨e', _⟩, _ => by subst e; subst e'; exact sm_ok (.inr (.inr ⟨q, f⟩))
  | .set _ _, _, _, _, _, ⟨e, q, f⟩, ⟨e', _⟩, _ => by subst e; subst e'; exact sm_ok (.inr (.inr ⟨q, f⟩))
  | .give _ _, _, _, _, _, ⟨e, q, f⟩, ⟨e', _⟩, _ => by subst e; subst e'; exact sm_ok (.inr (.inr ⟨q, f⟩))
  | .take _ _, _, _, _, _, ⟨e, q, f⟩, ⟨e', _⟩, _ => by subst e; subst e'; exact sm_ok (.inr (.inr ⟨q, f⟩))
  | .ife _ a b, _, _, _, n, ⟨q, x, y, z, p, y', z', e, h, i, e', h', ha, hb⟩, ⟨q2, x2, y2, z2, p2, y2', z2', e2, h2, i2, e2', h2', ha2, hb2⟩, hn => by
    simp only [Sx.dep] at hn
    obtain ⟨m, rfl⟩ : ∃ m, n = m + 1 := ⟨n - 1, by omega⟩
    subst e
    cases e2
    rw [h] at h2
    cases h2
    subst e'
    subst e2'
    exact sm_tup h' h2' (.cons (sm_str _) (.cons (sm_ok i) (.cons (Sx.Ow.sm ha ha2 (by omega)) (.cons (Sx.Ow.sm hb hb2 (by omega)) .nil))))
  | .rep _ k a, _, _, _, n, ⟨q, x, y, p, y', e, h, i, e', h', ha⟩, ⟨q2, x2, y2, p2, y2', e2, h2, i2, e2', h2', ha2⟩, hn => by
    simp only [Sx.dep] at hn
    obtain ⟨m, rfl⟩ : ∃ m, n = m + 1 := ⟨n - 1, by omega⟩
    subst e
    cases e2
    rw [h] at h2
    cases h2
    subst e'
    subst e2'
    exact sm_tup h' h2' (.cons (sm_str _) (.cons (sm_ok i) (.cons (sm_int k) (.cons (Sx.Ow.sm ha ha2 (by omega)) .nil))))
  | .seq ss, _, _, _, n, ⟨q, l, xs, p, kk, os, e, h, hl, _, e', h', hk, _, ha⟩, ⟨q2, l2, xs2, p2, kk2, os2, e2, h2, hl2, _, e2', h2', hk2, _, ha2⟩, hn => by
    simp only [Sx.dep] at hn
    obtain ⟨m, rfl⟩ : ∃ m, n = m + 2 := ⟨n - 2, by omega⟩
    subst e
    cases e2
    rw [h] at h2
    cases h2
    rw [hl] at hl2
    cases hl2
    subst e'
    subst e2'
    exact sm_tup h' h2' (.cons (sm_str _) (.cons (sm_lst hk hk2 (Ss.Ow.sm ha ha2 (by omega))) .nil))
  | .par ps, _, _, _, n, ⟨p, kk, os, e', h', hk, _, ha⟩, ⟨p2, kk2, os2, e2', h2', hk2, _, ha2⟩, hn => by
    simp only [Sx.dep] at hn
    obtain ⟨m, rfl⟩ : ∃ m, n = m + 2 := ⟨n - 2, by omega⟩
    subst e'
    subst e2'
    exact sm_tup h' h2' (.cons (sm_str _) (.cons (sm_lst hk hk2 (Ps.Ow.sm ha ha2 (by omega))) .nil))
  | .alt rs, _, _, _, n, ⟨q, l, xs, p, kk, os, e, h, hl, _, e', h', hk, _, ha⟩, ⟨q2, l2, xs2, p2, kk2, os2, e2, h2, hl2, _, e2', h2', hk2, _, ha2⟩, hn => by
    simp only [Sx.dep] at hn
    obtain ⟨m, rfl⟩ : ∃ m, n = m + 2 := ⟨n - 2, by omega⟩
    subst e
    cases e2
    rw [h] at h2
    cases h2
    rw [hl] at hl2
    cases hl2
    subst e'
    subst e2'
    exact sm_tup h' h2' (.cons (sm_str _) (.cons (sm_lst hk hk2 (As.Ow.sm ha ha2 (by omega))) .nil))
theorem Ss.Ow.sm {K : PySem.W.Frag} {M : List Addr} {H : Hp} : ∀ {s : Ss} {v o o' : List V} {n : Nat}, s.Ow M H v o → s.Ow M H v o' → 4 * s.dep ≤ n → Paired (Sm K H n) o o'
  | .nil, _, _, _, _, ⟨_, e⟩, ⟨_, e'⟩, _ => by rw [e, e']; exact .nil
  | .cons s r, _, _, _, n, ⟨x, ys, o, ps, e, e', ha, hb⟩, ⟨x2, ys2, o2, ps2, e2, e2', ha2, hb2⟩, hn => by
    simp only [Ss.dep] at hn
    subst e
    cases e2
    subst e'
    subst e2'
    exact .cons (Sx.Ow.sm ha ha2 (by omega)) (Ss.Ow.sm hb hb2 (by omega))
theorem Ps.Ow.sm {K : PySem.W.Frag} {M : List Addr} {H : Hp} : ∀ {s : Ps} {o o' : List V} {n : Nat}, s.Ow M H o → s.Ow M H o' → 2 ≤ n → Paired (Sm K H n) o o'
  | .nil, _, _, _, e, e', _ => by rw [show _ = [] from e, show _ = [] from e']; exact .nil
  | .cons t s r, _, _, n, ⟨q, a, l, ps, e, h, ha, _, c, hb⟩, ⟨q2, a2, l2, ps2, e2, h2, ha2, _, c2, hb2⟩, hn => by
    obtain ⟨m, rfl⟩ : ∃ m, n = m + 2 := ⟨n - 2, by omega⟩
    subst e
    subst e2
    have := c.eq c2
    subst this
    exact .cons (sm_tup h h2 (.cons (sm_int t) (.cons (sm_lst ha ha2 (sm_intl _)) .nil))) (Ps.Ow.sm hb hb2 hn)
theorem As.Ow.sm {K : PySem.W.Frag} {M : List Addr} {H : Hp} : ∀ {s : As} {v o o' : List V} {n : Nat}, s.Ow M H v o → s.Ow M H v o' → 4 * s.dep + 1 ≤ n → Paired (Sm K H n) o o'
  | .nil, _, _, _, _, ⟨_, e⟩, ⟨_, e'⟩, _ => by rw [e, e']; exact .nil
  | .cons g c t s r, _, _, _, n, ⟨q, u, x, y, ys, q', y', ps, e, h, i, j, e', h', ha, hb⟩, ⟨q2, u2, x2, y2, ys2, q2', y2', ps2, e2, h2, i2, j2, e2', h2', ha2, hb2⟩, hn => by
    simp only [As.dep] at hn
    obtain ⟨m, rfl⟩ : ∃ m, n = m + 1 := ⟨n - 1, by omega⟩
    subst e
    cases e2
    rw [h] at h2
    cases h2
    subst e'
    subst e2'
    exact .cons (sm_tup h' h2' (.cons (sm_ok i) (.cons (sm_int c) (.cons (sm_ok j) (.cons (Sx.Ow.sm ha ha2 (by omega)) .nil))))) (As.Ow.sm hb hb2 (by omega))
end
section
variable {X : Cx}
/-- as op_eqS, deeper: where there is room for it -/
def rEqSB (K : PySem.W.Frag) : R2 := fun x y H Q => ∃ n a b xs ys, n ≤ 1000 ∧ x = .ref a ∧ y = .ref b ∧ ((SqL K H a xs ∧ SqL K H b ys) ∨ (SqT K H a xs ∧ SqT K H b ys)) ∧ Paired (Sm K H n) xs ys ∧ Q (.bl true) H
theorem op_eqSB (hu : X.A.units + 1100 < cLine) : OpR X (compareOp .Eq) (rEqSB X.K) := by
  intro pins s σ H x y v u Q I rx ry h
  obtain ⟨n, a, b, xs, ys, hn, rfl, rfl, hs, hp, q⟩ := h
  cases rx
  cases ry
  exact sm_rc I (by omega) (sm_at I n X.A.in1 (by show X.A.units + 1 + n < cLine; omega)) hs hp _ _ _ _ ⟨.bl true, H, I, rfl, q⟩
end
theorem pg_tupK {X : Cx} {K : PySem.W.Frag} {es : List Expr} {k : Nat} {t : TGs} {n : Nat} {pos : Pos} (hk : X.K = K) (hc : X.calm = true) (h : PGs X es t) (hn : (assignEach es X.env).length = n := by rfl) (hst : (assignEach es X.env).findIdx? (·.1) = none := by rfl) : PG X (.Tuple es k pos) (gTup K n t) := by
  subst hk
  exact pg_tup hc h hn hst
/-! ### for i, x in enumerate(xs), xs[:k] -/
theorem w_enum {K : PySem.W.Frag} {g : TG} {ts : Ends → L2.St → Hp → Prop} {nx : L2.St → Hp → Prop} {rt : VK} {σ : L2.St} {H : Hp} {a : Addr} {xs : List V} (Pv : Nat → L2.St → Hp → Prop) (h0 : Pv 0 σ H) (hl : ∀ i σ H, i ≤ xs.length → Pv i σ H → SqL K H a xs)
    (hs : ∀ i x T σ H, xs[i]? = some x → Pv i σ H → H T = none → g (.ref T) σ (upd H T (.tup [.int (i : Nat), x])) fun σ2 H2 => ts ⟨Pv (i + 1), rt, nx, Pv (i + 1)⟩ σ2 H2) (hd : ∀ σ H, Pv xs.length σ H → nx σ H) :
    ∃ W : Nat → Nat → L2.St → Hp → Prop, (∃ m, W 0 m σ H) ∧ ∀ i m σ H, W i m σ H →
      ((Ite K a).stop i H ∧ nx σ H) ∨ ((Ite K a).go i H ∧ ∃ N : L2.St → Hp → Prop, (∀ σ' H', N σ' H' → ∃ m', m' < m ∧ W (i + 1) m' σ' H') ∧ ∀ x H', (Ite K a).yld i H x H' → g x σ H' fun σ2 H2 => ts ⟨N, rt, nx, N⟩ σ2 H2) :=
  for_it (D := ⟨nx, rt, nx, nx⟩) walk_enum Pv h0 hl (fun i x σ H H' _ p y => by
    obtain ⟨T, u, v, h1, h2, h3, h4, h5⟩ := y
    subst h1
    subst h3
    cases h4
    exact hs i v T σ H h5 p h2) hd
theorem r_iEnum {K : PySem.W.Frag} {ta : TA} {σ : L2.St} {H : Hp} {R : It → Hp → Prop} (q : ta σ H fun vs H1 => ∃ a xs, vs = [.ref a] ∧ SqL K H1 a xs ∧ R (Ite K a) H1) : iEnum K ta σ H R := q
theorem q_iEnum {K : PySem.W.Frag} {H : Hp} {a : Addr} {xs : List V} {B : Addr → Prop} (h : SqL K H a xs) (q : B a) : ∃ b ys, [V.ref a] = [.ref b] ∧ SqL K H b ys ∧ B b := ⟨a, xs, rfl, h, q⟩
theorem cut_to (xs : List V) {k : Nat} (h : k ≤ xs.length) : cutV xs none (some (k : Int)) = xs.take k := by
  unfold cutV
  rw [HT.sIx_none, HT.sIx_nat, List.drop_zero, Nat.sub_zero, Nat.min_eq_left h]
theorem q_slTo {p : Addr} {xs : List V} {k : Nat} {H : Hp} {Q : VK} (h : SqL K H p xs) (hk : k ≤ xs.length) (q : ∀ p Hn, H p = none → Ex H Hn → Hn p = some (.lst (xs.take k)) → Q (.ref p) Hn) : rSlA K (.ref p) none (some (k : Int)) H Q :=
  .inl ⟨p, xs, rfl, h, fun p hp => q p _ hp (Ex.mk hp rfl) (by rw [upd_same, cut_to _ hk])⟩
theorem paired_take {α β : Type} {F : α → β → Prop} : ∀ {xs : List α} {ys : List β} (k : Nat), Paired F xs ys → Paired F (xs.take k) (ys.take k)
  | _, _, 0, _ => by rw [List.take_zero, List.take_zero]; exact .nil
  | _, _, _ + 1, .nil => .nil
  | _, _, k + 1, .cons a t => .cons a (paired_take k t)
theorem take_snoc {α : Type} {xs : List α} {i : Nat} {z : α} (h : xs[i]? = some z) {x : α} : x ∈ xs.take (i + 1) ↔ x ∈ xs.take i ∨ x = z := by
  rw [List.take_add_one, h, List.mem_append]
  simp only [Option.toList_some, List.mem_singleton]
theorem kp_fresh2 {M : List Addr} {H G G' : Hp} {D : Addr} (k : Kp M H G) (kD : Kp [D] G G') (h : H D = none) : Kp M H G' := kp_fresh k kD fun x hx => .inr (by rw [List.mem_singleton.mp hx]; exact h)
/-! ### rows, one after the other -/
theorem Ss.app_nil : ∀ a : Ss, a.app .nil = a
  | .nil => rfl
  | .cons s r => by rw [Ss.app, Ss.app_nil r]
theorem Ps.app_nil : ∀ a : Ps, a.app .nil = a
  | .nil => rfl
  | .cons t s r => by rw [Ps.app, Ps.app_nil r]
theorem As.app_nil : ∀ a : As, a.app .nil = a
  | .nil => rfl
  | .cons g c t s r => by rw [As.app, As.app_nil r]
theorem Ss.app_mid (s : Sx) (r : Ss) : ∀ a : Ss, a.app (.cons s r) = (a.app (.cons s .nil)).app r
  | .nil => rfl
  | .cons x y => by rw [Ss.app, Ss.app, Ss.app, Ss.app_mid s r y]
theorem Ps.app_mid (t : Int) (s : Sx) (r : Ps) : ∀ a : Ps, a.app (.cons t s r) = (a.app (.cons t s .nil)).app r
  | .nil => rfl
  | .cons k x y => by rw [Ps.app, Ps.app, Ps.app, Ps.app_mid t s r y]
theorem As.app_mid (g : Option Tm) (c : Int) (t : Tm) (s : Sx) (r : As) : ∀ a : As, a.app (.cons g c t s r) = (a.app (.cons g c t s .nil)).app r
  | .nil => rfl
  | .cons g' c' t' x y => by rw [As.app, As.app, As.app, As.app_mid g c t s r y]
/-! ### what is touched lies in the frame -/
theorem Fr.le_nil (F : Fr) : Fr.nil.le F := ⟨fun _ h => h.elim, fun _ h => h.elim, fun _ h => h.elim, fun _ h => h.elim⟩
theorem Fr.le_or {a b F : Fr} (h : a.le F) (g : b.le F) : (a.or b).le F := ⟨fun k x => x.elim (h.w k) (g.w k), fun k x => x.elim (h.r k) (g.r k), fun k x => x.elim (h.g k) (g.g k), fun k x => x.elim (h.t k) (g.t k)⟩
theorem frT_le {F : Fr} {t : Tm} (h : t.aim F.W F.R) : (frT t).le F := ⟨fun _ x => Tm.tw_aim h x, fun _ x => Tm.ti_aim h x, fun _ h => h.elim, fun _ h => h.elim⟩
theorem frE_le {F : Fr} {e : Tm} (h : e.fit F.R) : (frE e).le F := ⟨fun _ h => h.elim, fun _ x => Tm.rd_fit h x, fun _ h => h.elim, fun _ h => h.elim⟩
theorem frG_le {F : Fr} {c : Int} (h : F.G c) : (frG c).le F := ⟨fun _ h => h.elim, fun _ h => h.elim, fun _ x => by cases x; exact h, fun _ h => h.elim⟩
theorem frC_le {F : Fr} {c : Int} (h : F.T c) : (frC c).le F := ⟨fun _ h => h.elim, fun _ h => h.elim, fun _ h => h.elim, fun _ x => by cases x; exact h⟩
theorem frO_le {F : Fr} : ∀ {g : Option Tm}, gFit F.R g → (frO g).le F
  | none, _ => Fr.le_nil F
  | some _, h => frE_le h.1
theorem As.ow_le {F : Fr} : ∀ {rs : As}, rs.fw F → rs.ow.le F
  | .nil, _ => Fr.le_nil F
  | .cons _ _ _ _ _, h => Fr.le_or (Fr.le_or (Fr.le_or (frC_le h.2.1) (frO_le h.1)) (frT_le h.2.2.1)) (As.ow_le h.2.2.2.2.2)
mutual
theorem Sx.tc_le {F : Fr} : ∀ {s : Sx}, s.fw F → s.tc.le F
  | .skip, _ => Fr.le_nil F
  | .stop, _ => Fr.le_nil F
  | .set _ _, h => Fr.le_or (frT_le h.1) (frE_le h.2.2.1)
  | .give _ _, h => Fr.le_or (frG_le h.1) (frE_le h.2.1)
  | .take _ _, h => Fr.le_or (frC_le h.1) (frT_le h.2.1)
  | .ife _ _ _, h => Fr.le_or (frE_le h.1) (Fr.le_or (Sx.tc_le h.2.2.1) (Sx.tc_le h.2.2.2))
  | .rep _ _ _, h => Fr.le_or (frE_le h.1) (Sx.tc_le h.2.2.2.2)
  | .seq _, h => Ss.tc_le h
  | .par _, h => Ps.tc_le h
  | .alt _, h => Fr.le_or (As.ow_le h) (As.tc_le h)
theorem Ss.tc_le {F : Fr} : ∀ {s : Ss}, s.fw F → s.tc.le F
  | .nil, _ => Fr.le_nil F
  | .cons _ _, h => Fr.le_or (Sx.tc_le h.1) (Ss.tc_le h.2)
theorem Ps.tc_le {F : Fr} : ∀ {s : Ps}, s.fw F → s.tc.le F
  | .nil, _ => Fr.le_nil F
  | .cons _ _ _, h => Fr.le_or (Sx.tc_le h.1) (Ps.tc_le h.2)
theorem As.tc_le {F : Fr} : ∀ {s : As}, s.fw F → s.tc.le F
  | .nil, _ => Fr.le_nil F
  | .cons _ _ _ _ _, h => Fr.le_or (Sx.tc_le h.2.2.2.2.1) (As.tc_le h.2.2.2.2.2)
end
theorem len9 {l : List Int} {P : Int → Prop} (h : Asc l) (m : ∀ x, x ∈ l ↔ P x) (b : ∀ x, P x → 0 ≤ x ∧ x < 900) : (l.map V.int).length ≤ 900 := by
  rw [List.length_map]
  exact nd_short 900 (h.imp fun h => Int.ne_of_lt h) fun x hx => b x ((m x).mp hx)
abbrev s_taken_cells : Stmt := topS 14
theorem sc_taken_cells : FnScope ["s", "found"] ["s"] (defScope s_taken_cells) := ⟨rfl, rfl, rfl, by decide +kernel, rfl, by decide +kernel, by decide +kernel⟩
abbrev p_taken_cells : List Str := ["s"]
abbrev s_own : Stmt := topS 15
theorem sc_own : FnScope ["takes", "s", "kind", "t", "_", "part", "guard", "c", "target"] ["takes", "s"] (defScope s_own) := ⟨rfl, rfl, rfl, by decide +kernel, rfl, by decide +kernel, by decide +kernel⟩
abbrev p_own : List Str := ["takes", "s"]
abbrev s_threads : Stmt := topS 13
theorem sc_threads : FnScope ["core", "rows", "takes", "found", "t", "parent", "s", "_"] ["core"] (defScope s_threads) := ⟨rfl, rfl, rfl, by decide +kernel, rfl, by decide +kernel, by decide +kernel⟩
abbrev p_threads : List Str := ["core"]
def Fr.in61 (F : Fr) : Prop := (∀ x, F.R x → 0 ≤ x ∧ x < ((63 : Nat) : Int)) ∧ ∀ x, F.W x → 0 ≤ x ∧ x < ((63 : Nat) : Int)
theorem call_listK {X : Cx} {K : PySem.W.Frag} (hK : X.K = K) : CallR X (.type "list") (rListOf K) := hK ▸ call_listA
theorem q_set63 {K : PySem.W.Frag} {w : World} {H : Hp} {Q : VK} {p : Addr} {ks : List Int} (hp : H p = some (.lst (ks.map V.int))) (sm : ∀ x ∈ ks, 0 ≤ x ∧ x < ((63 : Nat) : Int)) (q : ∀ (a : Addr) (c : Nat) (Hn : Hp), H a = none → c ≤ 63 → Ex H Hn → Hn a = some (SetO w a (fun j => decide (j ∈ ks)) c) → Q (.ref a) Hn) : rSetIn K w [.ref p] H Q :=
  ⟨p, ks, 63, rfl, sql hp, by decide, sm, fun a c ha hc => q a c _ ha hc (Ex.mk ha rfl) upd_same⟩
theorem q_sset63 {w : World} {H : Hp} {Q : VK} {a : Addr} {ks : List Int} {c : Nat} (ha : H a = some (SetO w a (fun j => decide (j ∈ ks)) c)) (hc : c ≤ 63) (q : ∀ (l : List Int) (L : Addr) (H' : Hp), Asc l → (∀ x, x ∈ l ↔ x ∈ ks) → H L = none → Ex H H' → H' L = some (.lst (l.map V.int)) → Q (.ref L) H') : rSortedSet w [.ref a] H Q :=
  ⟨a, _, c, rfl, ha, by omega, fun ns L hs hm hl hL => q ns L _ hs (fun x => (hm x).trans (decide_eq_true_iff ..)) hL (Ex.mk hL rfl) upd_same⟩
def sp_taken (n : Nat) : Sp := fun vs H Q _ => ∃ (M : List Addr) (s : Sx) (v : V) (F : Fr), vs = [v] ∧ s.In M H v ∧ s.dep ≤ n ∧ s.sz ≤ 50000 ∧ s.fw F ∧ F.in9 ∧ F.in61 ∧
  ∀ (l : List Int) (L : Addr) (H' : Hp), Cel s l → H L = none → Ex H H' → H' L = some (.lst (l.map V.int)) → Q (.ref L) H'
theorem ok_taken (T : Glo K w mg) (D : Dn K mg "taken_cells" s_taken_cells p_taken_cells) (n : Nat) (G_touched : Cal P w K mg base "touched" (8 + n + 1) p_touched (sp_touched n)) : Cal P w K mg base "taken_cells" (8 + n + 2) p_taken_cells (sp_taken n) := by
  refine D.ok sc_taken_cells (fun vs H Q E h => ?_) (fun f cdv A outer s H vs Q E hr h => ?_)
  · obtain ⟨_, _, _, _, rfl, _⟩ := h
    rfl
  obtain ⟨M, s0, v, F, rfl, hs, hd, hz, hf, hF, hG, q⟩ := h
  refine ⟨_, (pss_cons (ps_set (i := 1) sc_taken_cells.nd rfl (by first | exact Or.inl rfl | exact Or.inr rfl) (pe_cal G_touched (hr.mono (by (first | subst "lev" | fail))) rfl (pa_cons (pv 0) pa_nil))) (pss_one (ps_ret (pe_callB (cr_sortedSet rfl) rfl T.n_sorted (by decide +kernel) (pa_cons (pe_callTy (call_setI rfl) rfl T.n_set (by decide +kernel) (pa_cons (pe_op op_addA (pe_ix ix_seq (pv 1) pe_int (fun _ _ => rfl)) (pe_ix ix_seq (pv 1) pe_int (fun _ _ => rfl))) pa_nil)) pa_nil))))), ?_⟩
  try dsimp only [cxOf, Cx.nox]
  repeat' (first | specialize "st" | fail)
  have hle := Sx.tc_le hf
  refine ⟨M, s0, v, F, rfl, hs, hd, hz, hf, hF, fun qt a b c d r w1 g t H1 e1 hq na nb nc nd ndp ha hb hc hd1 aR aW aG aT mR mW mG mT => ?_⟩
  have mm : ∀ x ∈ r ++ w1, 0 ≤ x ∧ x < ((63 : Nat) : Int) := fun x hx => (List.mem_append.mp hx).elim (fun z => hG.1 x (hle.r _ ((mR x).mp z))) fun z => hG.2 x (hle.w _ ((mW x).mp z))
  have lr := len9 aR mR fun x hx => hF.r _ (hle.r _ hx)
  have lw := len9 aW mW fun x hx => hF.w _ (hle.w _ hx)
  repeat' (first | specialize "st" | fail)
  rw [← List.map_append] at hn
  refine q_set63 hn mm fun sa c1 H2 hs2 hc1 e2 h2 => ?_
  repeat' (first | specialize "st" | fail)
  refine q_sset63 h2 hc1 fun l L H3 hl hm hL e3 h3 => ?_
  have e02 : Ex H H2 := e1.trans (ke.trans e2)
  exact q l L H3 ⟨hl, fun x => by rw [hm, List.mem_append, mR, mW]⟩ (free_back e02 hL) (e02.trans e3) h3
/-- the list of the takes, by the threads' numbers -/
structure TkL (TK : Addr) (tl : List (Addr × List Int)) (H : Hp) : Prop where
  l : H TK = some (.lst (tl.map fun p => V.ref p.1))
  p : ∀ p ∈ tl, H p.1 = some (.lst (p.2.map V.int)) ∧ p.2.length ≤ 900
theorem TkL.ex {TK : Addr} {tl : List (Addr × List Int)} {H H' : Hp} (e : Ex H H') (h : TkL TK tl H) : TkL TK tl H' := ⟨e _ _ h.l, fun p hp => ⟨e _ _ (h.p p hp).1, (h.p p hp).2⟩⟩
def tkf (tl : List (Addr × List Int)) (t : Int) (s : Sx) : Prop := ∃ (j : Nat) (p : Addr × List Int), t = j ∧ tl[j]? = some p ∧ Cel s p.2
theorem gIn.ok {H : Hp} : ∀ {g : Option Tm} {v : V}, gIn H g v → okV v
  | none, _, h => .inl h
  | some e, _, h => .inr (.inr (by
    cases e with
    | num _ => obtain ⟨p, e, _⟩ := h; exact ⟨p, e⟩
    | cell _ => obtain ⟨p, e, _⟩ := h; exact ⟨p, e⟩
    | «at» _ _ _ => obtain ⟨p, _, e, _⟩ := h; exact ⟨p, e⟩
    | neg _ => obtain ⟨p, _, e, _⟩ := h; exact ⟨p, e⟩
    | not _ => obtain ⟨p, _, e, _⟩ := h; exact ⟨p, e⟩
    | bin _ _ _ => obtain ⟨p, _, _, e, _⟩ := h; exact ⟨p, e⟩))
theorem Tm.In.ok {H : Hp} {e : Tm} {v : V} (h : e.In H v) : okV v := gIn.ok (g := some e) h
theorem q_copy {K : PySem.W.Frag} {H : Hp} {Q : VK} {p : Addr} {xs : List V} (h : H p = some (.lst xs)) (q : ∀ L Hn, H L = none → Ex H Hn → Hn L = some (.lst xs) → Q (.ref L) Hn) : rListOf K [.ref p] H Q := ⟨p, xs, rfl, .inl (sql h), fun l hl => q l _ hl (Ex.mk hl rfl) upd_same⟩
theorem Ss.Ow.app {M : List Addr} {H : Hp} (s2 : Ss) {xs2 os2 : List V} (h2 : s2.Ow M H xs2 os2) : ∀ {s1 : Ss} {xs1 os1 : List V}, s1.Ow M H xs1 os1 → (s1.app s2).Ow M H (xs1 ++ xs2) (os1 ++ os2)
  | .nil, _, _, ⟨e, e'⟩ => by rw [e, e']; exact h2
  | .cons _ _, _, _, ⟨x, ys, o, ps, e, e', a, b⟩ => by rw [e, e']; exact ⟨x, ys ++ xs2, o, ps ++ os2, rfl, rfl, a, Ss.Ow.app s2 h2 b⟩
theorem Ps.Ow.app {M : List Addr} {H : Hp} (s2 : Ps) {os2 : List V} (h2 : s2.Ow M H os2) : ∀ {s1 : Ps} {os1 : List V}, s1.Ow M H os1 → (s1.app s2).Ow M H (os1 ++ os2)
  | .nil, _, e => by rw [show _ = [] from e]; exact h2
  | .cons _ _ _, _, ⟨q, a, l, ps, e, h, ha, m, c, b⟩ => by rw [e]; exact ⟨q, a, l, ps ++ os2, rfl, h, ha, m, c, Ps.Ow.app s2 h2 b⟩
theorem As.Ow.app {M : List Addr} {H : Hp} (s2 : As) {xs2 os2 : List V} (h2 : s2.Ow M H xs2 os2) : ∀ {s1 : As} {xs1 os1 : List V}, s1.Ow M H xs1 os1 → (s1.app s2).Ow M H (xs1 ++ xs2) (os1 ++ os2)
  | .nil, _, _, ⟨e, e'⟩ => by rw [e, e']; exact h2
  | .cons _ _ _ _ _, _, _, ⟨q, u, x, y, ys, q', y', ps, e, h, i, j, e', h', a, b⟩ => by rw [e, e']; exact ⟨q, u, x, y, ys ++ xs2, q', y', ps ++ os2, rfl, h, i, j, rfl, h', a, As.Ow.app s2 h2 b⟩
def sp_own (n : Nat) : Sp := fun vs H Q _ => ∃ (M : List Addr) (s : Sx) (v : V) (TK : Addr) (tl : List (Addr × List Int)), vs = [.ref TK, v] ∧ TkL TK tl H ∧ s.tka (tkf tl) ∧ s.In M H v ∧ (∀ x ∈ M, H x ≠ none) ∧ s.dep ≤ n ∧ s.sz ≤ 50000 ∧
  ∀ (o : V) (H' : Hp), Ex H H' → s.Ow M H' v o → Q o H'
theorem al_not {M : List Addr} {H : Hp} {p : Addr} (al : ∀ x ∈ M, H x ≠ none) (h : H p = none) : p ∉ M := fun m => al p m h
theorem al_ex2 {M : List Addr} {H H' : Hp} (e : Ex H H') (al : ∀ x ∈ M, H x ≠ none) : ∀ x ∈ M, H' x ≠ none := fun x hx z => al x hx (free_back e z)
theorem al_kp2 {M N : List Addr} {H H' : Hp} (k : Kp N H H') (nm : ∀ x ∈ M, x ∉ N) (al : ∀ x ∈ M, H x ≠ none) : ∀ x ∈ M, H' x ≠ none := fun x hx z => al x hx (free_backK k (nm x hx) z)
theorem Ss.szl {M : List Addr} {H : Hp} {ss : Ss} {xs : List V} (h : ss.In M H xs) : xs.length ≤ ss.sz := by rw [Paired.length (Ss.in_list h), Ss.szL]; exact szL_len
theorem Ps.szl {M : List Addr} {H : Hp} {ss : Ps} {xs : List V} (h : ss.In M H xs) : xs.length ≤ ss.sz := by rw [← Ps.list_len h, Ps.szL]; exact szL_len
theorem As.szl {M : List Addr} {H : Hp} {ss : As} {xs : List V} (h : ss.In M H xs) : xs.length ≤ ss.sz := by
  obtain ⟨pl, a, b⟩ := As.pv h
  rw [Paired.length a, Paired.length b, As.szL]
  exact szL_len
theorem al_cons {M : List Addr} {H : Hp} {p : Addr} (h : H p ≠ none) (al : ∀ x ∈ M, H x ≠ none) : ∀ x ∈ p :: M, H x ≠ none := fun x hx => (List.mem_cons.mp hx).elim (fun e => e ▸ h) (al x)
theorem ex_fresh {H G G' : Hp} {D : Addr} (e : Ex H G) (k : Kp [D] G G') (h : H D = none) : Ex H G' := fun b u hb => k.out _ _ (fun z => by rw [List.mem_singleton.mp z, h] at hb; cases hb) (e _ _ hb)
theorem less_hd {M : List Addr} {H : Hp} {D : Addr} : ∀ l xs, H l = some (.lst xs) → l ∉ D :: M → l ∉ M := fun _ _ _ n z => n (List.mem_cons_of_mem _ z)
theorem ok_own (T : Glo K w mg) (D : Dn K mg "own" s_own p_own) (n : Nat) (G_own : Cal P w K mg base "own" (1 + n) p_own (sp_own n)) : Cal P w K mg base "own" (1 + n + 1) p_own (sp_own (n + 1)) := by
  refine D.ok sc_own (fun vs H Q E h => ?_) (fun f cdv A outer s H vs Q E hr h => ?_)
  · obtain ⟨_, _, _, _, _, rfl, _⟩ := h
    rfl
  obtain ⟨M, s0, v, TK, tl, rfl, ht, hk, hs, al, hd, hz, q⟩ := h
  refine ⟨_, (pss_cons (ps_set (i := 2) sc_own.nd rfl (by first | exact Or.inl rfl | exact Or.inr rfl) (pe_ix ix_seq (pv 1) pe_int (fun _ _ => rfl))) (pss_cons (ps_if (pt_cmpR (op_eqA (hu64 hr)) (pv 2) pe_str (nomark _)) (pss_one (ps_ret (pe_tup (pa_cons pe_str (pa_cons (pe_lc (own := [("t", 3), ("_", 4)]) (tt := tYes) rfl sc_own.nd (pi_list (pe_ix ix_seq (pv 1) pe_int (fun _ _ => rfl))) (blkOk_by (N := ["takes", "s", "kind", "t", "_", "part", "guard", "c", "target"]) (sc := defScope s_own) (by decide +kernel)) (fun _ _ _ _ _ => (pg_tupK (K := K) (n := 2) rfl rfl (pgs_cons (pg_name (i := 3) sc_own.nd rfl (by first | exact Or.inl rfl | exact Or.inr rfl)) (pgs_cons (pg_name (i := 4) sc_own.nd rfl (by first | exact Or.inl rfl | exact Or.inr rfl)) pgs_nil)))) (fun _ _ _ _ _ => pts_nil) (fun _ _ _ _ _ => (pe_tup (pa_cons (pv 3) (pa_cons (pe_callTy (call_listK (K := K) rfl) rfl T.n_list (by decide +kernel) (pa_cons (pe_ix (ix_seqK (K := K) rfl) (pv 0) (pv 3) (fun _ _ => rfl)) pa_nil)) pa_nil))))) pa_nil))))) pss_nil) (pss_cons (ps_if (pt_cmpR (op_eqA (hu64 hr)) (pv 2) pe_str (nomark _)) (pss_one (ps_ret (pe_tup (pa_cons pe_str (pa_cons (pe_lc (own := [("part", 5)]) (tt := tYes) rfl sc_own.nd (pi_list (pe_ix ix_seq (pv 1) pe_int (fun _ _ => rfl))) (blkOk_by (N := ["takes", "s", "kind", "t", "_", "part", "guard", "c", "target"]) (sc := defScope s_own) (by decide +kernel)) (fun _ _ _ _ _ => (pg_name (i := 5) sc_own.nd rfl (by first | exact Or.inl rfl | exact Or.inr rfl))) (fun _ _ _ _ _ => pts_nil) (fun _ _ _ _ _ => (pe_cal G_own (hr.mono (by (first | subst "lev" | fail))) rfl (pa_cons (pv 0) (pa_cons (pv 5) pa_nil))))) pa_nil))))) pss_nil) (pss_cons (ps_if (pt_cmpR (op_eqA (hu64 hr)) (pv 2) pe_str (nomark _)) (pss_one (ps_ret (pe_tup (pa_cons pe_str (pa_cons (pe_lc (own := [("guard", 6), ("c", 7), ("target", 8), ("part", 5)]) (tt := tYes) rfl sc_own.nd (pi_list (pe_ix ix_seq (pv 1) pe_int (fun _ _ => rfl))) (blkOk_by (N := ["takes", "s", "kind", "t", "_", "part", "guard", "c", "target"]) (sc := defScope s_own) (by decide +kernel)) (fun _ _ _ _ _ => (pg_tupK (K := K) (n := 4) rfl rfl (pgs_cons (pg_name (i := 6) sc_own.nd rfl (by first | exact Or.inl rfl | exact Or.inr rfl)) (pgs_cons (pg_name (i := 7) sc_own.nd rfl (by first | exact Or.inl rfl | exact Or.inr rfl)) (pgs_cons (pg_name (i := 8) sc_own.nd rfl (by first | exact Or.inl rfl | exact Or.inr rfl)) (pgs_cons (pg_name (i := 5) sc_own.nd rfl (by first | exact Or.inl rfl | exact Or.inr rfl)) pgs_nil)))))) (fun _ _ _ _ _ => pts_nil) (fun _ _ _ _ _ => (pe_tup (pa_cons (pv 6) (pa_cons (pv 7) (pa_cons (pv 8) (pa_cons (pe_cal G_own (hr.mono (by (first | subst "lev" | fail))) rfl (pa_cons (pv 0) (pa_cons (pv 5) pa_nil))) pa_nil))))))) pa_nil))))) pss_nil) (pss_cons (ps_if (pt_cmpR (op_eqA (hu64 hr)) (pv 2) pe_str (nomark _)) (pss_one (ps_ret (pe_tup (pa_cons pe_str (pa_cons (pe_ix ix_seq (pv 1) pe_int (fun _ _ => rfl)) (pa_cons (pe_cal G_own (hr.mono (by (first | subst "lev" | fail))) rfl (pa_cons (pv 0) (pa_cons (pe_ix ix_seq (pv 1) pe_int (fun _ _ => rfl)) pa_nil))) (pa_cons (pe_cal G_own (hr.mono (by (first | subst "lev" | fail))) rfl (pa_cons (pv 0) (pa_cons (pe_ix ix_seq (pv 1) pe_int (fun _ _ => rfl)) pa_nil))) pa_nil))))))) pss_nil) (pss_cons (ps_if (pt_cmpR (op_eqA (hu64 hr)) (pv 2) pe_str (nomark _)) (pss_one (ps_ret (pe_tup (pa_cons pe_str (pa_cons (pe_ix ix_seq (pv 1) pe_int (fun _ _ => rfl)) (pa_cons (pe_ix ix_seq (pv 1) pe_int (fun _ _ => rfl)) (pa_cons (pe_cal G_own (hr.mono (by (first | subst "lev" | fail))) rfl (pa_cons (pv 0) (pa_cons (pe_ix ix_seq (pv 1) pe_int (fun _ _ => rfl)) pa_nil))) pa_nil))))))) pss_nil) (pss_one (ps_ret (pv 1))))))))), ?_⟩
  try dsimp only [cxOf, Cx.nox]
  cases s0 with
  | skip =>
    obtain ⟨q0, rfl, hq0⟩ := hs
    repeat' (first | specialize "st" | fail)
    exact q _ _ (Ex.refl _) ⟨rfl, q0, rfl⟩
  | stop =>
    obtain ⟨q0, rfl, hq0⟩ := hs
    repeat' (first | specialize "st" | fail)
    exact q _ _ (Ex.refl _) ⟨rfl, q0, rfl⟩
  | set t e =>
    obtain ⟨q0, _, _, rfl, hq0, _⟩ := hs
    repeat' (first | specialize "st" | fail)
    exact q _ _ (Ex.refl _) ⟨rfl, q0, rfl⟩
  | give c e =>
    obtain ⟨q0, _, rfl, hq0, _⟩ := hs
    repeat' (first | specialize "st" | fail)
    exact q _ _ (Ex.refl _) ⟨rfl, q0, rfl⟩
  | take c t =>
    obtain ⟨q0, _, rfl, hq0, _⟩ := hs
    repeat' (first | specialize "st" | fail)
    exact q _ _ (Ex.refl _) ⟨rfl, q0, rfl⟩
  | ife e a b =>
    obtain ⟨q0, x, y, z, rfl, hq0, hx, ha, hb⟩ := hs
    simp only [Sx.dep] at hd
    simp only [Sx.sz] at hz
    repeat' (first | specialize "st" | fail)
    refine ⟨M, a, y, TK, tl, rfl, ht, hk.1, ha, al, by omega, by omega, fun o1 H1 e1 w1 => ?_⟩
    have hq1 := e1 _ _ hq0
    repeat' (first | specialize "st" | fail)
    refine ⟨M, b, z, TK, tl, rfl, ht.ex e1, hk.2, hb.kp (M := M) e1.kp, al_ex2 e1 al, by omega, by omega, fun o2 H2 e2 w2 => ?_⟩
    have e02 := e1.trans e2
    clear e1
    repeat' (first | specialize "st" | fail)
    exact q _ _ (e02.trans ke) ⟨q0, x, y, z, p, o1, o2, rfl, ke _ _ (e02 _ _ hq0), hx.ok, rfl, hn, w1.kp (M := M) (e2.trans ke).kp, w2.kp (M := M) ke.kp⟩
  | rep e m a =>
    obtain ⟨q0, x, y, rfl, hq0, hx, ha⟩ := hs
    simp only [Sx.dep] at hd
    simp only [Sx.sz] at hz
    repeat' (first | specialize "st" | fail)
    refine ⟨M, a, y, TK, tl, rfl, ht, hk, ha, al, by omega, by omega, fun o1 H1 e1 w1 => ?_⟩
    repeat' (first | specialize "st" | fail)
    exact q _ _ (e1.trans ke) ⟨q0, x, y, p, o1, rfl, ke _ _ (e1 _ _ hq0), hx.ok, rfl, hn, w1.kp (M := M) ke.kp⟩
  | seq ss =>
    obtain ⟨q0, l, xs, rfl, hq0, hl, nl, hss⟩ := hs
    have hxl := Ss.szl hss
    simp only [Sx.dep] at hd
    simp only [Sx.sz] at hz
    repeat' (first | specialize "st" | fail)
    intro D hD
    have eD : Ex H (upd H D (.lst [])) := Ex.mk hD rfl
    have nDl : l ∉ [D] := fun z => by rw [List.mem_singleton.mp z, hD] at hl; cases hl
    refine lc_list (xs := xs) (fun i H3 => ∃ (os : List V) (pre rest : Ss), Ex H H3 ∧ H3 D = some (.lst os) ∧ os.length = i ∧ ss = pre.app rest ∧ pre.Ow (D :: M) H3 (xs.take i) os ∧ rest.In (D :: M) H3 (xs.drop i) ∧ rest.dep ≤ n ∧ rest.tka (tkf tl) ∧ rest.sz ≤ ss.sz) ?_ ?_ ?_ ?_
    · exact ⟨[], .nil, ss, eD, upd_same, rfl, rfl, ⟨rfl, rfl⟩, Ss.In.kp (M := D :: M) eD.kp (Ss.In.to (to_add hD) hss), by omega, hk, Nat.le_refl _⟩
    · rintro i H3 _ ⟨_, _, _, e3, _⟩
      exact sql (e3 _ _ hl)
    · rintro i x H3 hx ⟨os, pre, rest, e3, h3, hol, rfl, how, hr1, hrd, hrk, hrz⟩
      obtain ⟨hxi, hxe⟩ := List.getElem?_eq_some_iff.mp hx
      rw [List.drop_eq_getElem_cons hxi, hxe] at hr1
      cases rest with
      | nil => cases hr1
      | cons s1 r =>
        obtain ⟨x', xs', e0, hs1, hr2⟩ := hr1
        cases e0
        simp only [Ss.dep] at hrd
        have hrz2 := hrz
        simp only [Ss.sz] at hrz2
        have ht3 := ht.ex e3
        refine ⟨rfl, ?_⟩
        repeat' (first | specialize "st" | fail)
        refine ⟨D :: M, s1, x, TK, tl, rfl, ht3, hrk.1, hs1, al_cons (fsome h3) (al_ex2 e3 al), by omega, by omega, fun o1 H1 e1 w1 => ?_⟩
        have h1 := e1 _ _ h3
        refine ⟨os, h1, sl1000' (by omega), ?_⟩
        generalize hq : upd H1 D (.lst (os ++ [o1])) = H9
        have k9 := kp_upd h1 hq
        have h9 := at_new hq
        clear hq
        have kM : Kp (D :: M) H1 H9 := k9.sub sub_hd1
        have e9 : Ex H H9 := ex_fresh (e3.trans e1) k9 hD
        refine ⟨os ++ [o1], pre.app (.cons s1 .nil), r, e9, h9, by rw [List.length_append, hol]; rfl, Ss.app_mid s1 r pre, ?_, Ss.In.kp ((e1.kp).trans kM) hr2, by omega, hrk.2, by omega⟩
        rw [List.take_add_one, hx]
        exact Ss.Ow.app (.cons s1 .nil) ⟨x, [], o1, [], rfl, rfl, w1.kp kM, rfl, rfl⟩ (how.kp (e1.kp.trans kM))
    · rintro H3 ⟨os, pre, rest, e3, h3, hol, rfl, how, hr1, hrd, hrk, hrz⟩
      rw [List.drop_length] at hr1
      rw [List.take_length] at how
      obtain rfl : rest = .nil := by
        cases rest with
        | nil => rfl
        | cons => obtain ⟨_, _, e0, _⟩ := hr1; cases e0
      rw [Ss.app_nil] at q
      repeat' (first | specialize "st" | fail)
      have nD3 : D ∉ M := al_not al hD
      exact q _ _ (e3.trans ke) ⟨q0, l, xs, p, D, os, rfl, ke _ _ (e3 _ _ hq0), ke _ _ (e3 _ _ hl), nl, rfl, hn, ke _ _ h3, nD3, (how.to less_hd).kp ke.kp⟩
  | par ss =>
    obtain ⟨q0, l, xs, rfl, hq0, hl, nl, hss⟩ := hs
    have hxl := Ps.szl hss
    simp only [Sx.dep] at hd
    simp only [Sx.sz] at hz
    repeat' (first | specialize "st" | fail)
    intro D hD
    have eD : Ex H (upd H D (.lst [])) := Ex.mk hD rfl
    refine lc_list (xs := xs) (fun i H3 => ∃ (os : List V) (pre rest : Ps), Ex H H3 ∧ H3 D = some (.lst os) ∧ os.length = i ∧ ss = pre.app rest ∧ pre.Ow (D :: M) H3 os ∧ rest.In (D :: M) H3 (xs.drop i) ∧ rest.tka (tkf tl)) ?_ ?_ ?_ ?_
    · exact ⟨[], .nil, ss, eD, upd_same, rfl, rfl, rfl, Ps.In.kp (M := D :: M) eD.kp (Ps.In.to (to_add hD) hss), hk⟩
    · rintro i H3 _ ⟨_, _, _, e3, _⟩
      exact sql (e3 _ _ hl)
    · rintro i x H3 hx ⟨os, pre, rest, e3, h3, hol, rfl, how, hr1, hrk⟩
      obtain ⟨hxi, hxe⟩ := List.getElem?_eq_some_iff.mp hx
      rw [List.drop_eq_getElem_cons hxi, hxe] at hr1
      cases rest with
      | nil => cases hr1
      | cons t s1 r =>
        obtain ⟨q1, y, xs', e0, hq1, hs1, hr2⟩ := hr1
        cases e0
        obtain ⟨⟨j, pr, rfl, hj, hcel⟩, _, hrk2⟩ := hrk
        have ht3 := ht.ex e3
        have hTK := ht3.l
        have hpr := (ht3.p pr (List.mem_of_getElem? hj)).1
        have hat : atI (tl.map fun p => V.ref p.1) (j : Int) = some (.ref pr.1) := atI_nat (by rw [List.getElem?_map, hj]; rfl)
        repeat' (first | specialize "st" | fail)
        refine ⟨by simp [wipe, L2.start, List.replicate], ?_⟩
        repeat' (first | specialize "st" | fail)
        rename_i L H1 hL e1 h1
        have eA : Ex H3 Hn := e1.trans ke
        have hD2 : Hn D = some (.lst os) := eA _ _ h3
        have nLD : L ∉ D :: M := al_not (al_cons (fsome h3) (al_ex2 e3 al)) hL
        refine ⟨os, hD2, sl1000' (by omega), ?_⟩
        generalize hq : upd Hn D (.lst (os ++ [.ref p])) = H9
        have k9 := kp_upd hD2 hq
        have h9 := at_new hq
        clear hq
        have kM : Kp (D :: M) Hn H9 := k9.sub sub_hd1
        have e9 : Ex H H9 := ex_fresh (e3.trans eA) k9 hD
        refine ⟨os ++ [.ref p], pre.app (.cons j s1 .nil), r, e9, h9, by rw [List.length_append, hol]; rfl, Ps.app_mid _ s1 r pre, ?_, Ps.In.kp (eA.kp.trans kM) hr2, hrk2⟩
        exact Ps.Ow.app (.cons j s1 .nil) ⟨p, L, pr.2, [], rfl, kM.tup _ _ hn, kM.out _ _ nLD (ke _ _ h1), nLD, hcel, rfl⟩ (how.kp (eA.kp.trans kM))
    · rintro H3 ⟨os, pre, rest, e3, h3, hol, rfl, how, hr1, hrk⟩
      rw [List.drop_length] at hr1
      obtain rfl : rest = .nil := by
        cases rest with
        | nil => rfl
        | cons => obtain ⟨_, _, _, e0, _⟩ := hr1; cases e0
      rw [Ps.app_nil] at q
      repeat' (first | specialize "st" | fail)
      exact q _ _ (e3.trans ke) ⟨p, D, os, rfl, hn, ke _ _ h3, al_not al hD, (how.to less_hd).kp ke.kp⟩
  | alt ss =>
    obtain ⟨q0, l, xs, rfl, hq0, hl, nl, hss⟩ := hs
    have hxl := As.szl hss
    simp only [Sx.dep] at hd
    simp only [Sx.sz] at hz
    repeat' (first | specialize "st" | fail)
    intro D hD
    have eD : Ex H (upd H D (.lst [])) := Ex.mk hD rfl
    refine lc_list (xs := xs) (fun i H3 => ∃ (os : List V) (pre rest : As), Ex H H3 ∧ H3 D = some (.lst os) ∧ os.length = i ∧ ss = pre.app rest ∧ pre.Ow (D :: M) H3 (xs.take i) os ∧ rest.In (D :: M) H3 (xs.drop i) ∧ rest.dep ≤ n ∧ rest.tka (tkf tl) ∧ rest.sz ≤ ss.sz) ?_ ?_ ?_ ?_
    · exact ⟨[], .nil, ss, eD, upd_same, rfl, rfl, ⟨rfl, rfl⟩, As.In.kp (M := D :: M) eD.kp (As.In.to (to_add hD) hss), by omega, hk, Nat.le_refl _⟩
    · rintro i H3 _ ⟨_, _, _, e3, _⟩
      exact sql (e3 _ _ hl)
    · rintro i x H3 hx ⟨os, pre, rest, e3, h3, hol, rfl, how, hr1, hrd, hrk, hrz⟩
      obtain ⟨hxi, hxe⟩ := List.getElem?_eq_some_iff.mp hx
      rw [List.drop_eq_getElem_cons hxi, hxe] at hr1
      cases rest with
      | nil => cases hr1
      | cons g c t s1 r =>
        obtain ⟨q1, u, z, y, xs', e0, hq1, hg, hzt, hs1, hr2⟩ := hr1
        cases e0
        simp only [As.dep] at hrd
        have hrz2 := hrz
        simp only [As.sz] at hrz2
        have ht3 := ht.ex e3
        repeat' (first | specialize "st" | fail)
        refine ⟨by simp [wipe, L2.start, List.replicate], ?_⟩
        repeat' (first | specialize "st" | fail)
        refine ⟨D :: M, s1, y, TK, tl, rfl, ht3, hrk.1, hs1, al_cons (fsome h3) (al_ex2 e3 al), by omega, by omega, fun o1 H1 e1 w1 => ?_⟩
        repeat' (first | specialize "st" | fail)
        have eA : Ex H3 Hn := e1.trans ke
        have hD2 : Hn D = some (.lst os) := eA _ _ h3
        refine ⟨os, hD2, sl1000' (by omega), ?_⟩
        generalize hq : upd Hn D (.lst (os ++ [.ref p])) = H9
        have k9 := kp_upd hD2 hq
        have h9 := at_new hq
        clear hq
        have kM : Kp (D :: M) Hn H9 := k9.sub sub_hd1
        have e9 : Ex H H9 := ex_fresh (e3.trans eA) k9 hD
        refine ⟨os ++ [.ref p], pre.app (.cons g c t s1 .nil), r, e9, h9, by rw [List.length_append, hol]; rfl, As.app_mid g c t s1 r pre, ?_, As.In.kp (eA.kp.trans kM) hr2, by omega, hrk.2, by omega⟩
        rw [List.take_add_one, hx]
        exact As.Ow.app (.cons g c t s1 .nil) ⟨q1, u, z, y, [], p, o1, [], rfl, kM.tup _ _ (eA _ _ hq1), hg.ok, hzt.ok, rfl, kM.tup _ _ hn, w1.kp (ke.kp.trans kM), rfl, rfl⟩ (how.kp (eA.kp.trans kM))
    · rintro H3 ⟨os, pre, rest, e3, h3, hol, rfl, how, hr1, hrd, hrk, hrz⟩
      rw [List.drop_length] at hr1
      rw [List.take_length] at how
      obtain rfl : rest = .nil := by
        cases rest with
        | nil => rfl
        | cons => obtain ⟨_, _, _, _, _, e0, _⟩ := hr1; cases e0
      rw [As.app_nil] at q
      repeat' (first | specialize "st" | fail)
      exact q _ _ (e3.trans ke) ⟨q0, l, xs, p, D, os, rfl, ke _ _ (e3 _ _ hq0), ke _ _ (e3 _ _ hl), nl, rfl, hn, ke _ _ h3, al_not al hD, (how.to less_hd).kp ke.kp⟩
theorem own_all (T : Glo K w mg) (D : Dn K mg "own" s_own p_own) : ∀ n : Nat, Cal P w K mg base "own" (1 + n) p_own (sp_own n)
  | 0 => cal_imp (cal_false D sc_own 0) fun _ _ _ _ ⟨_, s, _, _, _, _, _, _, _, _, h, _⟩ => absurd h (by cases s <;> simp [Sx.dep])
  | n + 1 => ok_own T D n (own_all T D n)
/-! ### threads(core) -/
def Wel (s : Sx) (l : List Int) : Prop := Asc l ∧ ∀ x, x ∈ l ↔ s.tc.W x
theorem Wel.eq {s : Sx} {a b : List Int} (h : Wel s a) (g : Wel s b) : a = b := asc_ext h.1 g.1 fun x => (h.2 x).trans (g.2 x).symm
/-- the row of a thread: its parent, takes, gives and its own statement -/
def TrOk (M : List Addr) (H : Hp) (u : V) (x : V × V) (s : Sx) : Prop := ∃ q a b o lc lw, u = .ref q ∧ H q = some (.tup [x.1, .ref a, .ref b, o]) ∧ H a = some (.lst (lc.map V.int)) ∧ a ∉ M ∧ Cel s lc ∧ H b = some (.lst (lw.map V.int)) ∧ b ∉ M ∧ Wel s lw ∧ s.Ow M H x.2 o
theorem TrOk.kp {M : List Addr} {H H' : Hp} (k : Kp M H H') {u : V} {x : V × V} {s : Sx} : TrOk M H u x s → TrOk M H' u x s
  | ⟨q, a, b, o, lc, lw, e, h, ha, ma, ca, hb, mb, cb, w⟩ => ⟨q, a, b, o, lc, lw, e, k.tup _ _ h, k.out _ _ ma ha, ma, ca, k.out _ _ mb hb, mb, cb, w.kp k⟩
theorem TrOk.to {M N : List Addr} {H : Hp} (n : ∀ l xs, H l = some (.lst xs) → l ∉ M → l ∉ N) {u : V} {x : V × V} {s : Sx} : TrOk M H u x s → TrOk N H u x s
  | ⟨q, a, b, o, lc, lw, e, h, ha, ma, ca, hb, mb, cb, w⟩ => ⟨q, a, b, o, lc, lw, e, h, ha, n _ _ ha ma, ca, hb, n _ _ hb mb, cb, w.to n⟩
def TrsI (M : List Addr) (H : Hp) (us : List V) (rows : List (V × V)) (ss : List Sx) : Prop := ∀ (i : Nat) u x s, us[i]? = some u → rows[i]? = some x → ss[i]? = some s → TrOk M H u x s
theorem TrsI.kp {M : List Addr} {H H' : Hp} (k : Kp M H H') {us : List V} {rows : List (V × V)} {ss : List Sx} (h : TrsI M H us rows ss) : TrsI M H' us rows ss := fun i u x s a b c => (h i u x s a b c).kp k
theorem TrsI.to {M N : List Addr} {H : Hp} (n : ∀ l xs, H l = some (.lst xs) → l ∉ M → l ∉ N) {us : List V} {rows : List (V × V)} {ss : List Sx} (h : TrsI M H us rows ss) : TrsI N H us rows ss := fun i u x s a b c => (h i u x s a b c).to n
theorem TrsI.snoc {M : List Addr} {H : Hp} {us : List V} {u : V} {x : V × V} {s : Sx} {rows : List (V × V)} {ss : List Sx} (h : TrsI M H us rows ss) (hx : rows[us.length]? = some x) (hs : ss[us.length]? = some s) (t : TrOk M H u x s) : TrsI M H (us ++ [u]) rows ss := fun i u' x' s' a b c => by
  rcases Nat.lt_or_ge i us.length with hi | hi
  · rw [List.getElem?_append_left hi] at a
    exact h i u' x' s' a b c
  · obtain rfl : i = us.length := by
      have := (List.getElem?_eq_some_iff.mp a).1
      rw [List.length_append, List.length_singleton] at this
      omega
    rw [List.getElem?_append_right (Nat.le_refl _), Nat.sub_self] at a
    rw [hx] at b
    rw [hs] at c
    cases a
    cases b
    cases c
    exact t
theorem TrOk.sm {K : PySem.W.Frag} {H : Hp} {M N : List Addr} {u u' : V} {x : V × V} {s : Sx} (ok : okV x.1) (n : Nat) (hn : 4 * s.dep ≤ n) (h0 : 1 ≤ n) (h : TrOk M H u x s) (g : TrOk N H u' x s) : Sm K H (n + 1) u u' := by
  obtain ⟨q, a, b, o, lc, lw, e, h1, ha, ma, ca, hb, mb, cb, w⟩ := h
  obtain ⟨q', a', b', o', lc', lw', e', h1', ha', ma', ca', hb', mb', cb', w'⟩ := g
  subst e
  subst e'
  have e1 := ca.eq ca'
  subst e1
  have e2 := cb.eq cb'
  subst e2
  obtain ⟨m, rfl⟩ : ∃ m, n = m + 1 := ⟨n - 1, by omega⟩
  have wM : s.Ow [] H x.2 o := w.to fun _ _ _ _ => List.not_mem_nil
  have wN : s.Ow [] H x.2 o' := w'.to fun _ _ _ _ => List.not_mem_nil
  exact sm_tup h1 h1' (.cons (sm_ok ok) (.cons (sm_lst ha ha' (sm_intl _)) (.cons (sm_lst hb hb' (sm_intl _)) (.cons (wM.sm wN hn) .nil))))
theorem paired_of_at {α β : Type} {F : α → β → Prop} : ∀ {xs : List α} {ys : List β}, xs.length = ys.length → (∀ (i : Nat) x y, xs[i]? = some x → ys[i]? = some y → F x y) → Paired F xs ys
  | [], [], _, _ => .nil
  | [], _ :: _, h, _ => by cases h
  | _ :: _, [], h, _ => by cases h
  | x :: xs, y :: ys, h, g => .cons (g 0 x y rfl rfl) (paired_of_at (Nat.succ.inj h) fun i a b p q => g (i + 1) a b (by simpa using p) (by simpa using q))
/-- what holds of every thread of a core -/
structure ThrAll (n : Nat) (F : Fr) (s : Sx) (v : V) (l : List (V × V)) (H : Hp) : Prop where
  i : SxL [] H (v :: l.map (·.2)) (s :: s.thr)
  d : ∀ s' ∈ s :: s.thr, s'.dep ≤ n ∧ s'.sz ≤ 50000 ∧ s'.fw F
theorem ThrAll.ex {n : Nat} {F : Fr} {s : Sx} {v : V} {l : List (V × V)} {H H' : Hp} (e : Ex H H') (h : ThrAll n F s v l H) : ThrAll n F s v l H' := ⟨Paired.mapP h.i fun _ _ z => z.kp e.kp, h.d⟩
theorem thrAll_of {n m : Nat} {F : Fr} {s : Sx} {v p : V} {l : List (V × V)} {H : Hp} (h : Brs [] H m s v p l) (hd : s.dep ≤ n) (hz : s.sz ≤ 50000) (hf : s.fw F) : ThrAll n F s v l H := by
  refine ⟨.cons (Brs.in1 h) (brs_thr h), fun s' hs => ?_⟩
  rcases List.mem_cons.mp hs with rfl | hs
  · exact ⟨hd, hz, hf⟩
  · obtain ⟨a, b, c⟩ := Sx.thr_d hs
    exact ⟨by omega, by omega, c F hf⟩
theorem ThrAll.at {n : Nat} {F : Fr} {s : Sx} {v p : V} {l : List (V × V)} {H : Hp} (h : ThrAll n F s v l H) {i : Nat} {x : V × V} (hx : ((p, v) :: l)[i]? = some x) : ∃ s', (s :: s.thr)[i]? = some s' ∧ s'.In [] H x.2 ∧ s'.dep ≤ n ∧ s'.sz ≤ 50000 ∧ s'.fw F ∧ s' ∈ s :: s.thr := by
  have hx2 : (v :: l.map (·.2))[i]? = some x.2 := by
    have := congrArg (Option.map (·.2)) hx
    rw [← List.getElem?_map] at this
    exact this
  obtain ⟨s', h1, h2⟩ := paired_at h.i hx2
  obtain ⟨a, b, c⟩ := h.d s' (List.mem_of_getElem? h1)
  exact ⟨s', h1, h2, a, b, c, List.mem_of_getElem? h1⟩
theorem tka_all {f : Int → Sx → Prop} {s s' : Sx} (h : s.tka f) (m : s' ∈ s :: s.thr) : s'.tka f := by
  rcases List.mem_cons.mp m with rfl | m
  · exact h
  · exact Sx.tka_in h m
def sp_thrds (n : Nat) : Sp := fun vs H Q _ => ∃ (p ch : Addr) (nc : Int) (s : Sx) (v : V) (l : List (V × V)) (F : Fr), vs = [.ref p] ∧ H p = some (.tup [.str "core", .int nc, .ref ch, v]) ∧ Brs [] H n s v (.int 0) l ∧ s.num 1 ∧ s.cnt ≤ 40 ∧ s.sz ≤ 50000 ∧ s.dep ≤ n ∧ s.fw F ∧ F.in9 ∧ F.in61 ∧
  ∀ (L : Addr) (fs : List V) (H' : Hp), Ex H H' → H L = none → H' L = some (.lst fs) → fs.length = s.cnt + 1 → TrsI [] H' fs ((.non, v) :: l) (s :: s.thr) → Q (.ref L) H'
theorem ok_thrds (T : Glo K w mg) (D : Dn K mg "threads" s_threads p_threads) (n : Nat) (G_threads_of : Cal P w K mg base "threads_of" (1 + n + 1) p_threads_of (sp_threads n)) (G_taken_cells : Cal P w K mg base "taken_cells" (8 + n + 2) p_taken_cells (sp_taken n))
    (G_touched : Cal P w K mg base "touched" (8 + n + 1) p_touched (sp_touched n)) (G_own : Cal P w K mg base "own" (1 + n) p_own (sp_own n)) : Cal P w K mg base "threads" (8 + n + 3) p_threads (sp_thrds n) := by
  refine D.ok sc_threads (fun vs H Q E h => ?_) (fun f cdv A outer s H vs Q E hr h => ?_)
  · obtain ⟨_, _, _, _, _, _, _, rfl, _⟩ := h
    rfl
  obtain ⟨pc, ch, nc, s0, v, l, F, rfl, hp, hb, hnm, hc, hz, hd, hf, hF, hG, q⟩ := h
  refine ⟨_, (pss_cons (ps_set (i := 1) sc_threads.nd rfl (by first | exact Or.inl rfl | exact Or.inr rfl) (pe_cal G_threads_of (hr.mono (by (first | subst "lev" | fail))) rfl (pa_cons (pv 0) pa_nil))) (pss_cons (ps_setLc (i := 2) (own := [("_", 7), ("s", 6)]) (tt := tYes) rfl sc_threads.nd rfl rfl (sw_true rfl rfl rfl (by decide +kernel)) (pi_list (pv 1)) (blkOk_by (N := ["core", "rows", "takes", "found", "t", "parent", "s", "_"]) (sc := defScope s_threads) (by decide +kernel)) (fun _ _ _ _ _ => (pg_tupK (K := K) (n := 2) rfl rfl (pgs_cons (pg_name (i := 7) sc_threads.nd rfl (by first | exact Or.inl rfl | exact Or.inr rfl)) (pgs_cons (pg_name (i := 6) sc_threads.nd rfl (by first | exact Or.inl rfl | exact Or.inr rfl)) pgs_nil)))) (fun _ _ _ _ _ => pts_nil) (fun _ _ _ _ _ => (pe_cal G_taken_cells (hr.mono (by (first | subst "lev" | fail))) rfl (pa_cons (pv 6) pa_nil)))) (pss_cons (ps_set (i := 3) sc_threads.nd rfl (by first | exact Or.inl rfl | exact Or.inr rfl) (pe_lst pa_nil)) (pss_cons (ps_for PassesOwn.never rfl (pi_enum rfl T.n_enumerate (pa_cons (pv 1) pa_nil)) (pg_tup rfl (pgs_cons (pg_name (i := 4) sc_threads.nd rfl (by first | exact Or.inl rfl | exact Or.inr rfl)) (pgs_cons (pg_tup rfl (pgs_cons (pg_name (i := 5) sc_threads.nd rfl (by first | exact Or.inl rfl | exact Or.inr rfl)) (pgs_cons (pg_name (i := 6) sc_threads.nd rfl (by first | exact Or.inl rfl | exact Or.inr rfl)) pgs_nil))) pgs_nil))) (pss_one (ps_expr (pe_bm PySem.F.plainAttrs_list PySem.F.slot_list_append PySem.F.type_list_append mt_append (pv 3) (pa_cons (pe_tup (pa_cons (pv 5) (pa_cons (pe_callTy call_listA rfl T.n_list (by decide +kernel) (pa_cons (pe_ix ix_seq (pv 2) (pv 4) (fun _ _ => rfl)) pa_nil)) (pa_cons (pe_ix ix_seq (pe_cal G_touched (hr.mono (by (first | subst "lev" | fail))) rfl (pa_cons (pv 6) pa_nil)) pe_int (fun _ _ => rfl)) (pa_cons (pe_cal G_own (hr.mono (by (first | subst "lev" | fail))) rfl (pa_cons (pv 2) (pa_cons (pv 6) pa_nil))) pa_nil))))) pa_nil))))) (pss_one (ps_ret (pv 3))))))), ?_⟩
  try dsimp only [cxOf, Cx.nox]
  have hT := thrAll_of hb hd hz hf
  repeat' (first | specialize "st" | fail)
  refine ⟨pc, ch, nc, s0, v, l, rfl, hp, hb, hnm, hc, hz, fun L us H1 e1 hL0 hL hP hul => ?_⟩
  have hT1 := hT.ex e1
  repeat' (first | specialize "st" | fail)
  intro D hD
  have eD : Ex H1 (upd H1 D (.lst [])) := Ex.mk hD rfl
  refine lc_list (xs := us) (fun i H3 => ∃ tl : List (Addr × List Int), Ex H1 H3 ∧ H3 D = some (.lst (tl.map fun p => V.ref p.1)) ∧ tl.length = i ∧ (∀ p ∈ tl, H3 p.1 = some (.lst (p.2.map V.int)) ∧ p.2.length ≤ 900 ∧ p.1 ∉ [D]) ∧ ∀ (j : Nat) p s', tl[j]? = some p → (s0 :: s0.thr)[j]? = some s' → Cel s' p.2) ?_ ?_ ?_ ?_
  · exact ⟨[], eD, upd_same, rfl, (fun p hp => by cases hp), fun j p s' h => by cases h⟩
  · rintro i H3 _ ⟨_, e3, _⟩
    exact sql (e3 _ _ hL)
  · rintro i x H3 hx ⟨tl, e3, h3, hl3, hp3, hc3⟩
    obtain ⟨r, hr1, q1, rfl, hq1⟩ := paired_at hP hx
    have hq3 := e3 _ _ hq1
    obtain ⟨s', hs', hin, hsd, hsz, hsf, hsm⟩ := (hT1.ex e3).at hr1
    have hi : i < us.length := (List.getElem?_eq_some_iff.mp hx).1
    repeat' (first | specialize "st" | fail)
    refine ⟨by simp [wipe, L2.start, List.replicate], ?_⟩
    repeat' (first | specialize "st" | fail)
    refine ⟨[], s', r.2, F, rfl, hin, hsd, hsz, hsf, hF, hG, fun lc La H4 hcel hLa e4 hLa4 => ?_⟩
    have hD4 := e4 _ _ h3
    have hlen : lc.length ≤ 900 := by
      have hle := Sx.tc_le hsf
      have := len9 hcel.1 hcel.2 fun x hx => hx.elim (fun z => hF.r _ (hle.r _ z)) fun z => hF.w _ (hle.w _ z)
      rwa [List.length_map] at this
    have nLD : La ∉ [D] := fun z => by rw [List.mem_singleton.mp z, h3] at hLa; cases hLa
    refine ⟨_, hD4, sl1000' (by rw [List.length_map]; omega), ?_⟩
    generalize hq : upd H4 D _ = H9
    have k9 := kp_upd hD4 hq
    have h9 := at_new hq
    clear hq
    refine ⟨tl ++ [(La, lc)], ex_fresh (e3.trans e4) k9 hD, by rw [h9, List.map_append]; rfl, by rw [List.length_append, hl3]; rfl, fun p hp => ?_, fun j p s2 hj hs2 => ?_⟩
    · rcases List.mem_append.mp hp with hp | hp
      · obtain ⟨a, b, c⟩ := hp3 p hp
        exact ⟨k9.out _ _ c (e4 _ _ a), b, c⟩
      · rw [List.mem_singleton.mp hp]
        exact ⟨k9.out _ _ nLD hLa4, hlen, nLD⟩
    · rcases Nat.lt_or_ge j tl.length with hj1 | hj1
      · rw [List.getElem?_append_left hj1] at hj
        exact hc3 j p s2 hj hs2
      · obtain rfl : j = tl.length := by
          have := (List.getElem?_eq_some_iff.mp hj).1
          rw [List.length_append, List.length_singleton] at this
          omega
        rw [List.getElem?_append_right (Nat.le_refl _), Nat.sub_self] at hj
        cases hj
        rw [hl3, hs'] at hs2
        cases hs2
        exact hcel
  · rintro H3 ⟨tl, e3, h3, hl3, hp3, hc3⟩
    have ht3 : TkL D tl H3 := ⟨h3, fun p hp => ⟨(hp3 p hp).1, (hp3 p hp).2.1⟩⟩
    have htk : s0.tka (tkf tl) := by
      refine Sx.tka_of hnm fun j s' hj => ?_
      have hj1 := (List.getElem?_eq_some_iff.mp hj).1
      rw [Sx.thr_len] at hj1
      have hlt : j + 1 < tl.length := by omega
      exact ⟨j + 1, tl[j + 1], by omega, List.getElem?_eq_getElem hlt, hc3 (j + 1) _ s' (List.getElem?_eq_getElem hlt) (by simpa using hj)⟩
    clear hp3
    repeat' (first | specialize "st" | fail)
    have hq9 := hn
    have hp9 := hp
    obtain ⟨FD, rfl⟩ : ∃ x, x = p := ⟨_, rfl⟩
    obtain ⟨H4, rfl⟩ : ∃ x, x = Hn := ⟨_, rfl⟩
    have e34 : Ex H3 H4 := ke
    have hL3 := e3 _ _ hL
    clear ke hn hp
    refine r_iEnum ?_
    repeat' (first | specialize "st" | fail)
    refine q_iEnum (sql (e34 _ _ hL3)) ?_
    refine w_enum (xs := us) (fun i σ H5 => ∃ (fs : List V) (y4 y5 y6 y7 : Option V), σ = [some (.ref pc), some (.ref L), some (.ref D), some (.ref FD), y4, y5, y6, y7] ∧ Ex H3 H5 ∧ H5 FD = some (.lst fs) ∧ fs.length = i ∧ TrsI [FD] H5 fs ((.non, v) :: l) (s0 :: s0.thr)) ?_ ?_ ?_ ?_
    · exact ⟨[], _, _, _, _, rfl, e34, hq9, rfl, fun i u x s a => by cases a⟩
    · rintro i σ H5 _ ⟨_, _, _, _, _, rfl, e5, _⟩
      exact sql (e5 _ _ hL3)
    · rintro i x TT σ H5 hx ⟨fs, y4, y5, y6, y7, rfl, e5, h5, hf5, hI⟩ hTT
      have eT : Ex H5 (upd H5 TT (.tup [.int (i : Nat), x])) := Ex.mk hTT rfl
      have hT5 : upd H5 TT (.tup [.int (i : Nat), x]) TT = some (.tup [.int (i : Nat), x]) := upd_same
      generalize upd H5 TT (.tup [.int (i : Nat), x]) = H6 at eT hT5 ⊢
      obtain ⟨r, hr1, q1, rfl, hq1⟩ := paired_at hP hx
      have e36 : Ex H3 H6 := e5.trans eT
      have e16 : Ex H1 H6 := e3.trans e36
      have hq6 := e16 _ _ hq1
      obtain ⟨s', hs', hin, hsd, hsz, hsf, hsm⟩ := (hT1.ex e16).at hr1
      have hi : i < us.length := (List.getElem?_eq_some_iff.mp hx).1
      have hle := Sx.tc_le hsf
      have ht6 := ht3.ex e36
      have hil : i < tl.length := by omega
      obtain ⟨pr, hpr⟩ : ∃ pr, tl[i]? = some pr := ⟨_, List.getElem?_eq_getElem hil⟩
      have hprm := ht6.p pr (List.mem_of_getElem? hpr)
      have hpr1 := hprm.1
      have hTK := ht6.l
      have hat : atI (tl.map fun p => V.ref p.1) ((i : Nat) : Int) = some (.ref pr.1) := atI_nat (by rw [List.getElem?_map, hpr]; rfl)
      have h6 := eT _ _ h5
      have hFD : H1 FD = none := free_back e3 hp9
      have hFD6 : H6 FD ≠ none := fsome h6
      repeat' (first | specialize "st" | fail)
      obtain ⟨La, rfl⟩ : ∃ x, x = p := ⟨_, rfl⟩
      obtain ⟨H7, rfl⟩ : ∃ x, x = Hn := ⟨_, rfl⟩
      have e67 : Ex H6 H7 := ke
      have hLa7 := hn
      have hLa6 : H6 La = none := hp
      clear ke hn hp
      refine ⟨[], s', r.2, F, rfl, hin.kp e67.kp, hsd, hsz, hsf, hF, fun qt a b c d r1 w1 g1 t1 H8 e8 hq8 na nb nc nd ndp ha hb hc hd1 aR aW aG aT mR mW mG mT => ?_⟩
      have h8 := e8 _ _ (e67 _ _ h6)
      have hLa8 := e8 _ _ hLa7
      have hTK8 := e8 _ _ (e67 _ _ hTK)
      clear hTK hT5 hpr1 hLa7
      repeat' (first | specialize "st" | fail)
      have e68 : Ex H6 H8 := e67.trans e8
      have inF : s'.In [FD] H8 r.2 := (((hT1.at hr1).elim fun s2 z => by
        have : s2 = s' := by rw [hs'] at z; exact (Option.some.inj z.1).symm
        subst this
        exact (z.2.1.to (to_add hFD)).kp (e16.trans e68).kp))
      refine ⟨[FD], s', r.2, D, tl, rfl, ht6.ex e68, tka_all htk hsm, inF, al_cons (fsome h8) (fun x hx => by cases hx), hsd, hsz, fun o H9 e9 w9 => ?_⟩
      have h9 := e9 _ _ h8
      have hfl : fs.length < 100000 := by omega
      clear hTK8 h8 h6 h5 hq9
      repeat' (first | specialize "st" | fail)
      have kF : Kp [FD] H9 Hn := ke.kp.trans ku
      have nLa : La ∉ [FD] := fun z => by rw [List.mem_singleton.mp z] at hLa6; exact hFD6 hLa6
      have nb2 : b ∉ [FD] := fun z => by rw [List.mem_singleton.mp z] at nb; exact hFD6 (free_back e67 nb)
      have k59 : Kp [FD] H5 Hn := (eT.trans (e68.trans e9)).kp.trans kF
      have e3n : Ex H3 Hn := ex_fresh (e36.trans (e68.trans (e9.trans ke))) ku hp9
      refine ⟨fs ++ [.ref p], _, _, _, _, rfl, e3n, hu, by rw [List.length_append, hf5]; rfl, (hI.kp k59).snoc (by rw [hf5]; exact hr1) (by rw [hf5]; exact hs') ?_⟩
      refine ⟨p, La, b, o, pr.2, w1, rfl, ku.tup _ _ hn, kF.out _ _ nLa (e9 _ _ hLa8), nLa, ?_, kF.out _ _ nb2 (e9 _ _ hb), nb2, ⟨aW, mW⟩, w9.kp kF⟩
      exact hc3 i pr s' hpr hs'
    · rintro σ H5 ⟨fs, y4, y5, y6, y7, rfl, e5, h5, hf5, hI⟩
      repeat' (first | specialize "st" | fail)
      exact q FD fs H5 (e1.trans (e3.trans e5)) (free_back (e1.trans e3) hp9) h5 (by omega) (hI.to fun _ _ _ _ => List.not_mem_nil)
abbrev s__law_cells : Stmt := topS 40
theorem sc__law_cells : FnScope ["e", "found", "part", "k"] ["e"] (defScope s__law_cells) := ⟨rfl, rfl, rfl, by decide +kernel, rfl, by decide +kernel, by decide +kernel⟩
abbrev p__law_cells : List Str := ["e"]
abbrev s__law_written : Stmt := topS 41
theorem sc__law_written : FnScope ["target", "k"] ["target"] (defScope s__law_written) := ⟨rfl, rfl, rfl, by decide +kernel, rfl, by decide +kernel, by decide +kernel⟩
abbrev p__law_written : List Str := ["target"]
abbrev s__law_aim : Stmt := topS 42
theorem sc__law_aim : FnScope ["target"] ["target"] (defScope s__law_aim) := ⟨rfl, rfl, rfl, by decide +kernel, rfl, by decide +kernel, by decide +kernel⟩
abbrev p__law_aim : List Str := ["target"]
local macro_rules | `(tactic| subst "ne") => `(tactic| exact op_ne (o := _) (by decide +kernel))
def lcn : Nat → Nat
  | 0 => 4
  | n + 1 => 2 * lcn n
theorem lcn_ge : ∀ n, 4 ≤ lcn n
  | 0 => Nat.le_refl _
  | n + 1 => by
    have := lcn_ge n
    show 4 ≤ 2 * lcn n
    omega
theorem q_catB {K : PySem.W.Frag} {H : Hp} {Q : VK} {a b : Addr} {xs ys : List V} (h1 : H a = some (.lst xs)) (h2 : H b = some (.lst ys)) (z : xs.length + ys.length ≤ 16000000) (q : ∀ p Hn, H p = none → Ex H Hn → Hn p = some (.lst (xs ++ ys)) → Q (.ref p) Hn) : rAddA K (.ref a) (.ref b) H Q :=
  .inr (.inr (.inl ⟨a, b, xs, ys, rfl, rfl, h1, h2, sizeLine_big z, fun p hp => q p _ hp (Ex.mk hp rfl) upd_same⟩))
/-- the operands of a term, its own part left out -/
def Tm.ops : Tm → List Tm
  | .neg e => [e]
  | .not e => [e]
  | .bin _ a b => [a, b]
  | _ => []
def sp_lcells (n : Nat) : Sp := fun vs H Q _ => ∃ (e : Tm) (v : V) (R : Int → Prop), vs = [v] ∧ e.In H v ∧ e.deep ≤ n ∧ e.fit R ∧ ∀ (L : Addr) (H' : Hp) (l : List Int), H L = none → Ex H H' → H' L = some (.lst (l.map V.int)) → (∀ x, x ∈ l ↔ e.rd x) → l.length ≤ lcn n → Q (.ref L) H'
theorem ok_lcells (T : Glo K w mg) (D : Dn K mg "_law_cells" s__law_cells p__law_cells) (n : Nat) (hn8 : n ≤ 8) (G__law_cells : Cal P w K mg base "_law_cells" (1 + n) p__law_cells (sp_lcells n)) : Cal P w K mg base "_law_cells" (1 + n + 1) p__law_cells (sp_lcells (n + 1)) := by
  have hb1 := lcn_ge n
  have hb2 : lcn n ≤ 2048 := by
    have : ∀ m, m ≤ 8 → lcn m ≤ 2048 := by decide
    exact this n hn8
  refine D.ok sc__law_cells (fun vs H Q E h => ?_) (fun f cdv A outer s H vs Q E hr h => ?_)
  · obtain ⟨_, _, _, rfl, _⟩ := h
    rfl
  obtain ⟨e, v, R, rfl, he, hd, hf, q⟩ := h
  refine ⟨_, (pss_cons (ps_if (pt_cmpR (op_eqA (hu64 hr)) (pe_ix ix_seq (pv 0) pe_int (fun _ _ => rfl)) pe_str (nomark _)) (pss_one (ps_ret (pe_lst pa_nil))) pss_nil) (pss_cons (ps_if (pt_cmpR (op_eqA (hu64 hr)) (pe_ix ix_seq (pv 0) pe_int (fun _ _ => rfl)) pe_str (nomark _)) (pss_one (ps_ret (pe_lst (pa_cons (pe_ix ix_seq (pv 0) pe_int (fun _ _ => rfl)) pa_nil)))) pss_nil) (pss_cons (ps_if (pt_cmpR (op_eqA (hu64 hr)) (pe_ix ix_seq (pv 0) pe_int (fun _ _ => rfl)) pe_str (nomark _)) (pss_one (ps_ret (pe_op op_addA (pe_lc (own := [("k", 3)]) (tt := tYes) rfl sc__law_cells.nd (pi_range1 rfl T.n_range (pa_cons (pe_ix ix_seq (pv 0) pe_int (fun _ _ => rfl)) pa_nil)) (blkOk_by (N := ["e", "found", "part", "k"]) (sc := defScope s__law_cells) (by decide +kernel)) (fun _ _ _ _ _ => (pg_name (i := 3) sc__law_cells.nd rfl (by first | exact Or.inl rfl | exact Or.inr rfl))) (fun _ _ _ _ _ => pts_nil) (fun _ _ _ _ _ => (pe_op (op_addK (K := K) rfl) (pe_ix (ix_seqK (K := K) rfl) (pv 0) pe_int (fun _ _ => rfl)) (pv 3)))) (pe_cal G__law_cells (hr.mono (by (first | subst "lev" | fail))) rfl (pa_cons (pe_ix ix_seq (pv 0) pe_int (fun _ _ => rfl)) pa_nil))))) pss_nil) (pss_cons (ps_set (i := 1) sc__law_cells.nd rfl (by first | exact Or.inl rfl | exact Or.inr rfl) (pe_lst pa_nil)) (pss_cons (ps_for PassesOwn.never rfl (pi_tup (pe_slice sl_any (pv 0) (po_some pe_int) po_none)) (pg_name (i := 2) sc__law_cells.nd rfl (by first | exact Or.inl rfl | exact Or.inr rfl)) (pss_one (ps_set (i := 1) sc__law_cells.nd rfl (by first | exact Or.inl rfl | exact Or.inr rfl) (pe_op op_addA (pv 1) (pe_cal G__law_cells (hr.mono (by (first | subst "lev" | fail))) rfl (pa_cons (pv 2) pa_nil)))))) (pss_one (ps_ret (pv 1)))))))), ?_⟩
  try dsimp only [cxOf, Cx.nox]
  cases e with
  | num k =>
    obtain ⟨p, rfl, hp⟩ := he
    repeat' (first | specialize "st" | fail)
    exact q _ _ [] hp ke hn (fun x => ⟨fun h => absurd h List.not_mem_nil, fun h => h.elim⟩) (Nat.zero_le _)
  | cell k =>
    obtain ⟨pe, rfl, hpe⟩ := he
    repeat' (first | specialize "st" | fail)
    exact q _ _ [k] hp ke hn (fun x => List.mem_singleton) (by show 1 ≤ 2 * lcn n; omega)
  | «at» f0 s0 e0 =>
    obtain ⟨pe, x0, rfl, hpe, hx0⟩ := he
    have hs0 : 0 < s0 ∧ s0 < 5 := ⟨hf.1, hf.2.1⟩
    repeat' (first | specialize "st" | fail)
    intro D hD
    refine lc_range (lo := 0) (n := _) (fun i H' => Ex H H' ∧ H' D = some (.lst ((rgI f0 i).map V.int))) ?_ ?_ ?_
    · exact ⟨Ex.mk hD rfl, upd_same⟩
    · rintro i H' hi ⟨e, h1⟩
      refine ⟨rfl, ?_⟩
      repeat' (first | specialize "st" | fail)
      refine ⟨_, h1, sl1000' (by unfold rgI; simp; omega), fun b u hb => ?_, ?_⟩
      · rw [upd_ne (ne_of_none hb hD)]
        exact e _ _ hb
      · rw [upd_same, ← List.map_singleton, ← List.map_append]
        unfold rgI
        rw [Int.toNat_natCast, Int.toNat_natCast, List.range_succ, List.map_append]
        simp
    · rintro H' ⟨e, h1⟩
      rw [show ((s0.toNat : Nat) : Int) = s0 by omega] at h1
      have hpe1 := e _ _ hpe
      repeat' (first | specialize "st" | fail)
      refine ⟨e0, x0, R, rfl, tm_ex e hx0, by simp only [Tm.deep] at hd; omega, hf.2.2.2, fun L3 H3 l3 hL3 e3 hl3 hm3 hlen => ?_⟩
      have hL2' := e3 _ _ h1
      refine q_catN hL2' hl3 (by rw [List.length_map, List.length_map]; unfold rgI; rw [List.length_map, List.length_range]; omega) fun p4 H4 hp4 e4 hn4 => ?_
      refine q p4 H4 (rgI f0 s0 ++ l3) (free_back (e.trans e3) hp4) (e.trans (e3.trans e4)) (by rw [List.map_append]; exact hn4) (fun x => ?_) (by rw [List.length_append]; unfold rgI; rw [List.length_map, List.length_range]; show _ ≤ 2 * lcn n; omega)
      rw [List.mem_append, rgI_mem (by omega), hm3]
      rfl
  | neg e0 =>
    obtain ⟨q0, x0, rfl, hq0, hx0⟩ := he
    have hops : Paired (fun v (e : Tm) => e.In H v ∧ e.deep ≤ n ∧ e.fit R) [x0] [e0] := .cons ⟨hx0, by simp only [Tm.deep] at hd; omega, hf⟩ .nil
    repeat' (first | specialize "st" | fail)
    rename_i p0 H2 hp0 e12 hn0
    have e0N : Ex H Hn := e12.trans ke
    have hops1 := Paired.mapP hops fun v (e : Tm) z => (⟨tm_ex e0N z.1, z.2⟩ : e.In Hn v ∧ e.deep ≤ n ∧ e.fit R)
    have h0N : Hn p0 = some (.lst []) := ke _ _ hn0
    have hSN : Hn p = some (.tup [x0]) := hn
    refine w_tup (xs := [x0]) (fun i σ H' => ∃ (L : Addr) (l : List Int) (y y2 : Option V), σ = [some (.ref q0), some (.ref L), y, y2] ∧ Ex Hn H' ∧ H L = none ∧ H' L = some (.lst (l.map V.int)) ∧ l.length ≤ i * lcn n ∧ ∀ x, x ∈ l ↔ ∃ e ∈ ([e0] : List Tm).take i, e.rd x) ?_ ?_ ?_ ?_
    · exact ⟨p0, [], none, none, rfl, Ex.refl _, hp0, h0N, by simp, fun x => by simp⟩
    · rintro i σ H' _ ⟨L, l, y, y2, rfl, k1, _⟩
      exact sqt (k1 _ _ hSN)
    · rintro i x σ H' hx ⟨L, l, y, y2, rfl, k1, hL0, hL, hlen, hm⟩
      obtain ⟨e9, he9, hi9, hd9, hf9⟩ := paired_at hops1 hx
      have hi2 : i < 2 := by
        have := (List.getElem?_eq_some_iff.mp hx).1
        simp only [List.length_cons, List.length_nil] at this
        omega
      have hlen2 : l.length ≤ 2 * lcn n := Nat.le_trans hlen (Nat.mul_le_mul_right _ (by omega))
      repeat' (first | specialize "st" | fail)
      refine ⟨e9, x, R, rfl, tm_ex k1 hi9, hd9, hf9, fun L3 H3 l3 hL3 e3 hl3 hm3 hlen3 => ?_⟩
      refine q_catN (e3 _ _ hL) hl3 (by rw [List.length_map, List.length_map]; omega) fun p4 H4 hp4 e4 hn4 => ?_
      repeat' (first | specialize "st" | fail)
      refine ⟨p4, l ++ l3, _, _, rfl, k1.trans (e3.trans e4), free_back (e0N.trans (k1.trans e3)) hp4, by rw [List.map_append]; exact hn4, by rw [List.length_append, Nat.add_mul]; omega, fun x => ?_⟩
      rw [List.mem_append, hm, hm3, List.take_add_one, he9]
      simp only [List.mem_append, Option.toList_some, List.mem_singleton]
      constructor
      · rintro (⟨e, a, b⟩ | b)
        · exact ⟨e, .inl a, b⟩
        · exact ⟨e9, .inr rfl, b⟩
      · rintro ⟨e, a | rfl, b⟩
        · exact .inl ⟨e, a, b⟩
        · exact .inr b
    · rintro σ H' ⟨L, l, y, y2, rfl, k1, hL0, hL, hlen, hm⟩
      repeat' (first | specialize "st" | fail)
      refine q L H' l hL0 (e0N.trans k1) hL (fun x => by rw [hm]; simp [Tm.rd]) ?_
      show l.length ≤ 2 * lcn n
      simp only [List.length_cons, List.length_nil] at hlen
      omega
  | not e0 =>
    obtain ⟨q0, x0, rfl, hq0, hx0⟩ := he
    have hops : Paired (fun v (e : Tm) => e.In H v ∧ e.deep ≤ n ∧ e.fit R) [x0] [e0] := .cons ⟨hx0, by simp only [Tm.deep] at hd; omega, hf⟩ .nil
    repeat' (first | specialize "st" | fail)
    rename_i p0 H2 hp0 e12 hn0
    have e0N : Ex H Hn := e12.trans ke
    have hops1 := Paired.mapP hops fun v (e : Tm) z => (⟨tm_ex e0N z.1, z.2⟩ : e.In Hn v ∧ e.deep ≤ n ∧ e.fit R)
    have h0N : Hn p0 = some (.lst []) := ke _ _ hn0
    have hSN : Hn p = some (.tup [x0]) := hn
    refine w_tup (xs := [x0]) (fun i σ H' => ∃ (L : Addr) (l : List Int) (y y2 : Option V), σ = [some (.ref q0), some (.ref L), y, y2] ∧ Ex Hn H' ∧ H L = none ∧ H' L = some (.lst (l.map V.int)) ∧ l.length ≤ i * lcn n ∧ ∀ x, x ∈ l ↔ ∃ e ∈ ([e0] : List Tm).take i, e.rd x) ?_ ?_ ?_ ?_
    · exact ⟨p0, [], none, none, rfl, Ex.refl _, hp0, h0N, by simp, fun x => by simp⟩
    · rintro i σ H' _ ⟨L, l, y, y2, rfl, k1, _⟩
      exact sqt (k1 _ _ hSN)
    · rintro i x σ H' hx ⟨L, l, y, y2, rfl, k1, hL0, hL, hlen, hm⟩
      obtain ⟨e9, he9, hi9, hd9, hf9⟩ := paired_at hops1 hx
      have hi2 : i < 2 := by
        have := (List.getElem?_eq_some_iff.mp hx).1
        simp only [List.length_cons, List.length_nil] at this
        omega
      have hlen2 : l.length ≤ 2 * lcn n := Nat.le_trans hlen (Nat.mul_le_mul_right _ (by omega))
      repeat' (first | specialize "st" | fail)
      refine ⟨e9, x, R, rfl, tm_ex k1 hi9, hd9, hf9, fun L3 H3 l3 hL3 e3 hl3 hm3 hlen3 => ?_⟩
      refine q_catN (e3 _ _ hL) hl3 (by rw [List.length_map, List.length_map]; omega) fun p4 H4 hp4 e4 hn4 => ?_
      repeat' (first | specialize "st" | fail)
      refine ⟨p4, l ++ l3, _, _, rfl, k1.trans (e3.trans e4), free_back (e0N.trans (k1.trans e3)) hp4, by rw [List.map_append]; exact hn4, by rw [List.length_append, Nat.add_mul]; omega, fun x => ?_⟩
      rw [List.mem_append, hm, hm3, List.take_add_one, he9]
      simp only [List.mem_append, Option.toList_some, List.mem_singleton]
      constructor
      · rintro (⟨e, a, b⟩ | b)
        · exact ⟨e, .inl a, b⟩
        · exact ⟨e9, .inr rfl, b⟩
      · rintro ⟨e, a | rfl, b⟩
        · exact .inl ⟨e, a, b⟩
        · exact .inr b
    · rintro σ H' ⟨L, l, y, y2, rfl, k1, hL0, hL, hlen, hm⟩
      repeat' (first | specialize "st" | fail)
      refine q L H' l hL0 (e0N.trans k1) hL (fun x => by rw [hm]; simp [Tm.rd]) ?_
      show l.length ≤ 2 * lcn n
      simp only [List.length_cons, List.length_nil] at hlen
      omega
  | bin o a b =>
    obtain ⟨q0, x0, y0, rfl, hq0, hx0, hy0⟩ := he
    have hops : Paired (fun v (e : Tm) => e.In H v ∧ e.deep ≤ n ∧ e.fit R) [x0, y0] [a, b] := .cons ⟨hx0, by simp only [Tm.deep] at hd; omega, hf.1⟩ (.cons ⟨hy0, by simp only [Tm.deep] at hd; omega, hf.2⟩ .nil)
    have hne : ¬ V.str o.str = V.str "num" ∧ ¬ V.str o.str = V.str "cell" ∧ ¬ V.str o.str = V.str "at" := by cases o <;> exact ⟨by decide +kernel, by decide +kernel, by decide +kernel⟩
    obtain ⟨n1, n2, n3⟩ := hne
    repeat' (first | specialize "st" | fail)
    rename_i p0 H2 hp0 e12 hn0
    have e0N : Ex H Hn := e12.trans ke
    have hops1 := Paired.mapP hops fun v (e : Tm) z => (⟨tm_ex e0N z.1, z.2⟩ : e.In Hn v ∧ e.deep ≤ n ∧ e.fit R)
    have h0N : Hn p0 = some (.lst []) := ke _ _ hn0
    have hSN : Hn p = some (.tup [x0, y0]) := hn
    refine w_tup (xs := [x0, y0]) (fun i σ H' => ∃ (L : Addr) (l : List Int) (y y2 : Option V), σ = [some (.ref q0), some (.ref L), y, y2] ∧ Ex Hn H' ∧ H L = none ∧ H' L = some (.lst (l.map V.int)) ∧ l.length ≤ i * lcn n ∧ ∀ x, x ∈ l ↔ ∃ e ∈ ([a, b] : List Tm).take i, e.rd x) ?_ ?_ ?_ ?_
    · exact ⟨p0, [], none, none, rfl, Ex.refl _, hp0, h0N, by simp, fun x => by simp⟩
    · rintro i σ H' _ ⟨L, l, y, y2, rfl, k1, _⟩
      exact sqt (k1 _ _ hSN)
    · rintro i x σ H' hx ⟨L, l, y, y2, rfl, k1, hL0, hL, hlen, hm⟩
      obtain ⟨e9, he9, hi9, hd9, hf9⟩ := paired_at hops1 hx
      have hi2 : i < 2 := by
        have := (List.getElem?_eq_some_iff.mp hx).1
        simp only [List.length_cons, List.length_nil] at this
        omega
      have hlen2 : l.length ≤ 2 * lcn n := Nat.le_trans hlen (Nat.mul_le_mul_right _ (by omega))
      repeat' (first | specialize "st" | fail)
      refine ⟨e9, x, R, rfl, tm_ex k1 hi9, hd9, hf9, fun L3 H3 l3 hL3 e3 hl3 hm3 hlen3 => ?_⟩
      refine q_catN (e3 _ _ hL) hl3 (by rw [List.length_map, List.length_map]; omega) fun p4 H4 hp4 e4 hn4 => ?_
      repeat' (first | specialize "st" | fail)
      refine ⟨p4, l ++ l3, _, _, rfl, k1.trans (e3.trans e4), free_back (e0N.trans (k1.trans e3)) hp4, by rw [List.map_append]; exact hn4, by rw [List.length_append, Nat.add_mul]; omega, fun x => ?_⟩
      rw [List.mem_append, hm, hm3, List.take_add_one, he9]
      simp only [List.mem_append, Option.toList_some, List.mem_singleton]
      constructor
      · rintro (⟨e, a, b⟩ | b)
        · exact ⟨e, .inl a, b⟩
        · exact ⟨e9, .inr rfl, b⟩
      · rintro ⟨e, a | rfl, b⟩
        · exact .inl ⟨e, a, b⟩
        · exact .inr b
    · rintro σ H' ⟨L, l, y, y2, rfl, k1, hL0, hL, hlen, hm⟩
      repeat' (first | specialize "st" | fail)
      refine q L H' l hL0 (e0N.trans k1) hL (fun x => by rw [hm]; simp [Tm.rd]) ?_
      show l.length ≤ 2 * lcn n
      simp only [List.length_cons, List.length_nil] at hlen
      omega
theorem lcells_all (T : Glo K w mg) (D : Dn K mg "_law_cells" s__law_cells p__law_cells) : ∀ n : Nat, n ≤ 9 → Cal P w K mg base "_law_cells" (1 + n) p__law_cells (sp_lcells n)
  | 0, _ => cal_imp (cal_false D sc__law_cells 0) fun _ _ _ _ ⟨e, _, _, _, _, h, _⟩ => absurd h (by cases e <;> simp [Tm.deep])
  | n + 1, h => ok_lcells T D n (by omega) (lcells_all T D n (by omega))
def sp_lwritten : Sp := fun vs H Q _ => ∃ (e : Tm) (v : V) (R W : Int → Prop), vs = [v] ∧ e.In H v ∧ e.aim W R ∧ ∀ (L : Addr) (H' : Hp) (l : List Int), H L = none → Ex H H' → H' L = some (.lst (l.map V.int)) → (∀ x, x ∈ l ↔ e.tw x) → l.length ≤ 5 → Q (.ref L) H'
theorem ok_lwritten (T : Glo K w mg) (D : Dn K mg "_law_written" s__law_written p__law_written) : Cal P w K mg base "_law_written" 1 p__law_written sp_lwritten := by
  refine D.ok sc__law_written (fun vs H Q E h => ?_) (fun f cdv A outer s H vs Q E hr h => ?_)
  · obtain ⟨_, _, _, _, rfl, _⟩ := h
    rfl
  obtain ⟨e, v, R, W, rfl, he, hf, q⟩ := h
  refine ⟨_, (pss_one (ps_ret (pe_ifExp (pt_cmpR (op_eqA (hu64 hr)) (pe_ix ix_seq (pv 0) pe_int (fun _ _ => rfl)) pe_str (nomark _)) (pe_lst (pa_cons (pe_ix ix_seq (pv 0) pe_int (fun _ _ => rfl)) pa_nil)) (pe_lc (own := [("k", 1)]) (tt := tYes) rfl sc__law_written.nd (pi_range1 rfl T.n_range (pa_cons (pe_ix ix_seq (pv 0) pe_int (fun _ _ => rfl)) pa_nil)) (blkOk_by (N := ["target", "k"]) (sc := defScope s__law_written) (by decide +kernel)) (fun _ _ _ _ _ => (pg_name (i := 1) sc__law_written.nd rfl (by first | exact Or.inl rfl | exact Or.inr rfl))) (fun _ _ _ _ _ => pts_nil) (fun _ _ _ _ _ => (pe_op (op_addK (K := K) rfl) (pe_ix (ix_seqK (K := K) rfl) (pv 0) pe_int (fun _ _ => rfl)) (pv 1))))))), ?_⟩
  try dsimp only [cxOf, Cx.nox]
  cases e with
  | cell k =>
    obtain ⟨p, rfl, hp⟩ := he
    repeat' (first | specialize "st" | fail)
    exact q _ _ [k] hp ke hn (fun x => List.mem_singleton) (by show 1 ≤ 5; decide)
  | «at» f0 s0 e0 =>
    obtain ⟨p, x, rfl, hp, hx⟩ := he
    have hs0 : 0 < s0 ∧ s0 < 5 := ⟨hf.1, hf.2.1⟩
    repeat' (first | specialize "st" | fail)
    intro D hD
    refine lc_range (lo := 0) (n := _) (fun i H' => Ex H H' ∧ H' D = some (.lst ((rgI f0 i).map V.int))) ?_ ?_ ?_
    · exact ⟨Ex.mk hD rfl, upd_same⟩
    · rintro i H' hi ⟨e, h1⟩
      refine ⟨rfl, ?_⟩
      repeat' (first | specialize "st" | fail)
      refine ⟨_, h1, sl1000' (by unfold rgI; simp; omega), fun b u hb => ?_, ?_⟩
      · rw [upd_ne (ne_of_none hb hD)]
        exact e _ _ hb
      · rw [upd_same, ← List.map_singleton, ← List.map_append]
        unfold rgI
        rw [Int.toNat_natCast, Int.toNat_natCast, List.range_succ, List.map_append]
        simp
    · rintro H' ⟨e, h1⟩
      rw [show ((s0.toNat : Nat) : Int) = s0 by omega] at h1
      exact q _ _ _ hD e h1 (fun x => rgI_mem (by omega)) (by unfold rgI; rw [List.length_map, List.length_range]; omega)
  | num _ => exact hf.elim
  | neg _ => exact hf.elim
  | not _ => exact hf.elim
  | bin _ _ _ => exact hf.elim
def sp_laim : Sp := fun vs H Q _ => ∃ (e : Tm) (v : V) (R W : Int → Prop), vs = [v] ∧ e.In H v ∧ e.aim W R ∧ e.deep ≤ 5 ∧ ∀ (L : Addr) (H' : Hp) (l : List Int), H L = none → Ex H H' → H' L = some (.lst (l.map V.int)) → (∀ x, x ∈ l ↔ e.ti x) → l.length ≤ 256 → Q (.ref L) H'
theorem ok_laim (T : Glo K w mg) (D : Dn K mg "_law_aim" s__law_aim p__law_aim) (G__law_cells : Cal P w K mg base "_law_cells" 7 p__law_cells (sp_lcells 6)) : Cal P w K mg base "_law_aim" 8 p__law_aim sp_laim := by
  refine D.ok sc__law_aim (fun vs H Q E h => ?_) (fun f cdv A outer s H vs Q E hr h => ?_)
  · obtain ⟨_, _, _, _, rfl, _⟩ := h
    rfl
  obtain ⟨e, v, R, W, rfl, he, hf, hd, q⟩ := h
  refine ⟨_, (pss_one (ps_ret (pe_ifExp (pt_cmpR (op_eqA (hu64 hr)) (pe_ix ix_seq (pv 0) pe_int (fun _ _ => rfl)) pe_str (nomark _)) (pe_lst pa_nil) (pe_cal G__law_cells (hr.mono (by (first | subst "lev" | fail))) rfl (pa_cons (pe_ix ix_seq (pv 0) pe_int (fun _ _ => rfl)) pa_nil))))), ?_⟩
  try dsimp only [cxOf, Cx.nox]
  cases e with
  | cell k =>
    obtain ⟨p, rfl, hp⟩ := he
    repeat' (first | specialize "st" | fail)
    exact q _ _ [] hp ke hn (fun x => ⟨fun h => absurd h List.not_mem_nil, fun h => h.elim⟩) (by decide)
  | «at» f0 s0 e0 =>
    obtain ⟨p, x, rfl, hp, hx⟩ := he
    repeat' (first | specialize "st" | fail)
    exact ⟨e0, x, R, rfl, hx, by simp only [Tm.deep] at hd; omega, hf.2.2.2, fun L H' l hL e1 hl hm hlen => q L H' l hL e1 hl hm hlen⟩
  | num _ => exact hf.elim
  | neg _ => exact hf.elim
  | not _ => exact hf.elim
  | bin _ _ _ => exact hf.elim
abbrev s__law_uses : Stmt := topS 43
theorem sc__law_uses : FnScope ["s", "kind", "reads", "writes", "parts", "part", "more", "guard", "c", "target", "row"] ["s"] (defScope s__law_uses) := ⟨rfl, rfl, rfl, by decide +kernel, rfl, by decide +kernel, by decide +kernel⟩
abbrev p__law_uses : List Str := ["s"]
abbrev s__law_takes : Stmt := topS 44
theorem sc__law_takes : FnScope ["s", "reads", "writes"] ["s"] (defScope s__law_takes) := ⟨rfl, rfl, rfl, by decide +kernel, rfl, by decide +kernel, by decide +kernel⟩
abbrev p__law_takes : List Str := ["s"]
theorem Sx.tc_partsR {s : Sx} (x : Int) : s.tc.R x ↔ s.ow.R x ∨ (tcL s.parts).R x := (Sx.tc_parts (s := s)).r x |>.symm
theorem Sx.tc_partsW {s : Sx} (x : Int) : s.tc.W x ↔ s.ow.W x ∨ (tcL s.parts).W x := (Sx.tc_parts (s := s)).w x |>.symm
def cstL : List Sx → Nat
  | [] => 0
  | s :: r => (1200 * s.sz - 600) + cstL r
theorem cstL_take {ss : List Sx} {i : Nat} {s : Sx} (h : ss[i]? = some s) : cstL (ss.take i) + (1200 * s.sz - 600) = cstL (ss.take (i + 1)) := by
  induction ss generalizing i with
  | nil => cases h
  | cons x ss ih =>
    cases i with
    | zero =>
      simp at h
      subst h
      show 0 + (1200 * x.sz - 600) = (1200 * x.sz - 600) + cstL (ss.take 0)
      simp [cstL]
    | succ i =>
      have h' : ss[i]? = some s := by simpa using h
      have := ih h'
      show (1200 * x.sz - 600) + cstL (ss.take i) + (1200 * s.sz - 600) = (1200 * x.sz - 600) + cstL (ss.take (i + 1))
      omega
theorem cstL_take_le (ss : List Sx) (i : Nat) : cstL (ss.take i) ≤ cstL ss := by
  induction ss generalizing i with
  | nil => simp
  | cons x ss ih =>
    cases i with
    | zero => simp [cstL]
    | succ i =>
      have := ih i
      show (1200 * x.sz - 600) + cstL (ss.take i) ≤ (1200 * x.sz - 600) + cstL ss
      omega
theorem cstL_sz : ∀ l : List Sx, cstL l + 600 * l.length = 1200 * szL l
  | [] => rfl
  | s :: r => by
    have := cstL_sz r
    have := s.sz0
    simp only [cstL, szL, List.length_cons]
    omega
def sp_luses (n : Nat) : Sp := fun vs H Q _ => ∃ (M : List Addr) (s : Sx) (v : V) (F : Fr), vs = [v] ∧ s.In M H v ∧ s.dep ≤ n ∧ s.sz ≤ 6200 ∧ s.fw F ∧
  ∀ (q a b : Addr) (r w : List Int) (H' : Hp), Ex H H' → H' q = some (.tup [.ref a, .ref b]) → H' a = some (.lst (r.map V.int)) → H' b = some (.lst (w.map V.int)) → (∀ x, x ∈ r ↔ s.tc.R x) → (∀ x, x ∈ w ↔ s.tc.W x) → r.length ≤ 1200 * s.sz - 600 → w.length ≤ 1200 * s.sz - 600 → Q (.ref q) H'
theorem ok_luses (T : Glo K w mg) (D : Dn K mg "_law_uses" s__law_uses p__law_uses) (n : Nat) (G__law_cells : Cal P w K mg base "_law_cells" 7 p__law_cells (sp_lcells 6)) (G__law_written : Cal P w K mg base "_law_written" 1 p__law_written sp_lwritten) (G__law_aim : Cal P w K mg base "_law_aim" 8 p__law_aim sp_laim)
    (G__law_uses : Cal P w K mg base "_law_uses" (8 + n) p__law_uses (sp_luses n)) : Cal P w K mg base "_law_uses" (8 + n + 1) p__law_uses (sp_luses (n + 1)) := by
  have hlc : lcn 6 = 256 := by decide
  refine D.ok sc__law_uses (fun vs H Q E h => ?_) (fun f cdv A outer s H vs Q E hr h => ?_)
  · obtain ⟨_, _, _, _, rfl, _⟩ := h
    rfl
  obtain ⟨M, s0, v, F, rfl, hs, hd, hz, hf, q⟩ := h
  refine ⟨_, (pss_cons (ps_set (i := 1) sc__law_uses.nd rfl (by first | exact Or.inl rfl | exact Or.inr rfl) (pe_ix ix_seq (pv 0) pe_int (fun _ _ => rfl))) (pss_cons (ps_if (pt_cmpR (op_eqA (hu64 hr)) (pv 1) pe_str (nomark _)) (pss_one (ps_ret (pe_tup (pa_cons (pe_op op_addA (pe_cal G__law_cells (hr.mono (by (first | subst "lev" | fail))) rfl (pa_cons (pe_ix ix_seq (pv 0) pe_int (fun _ _ => rfl)) pa_nil)) (pe_cal G__law_aim (hr.mono (by (first | subst "lev" | fail))) rfl (pa_cons (pe_ix ix_seq (pv 0) pe_int (fun _ _ => rfl)) pa_nil))) (pa_cons (pe_cal G__law_written (hr.mono (by (first | subst "lev" | fail))) rfl (pa_cons (pe_ix ix_seq (pv 0) pe_int (fun _ _ => rfl)) pa_nil)) pa_nil))))) pss_nil) (pss_cons (ps_if (pt_cmpR (op_eqA (hu64 hr)) (pv 1) pe_str (nomark _)) (pss_one (ps_ret (pe_tup (pa_cons (pe_cal G__law_cells (hr.mono (by (first | subst "lev" | fail))) rfl (pa_cons (pe_ix ix_seq (pv 0) pe_int (fun _ _ => rfl)) pa_nil)) (pa_cons (pe_lst pa_nil) pa_nil))))) pss_nil) (pss_cons (ps_if (pt_cmpR (op_eqA (hu64 hr)) (pv 1) pe_str (nomark _)) (pss_one (ps_ret (pe_tup (pa_cons (pe_cal G__law_aim (hr.mono (by (first | subst "lev" | fail))) rfl (pa_cons (pe_ix ix_seq (pv 0) pe_int (fun _ _ => rfl)) pa_nil)) (pa_cons (pe_cal G__law_written (hr.mono (by (first | subst "lev" | fail))) rfl (pa_cons (pe_ix ix_seq (pv 0) pe_int (fun _ _ => rfl)) pa_nil)) pa_nil))))) pss_nil) (pss_cons (ps_par (i := 2) (j := 3) rfl sc__law_uses.nd rfl rfl (by decide) rfl rfl (pa_cons (pe_lst pa_nil) (pa_cons (pe_lst pa_nil) pa_nil)) rfl) (pss_cons (ps_set (i := 4) sc__law_uses.nd rfl (by first | exact Or.inl rfl | exact Or.inr rfl) (pe_lst pa_nil)) (pss_cons (ps_if (pt_cmpR (op_eqA (hu64 hr)) (pv 1) pe_str (nomark _)) (pss_one (ps_set (i := 4) sc__law_uses.nd rfl (by first | exact Or.inl rfl | exact Or.inr rfl) (pe_ix ix_seq (pv 0) pe_int (fun _ _ => rfl)))) (pss_one (ps_if (pt_cmpR (op_eqA (hu64 hr)) (pv 1) pe_str (nomark _)) (pss_one (ps_setLc (i := 4) (own := [("row", 10)]) (tt := tYes) rfl sc__law_uses.nd rfl rfl (sw_true rfl rfl rfl (by decide +kernel)) (pi_list (pe_ix ix_seq (pv 0) pe_int (fun _ _ => rfl))) (blkOk_by (N := ["s", "kind", "reads", "writes", "parts", "part", "more", "guard", "c", "target", "row"]) (sc := defScope s__law_uses) (by decide +kernel)) (fun _ _ _ _ _ => (pg_name (i := 10) sc__law_uses.nd rfl (by first | exact Or.inl rfl | exact Or.inr rfl))) (fun _ _ _ _ _ => pts_nil) (fun _ _ _ _ _ => (pe_ix (ix_seqK (K := K) rfl) (pv 10) pe_int (fun _ _ => rfl))))) (pss_one (ps_if (pt_cmpR (op_eqA (hu64 hr)) (pv 1) pe_str (nomark _)) (pss_one (ps_for PassesOwn.never rfl (pi_list (pe_ix ix_seq (pv 0) pe_int (fun _ _ => rfl))) (pg_tup rfl (pgs_cons (pg_name (i := 7) sc__law_uses.nd rfl (by first | exact Or.inl rfl | exact Or.inr rfl)) (pgs_cons (pg_name (i := 8) sc__law_uses.nd rfl (by first | exact Or.inl rfl | exact Or.inr rfl)) (pgs_cons (pg_name (i := 9) sc__law_uses.nd rfl (by first | exact Or.inl rfl | exact Or.inr rfl)) (pgs_cons (pg_name (i := 5) sc__law_uses.nd rfl (by first | exact Or.inl rfl | exact Or.inr rfl)) pgs_nil))))) (pss_cons (ps_set (i := 2) sc__law_uses.nd rfl (by first | exact Or.inl rfl | exact Or.inr rfl) (pe_op op_addA (pe_op op_addA (pv 2) (pe_ifExp (pt_cmpR op_isN1 (pv 7) pe_non (nomark _)) (pe_lst pa_nil) (pe_cal G__law_cells (hr.mono (by (first | subst "lev" | fail))) rfl (pa_cons (pv 7) pa_nil)))) (pe_cal G__law_aim (hr.mono (by (first | subst "lev" | fail))) rfl (pa_cons (pv 9) pa_nil)))) (pss_cons (ps_set (i := 3) sc__law_uses.nd rfl (by first | exact Or.inl rfl | exact Or.inr rfl) (pe_op op_addA (pv 3) (pe_cal G__law_written (hr.mono (by (first | subst "lev" | fail))) rfl (pa_cons (pv 9) pa_nil)))) (pss_one (ps_set (i := 4) sc__law_uses.nd rfl (by first | exact Or.inl rfl | exact Or.inr rfl) (pe_op op_addA (pv 4) (pe_lst (pa_cons (pv 5) pa_nil))))))))) (pss_one (ps_if (pt_cmpR (op_eqA (hu64 hr)) (pv 1) pe_str (nomark _)) (pss_cons (ps_set (i := 2) sc__law_uses.nd rfl (by first | exact Or.inl rfl | exact Or.inr rfl) (pe_cal G__law_cells (hr.mono (by (first | subst "lev" | fail))) rfl (pa_cons (pe_ix ix_seq (pv 0) pe_int (fun _ _ => rfl)) pa_nil))) (pss_one (ps_set (i := 4) sc__law_uses.nd rfl (by first | exact Or.inl rfl | exact Or.inr rfl) (pe_lst (pa_cons (pe_ix ix_seq (pv 0) pe_int (fun _ _ => rfl)) (pa_cons (pe_ix ix_seq (pv 0) pe_int (fun _ _ => rfl)) pa_nil)))))) (pss_one (ps_if (pt_cmpR (op_eqA (hu64 hr)) (pv 1) pe_str (nomark _)) (pss_cons (ps_set (i := 2) sc__law_uses.nd rfl (by first | exact Or.inl rfl | exact Or.inr rfl) (pe_cal G__law_cells (hr.mono (by (first | subst "lev" | fail))) rfl (pa_cons (pe_ix ix_seq (pv 0) pe_int (fun _ _ => rfl)) pa_nil))) (pss_one (ps_set (i := 4) sc__law_uses.nd rfl (by first | exact Or.inl rfl | exact Or.inr rfl) (pe_lst (pa_cons (pe_ix ix_seq (pv 0) pe_int (fun _ _ => rfl)) pa_nil))))) pss_nil))))))))) (pss_cons (ps_for PassesOwn.never rfl (pi_list (pv 4)) (pg_name (i := 5) sc__law_uses.nd rfl (by first | exact Or.inl rfl | exact Or.inr rfl)) (pss_cons (ps_set (i := 6) sc__law_uses.nd rfl (by first | exact Or.inl rfl | exact Or.inr rfl) (pe_cal G__law_uses (hr.mono (by (first | subst "lev" | fail))) rfl (pa_cons (pv 5) pa_nil))) (pss_cons (ps_set (i := 2) sc__law_uses.nd rfl (by first | exact Or.inl rfl | exact Or.inr rfl) (pe_op op_addA (pv 2) (pe_ix ix_seq (pv 6) pe_int (fun _ _ => rfl)))) (pss_one (ps_set (i := 3) sc__law_uses.nd rfl (by first | exact Or.inl rfl | exact Or.inr rfl) (pe_op op_addA (pv 3) (pe_ix ix_seq (pv 6) pe_int (fun _ _ => rfl)))))))) (pss_one (ps_ret (pe_tup (pa_cons (pv 2) (pa_cons (pv 3) pa_nil))))))))))))), ?_⟩
  try dsimp only [cxOf, Cx.nox]
  have hsz := s0.szL
  have hsl := szL_len (l := s0.parts)
  have hcs := cstL_sz s0.parts
  have hxz := s0.sz0
  have sim : s0.ow.R = (fun _ => False) ∨ True := .inr trivial
  by_cases k0 : (∃ t e, s0 = .set t e) ∨ (∃ c e, s0 = .give c e) ∨ ∃ c t, s0 = .take c t
  · rcases k0 with ⟨t, e, rfl⟩ | ⟨c, e, rfl⟩ | ⟨c, t, rfl⟩
    · obtain ⟨q0, x, y, rfl, hq0, hx, hy⟩ := hs
      repeat' (first | specialize "st" | fail)
      refine ⟨e, y, F.R, rfl, hy, hf.2.2.2.le6, hf.2.2.1, fun L1 H1 l1 hL1 e1 hl1 hm1 hn1 => ?_⟩
      have hq1 := e1 _ _ hq0
      repeat' (first | specialize "st" | fail)
      refine ⟨t, x, F.R, F.W, rfl, tm_ex e1 hx, hf.1, hf.2.1, fun L2 H2 l2 hL2 e2 hl2 hm2 hn2 => ?_⟩
      refine q_catN (e2 _ _ hl1) hl2 (by rw [List.length_map, List.length_map]; omega) fun p3 H3 hp3 e3 hn3 => ?_
      have e03 : Ex H H3 := e1.trans (e2.trans e3)
      have hq3 := e03 _ _ hq0
      clear hq1
      repeat' (first | specialize "st" | fail)
      refine ⟨t, x, F.R, F.W, rfl, tm_ex e03 hx, hf.1, fun L4 H4 l4 hL4 e4 hl4 hm4 hn4 => ?_⟩
      have hn34 := e4 _ _ hn3
      repeat' (first | specialize "st" | fail)
      refine q p p3 L4 (l1 ++ l2) l4 Hn (e03.trans (e4.trans ke)) hn (by rw [List.map_append]; exact ke _ _ hn34) (ke _ _ hl4) (fun x => ?_) (fun x => ?_) (by rw [List.length_append]; simp only [Sx.sz]; omega) (by simp only [Sx.sz]; omega)
      · rw [List.mem_append, hm1, hm2]
        exact or_comm
      · rw [hm4]
        exact or_f
    · obtain ⟨q0, y, rfl, hq0, hy⟩ := hs
      repeat' (first | specialize "st" | fail)
      refine ⟨e, y, F.R, rfl, hy, Nat.le_succ_of_le hf.2.2, hf.2.1, fun L1 H1 l1 hL1 e1 hl1 hm1 hn1 => ?_⟩
      repeat' (first | specialize "st" | fail)
      rename_i p4 H4 hp4 e4 hn4
      refine q p L1 p4 l1 [] Hn (e1.trans (e4.trans ke)) hn (ke _ _ (e4 _ _ hl1)) (ke _ _ hn4) (fun x => ?_) (fun x => ?_) (by simp only [Sx.sz]; omega) (by simp)
      · rw [hm1]
        exact (fals_or _).symm
      · exact ⟨fun h => absurd h List.not_mem_nil, fun h => h.elim (fun z => z.elim) fun z => z.elim⟩
    · obtain ⟨q0, x, rfl, hq0, hx⟩ := hs
      repeat' (first | specialize "st" | fail)
      refine ⟨t, x, F.R, F.W, rfl, hx, hf.2.1, hf.2.2, fun L2 H2 l2 hL2 e2 hl2 hm2 hn2 => ?_⟩
      have hq2 := e2 _ _ hq0
      repeat' (first | specialize "st" | fail)
      refine ⟨t, x, F.R, F.W, rfl, tm_ex e2 hx, hf.2.1, fun L4 H4 l4 hL4 e4 hl4 hm4 hn4 => ?_⟩
      have hl24 := e4 _ _ hl2
      repeat' (first | specialize "st" | fail)
      refine q p L2 L4 l2 l4 Hn (e2.trans (e4.trans ke)) hn (ke _ _ hl24) (ke _ _ hl4) (fun x => ?_) (fun x => ?_) (by simp only [Sx.sz]; omega) (by simp only [Sx.sz]; omega)
      · rw [hm2]
        exact (fals_or _).symm
      · rw [hm4]
        exact (fals_or _).symm
  · have hkd : ∃ (p0 : Addr) (kd : Str) (r0 : List V), v = .ref p0 ∧ H p0 = some (.tup (.str kd :: r0)) ∧ ¬ V.str kd = V.str "set" ∧ ¬ V.str kd = V.str "give" ∧ ¬ V.str kd = V.str "take" := by
      cases s0 with
      | set t e => exact absurd (.inl ⟨t, e, rfl⟩) k0
      | give c e => exact absurd (.inr (.inl ⟨c, e, rfl⟩)) k0
      | take c t => exact absurd (.inr (.inr ⟨c, t, rfl⟩)) k0
      | skip => obtain ⟨p0, e, h⟩ := hs; exact ⟨p0, _, _, e, h, by decide +kernel, by decide +kernel, by decide +kernel⟩
      | stop => obtain ⟨p0, e, h⟩ := hs; exact ⟨p0, _, _, e, h, by decide +kernel, by decide +kernel, by decide +kernel⟩
      | ife _ _ _ => obtain ⟨p0, _, _, _, e, h, _⟩ := hs; exact ⟨p0, _, _, e, h, by decide +kernel, by decide +kernel, by decide +kernel⟩
      | rep _ _ _ => obtain ⟨p0, _, _, e, h, _⟩ := hs; exact ⟨p0, _, _, e, h, by decide +kernel, by decide +kernel, by decide +kernel⟩
      | seq _ => obtain ⟨p0, _, _, e, h, _⟩ := hs; exact ⟨p0, _, _, e, h, by decide +kernel, by decide +kernel, by decide +kernel⟩
      | par _ => obtain ⟨p0, _, _, e, h, _⟩ := hs; exact ⟨p0, _, _, e, h, by decide +kernel, by decide +kernel, by decide +kernel⟩
      | alt _ => obtain ⟨p0, _, _, e, h, _⟩ := hs; exact ⟨p0, _, _, e, h, by decide +kernel, by decide +kernel, by decide +kernel⟩
    obtain ⟨p0, kd, r0, rfl, hp0, m1, m2, m3⟩ := hkd
    repeat' (first | specialize "st" | fail)
    refine q_ixT (xs := .str kd :: r0) (v := .str kd) (sqt hp0) at0 ?_
    iterate 60 (first | with_reducible refine q_eqN rfl m1 ?_ | with_reducible refine q_eqN rfl m2 ?_ | with_reducible refine q_eqN rfl m3 ?_ | ((fail_if_success (with_reducible refine r_ifS (c := tTest (tOp (rEqA K) (tVar 1) (tC (V.str (PySem.Str.ofString "seq"))))) ?_)); (first | specialize "st" | fail)) | skip)
    rename_i RA0 H2 hRA0 e2 hR2 WA0 H3 hWA0 e3 hW3
    obtain ⟨PA0, rfl⟩ : ∃ x, x = p := ⟨_, rfl⟩
    obtain ⟨G, rfl⟩ : ∃ x, x = Hn := ⟨_, rfl⟩
    have eG : Ex H G := e2.trans (e3.trans ke)
    have hR : G RA0 = some (.lst []) := ke _ _ (e3 _ _ hR2)
    have hW : G WA0 = some (.lst []) := ke _ _ hW3
    have hPA : G PA0 = some (.lst []) := hn
    clear e2 e3 ke hR2 hW3 hn hRA0 hWA0 hp
    refine ifsj (fun σ' H' => ∃ (RA WA PA : Addr) (r0 w0 : List Int) (pl : List V) (y5 y6 y7 y8 y9 y10 : Option V), σ' = [some (.ref p0), some (.str kd), some (.ref RA), some (.ref WA), some (.ref PA), y5, y6, y7, y8, y9, y10] ∧ Ex H H' ∧ H' RA = some (.lst (r0.map V.int)) ∧ H' WA = some (.lst (w0.map V.int)) ∧ H' PA = some (.lst pl) ∧ SxL M H' pl s0.parts ∧ (∀ x, x ∈ r0 ↔ s0.ow.R x) ∧ (∀ x, x ∈ w0 ↔ s0.ow.W x) ∧ r0.length + cstL s0.parts ≤ 1200 * s0.sz - 600 ∧ w0.length + cstL s0.parts ≤ 1200 * s0.sz - 600) (fun nx' hN' => ?_) (fun σ' H' hR' => ?_)
    · have none0 : ∀ {P : Prop} {x : Int}, (P → False) → (x ∈ ([] : List Int) ↔ P) := fun h => ⟨fun z => absurd z List.not_mem_nil, fun z => (h z).elim⟩
      cases s0 with
      | set t e => exact absurd (.inl ⟨t, e, rfl⟩) k0
      | give c e => exact absurd (.inr (.inl ⟨c, e, rfl⟩)) k0
      | take c t => exact absurd (.inr (.inr ⟨c, t, rfl⟩)) k0
      | skip =>
        obtain ⟨q0, e, hq0⟩ := hs
        cases e
        rw [hp0] at hq0
        cases hq0
        repeat' (first | specialize "st" | fail)
        exact hN' _ _ ⟨RA0, WA0, PA0, [], [], [], _, _, _, _, _, _, rfl, eG, hR, hW, hPA, .nil, fun x => none0 id, fun x => none0 id, by simp only [List.length_nil]; omega, by simp only [List.length_nil]; omega⟩
      | stop =>
        obtain ⟨q0, e, hq0⟩ := hs
        cases e
        rw [hp0] at hq0
        cases hq0
        repeat' (first | specialize "st" | fail)
        exact hN' _ _ ⟨RA0, WA0, PA0, [], [], [], _, _, _, _, _, _, rfl, eG, hR, hW, hPA, .nil, fun x => none0 id, fun x => none0 id, by simp only [List.length_nil]; omega, by simp only [List.length_nil]; omega⟩
      | seq ss =>
        obtain ⟨q0, l, xs, e, hq0, hl, nl, hss⟩ := hs
        cases e
        rw [hp0] at hq0
        cases hq0
        have hp1 := eG _ _ hp0
        repeat' (first | specialize "st" | fail)
        exact hN' _ _ ⟨RA0, WA0, l, [], [], xs, _, _, _, _, _, _, rfl, eG, hR, hW, eG _ _ hl, Ss.in_list (Ss.In.kp eG.kp hss), fun x => none0 id, fun x => none0 id, by simp only [List.length_nil]; omega, by simp only [List.length_nil]; omega⟩
      | par ps =>
        obtain ⟨q0, l, xs, e, hq0, hl, nl, hss⟩ := hs
        cases e
        rw [hp0] at hq0
        cases hq0
        have hp1 := eG _ _ hp0
        obtain ⟨pl, hrow, hpl⟩ := Ps.pv (Ps.In.kp eG.kp hss)
        have hxl := Paired.length hrow
        have hplen := Paired.length hpl
        have hl1 := eG _ _ hl
        repeat' (first | specialize "st" | fail)
        intro D hD
        refine lc_list (xs := xs) (fun i H' => Ex G H' ∧ H' D = some (.lst (pl.take i))) ?_ ?_ ?_ ?_
        · exact ⟨Ex.mk hD rfl, upd_same⟩
        · rintro i H' _ ⟨e, _⟩
          exact sql (e _ _ hl1)
        · rintro i x H' hx ⟨e, h1⟩
          obtain ⟨y0, e3, ⟨q0, t, rfl, hq⟩⟩ := paired_at hrow hx
          have hq := e _ _ hq
          have hi : i < pl.length := (List.getElem?_eq_some_iff.mp e3).1
          have hpz : pl.length ≤ 7000 := by rw [hplen]; simp only [Sx.parts] at hsl hsz; omega
          refine ⟨rfl, ?_⟩
          repeat' (first | specialize "st" | fail)
          refine ⟨_, h1, sl1000' (by rw [List.length_take]; omega), fun b u hb => ?_, ?_⟩
          · rw [upd_ne (ne_of_none hb hD)]
            exact e _ _ hb
          · rw [List.take_add_one, e3]
            exact upd_same
        · rintro H' ⟨e, h1⟩
          rw [hxl, List.take_length] at h1
          repeat' (first | specialize "st" | fail)
          exact hN' _ _ ⟨RA0, WA0, D, [], [], pl, _, _, _, _, _, _, rfl, eG.trans e, e _ _ hR, e _ _ hW, h1, Paired.mapP hpl fun _ _ z => z.kp e.kp, fun x => none0 id, fun x => none0 id, by simp only [List.length_nil]; omega, by simp only [List.length_nil]; omega⟩
      | ife e a b =>
        obtain ⟨q0, x, y, z, e0, hq0, hx, ha, hb⟩ := hs
        cases e0
        rw [hp0] at hq0
        cases hq0
        have hp1 := eG _ _ hp0
        repeat' (first | specialize "st" | fail)
        refine ⟨e, x, F.R, rfl, tm_ex eG hx, Nat.le_succ_of_le hf.2.1, hf.1, fun L1 H1 l1 hL1 e1 hl1 hm1 hn1 => ?_⟩
        have hp2 := e1 _ _ hp1
        repeat' (first | specialize "st" | fail)
        have e9 : Ex H Hn := eG.trans (e1.trans ke)
        exact hN' _ _ ⟨L1, WA0, p, l1, [], _, _, _, _, _, _, _, rfl, e9, ke _ _ hl1, ke _ _ (e1 _ _ hW), hn, .cons (ha.kp e9.kp) (.cons (hb.kp e9.kp) .nil), hm1, fun x => none0 id, by simp only [Sx.parts, Sx.sz, List.length_cons, List.length_nil] at *; omega, by simp only [List.length_nil]; omega⟩
      | rep e m a =>
        obtain ⟨q0, x, y, e0, hq0, hx, ha⟩ := hs
        cases e0
        rw [hp0] at hq0
        cases hq0
        have hp1 := eG _ _ hp0
        repeat' (first | specialize "st" | fail)
        refine ⟨e, x, F.R, rfl, tm_ex eG hx, Nat.le_succ_of_le hf.2.1, hf.1, fun L1 H1 l1 hL1 e1 hl1 hm1 hn1 => ?_⟩
        have hp2 := e1 _ _ hp1
        repeat' (first | specialize "st" | fail)
        have e9 : Ex H Hn := eG.trans (e1.trans ke)
        exact hN' _ _ ⟨L1, WA0, p, l1, [], _, _, _, _, _, _, _, rfl, e9, ke _ _ hl1, ke _ _ (e1 _ _ hW), hn, .cons (ha.kp e9.kp) .nil, hm1, fun x => none0 id, by simp only [Sx.parts, Sx.sz, List.length_cons, List.length_nil] at *; omega, by simp only [List.length_nil]; omega⟩
      | alt rs =>
        obtain ⟨q0, l, xs, e, hq0, hl, nl, hss⟩ := hs
        cases e
        rw [hp0] at hq0
        cases hq0
        have hp1 := eG _ _ hp0
        have hss1 := As.In.kp eG.kp hss
        obtain ⟨pl, hrow, hpl⟩ := As.pv hss1
        have hxl := Paired.length hrow
        have hplen := Paired.length hpl
        have hrl := As.rows_len hss1
        have hl1 := eG _ _ hl
        have hpz : pl.length ≤ 6200 := by rw [hplen]; simp only [Sx.parts] at hsl hsz; omega
        repeat' (first | specialize "st" | fail)
        refine w_list (xs := xs) (fun i σ H3 => ∃ (RA WA PA : Addr) (r0 w0 : List Int) (y5 y7 y8 y9 : Option V), σ = [some (.ref p0), some (.str "alt"), some (.ref RA), some (.ref WA), some (.ref PA), y5, none, y7, y8, y9, none] ∧ Ex G H3 ∧ H3 RA = some (.lst (r0.map V.int)) ∧ H3 WA = some (.lst (w0.map V.int)) ∧ H3 PA = some (.lst (pl.take i)) ∧ (∀ x, x ∈ r0 ↔ (owL (rs.rows.take i)).R x) ∧ (∀ x, x ∈ w0 ↔ (owL (rs.rows.take i)).W x) ∧ r0.length ≤ 512 * i ∧ w0.length ≤ 512 * i) ?_ ?_ ?_ ?_
        · exact ⟨RA0, WA0, PA0, [], [], _, _, _, _, rfl, Ex.refl _, hR, hW, hPA, fun x => none0 id, fun x => none0 id, by simp, by simp⟩
        · rintro i σ H3 _ ⟨_, _, _, _, _, _, _, _, _, rfl, e3, _⟩
          exact sql (e3 _ _ hl1)
        · rintro i x σ H3 hx ⟨RA, WA, PA, r0, w0, y5, y7, y8, y9, rfl, e3, hRA, hWA, hPA3, hmr, hmw, hlr, hlw⟩
          obtain ⟨q1, u, g, c, t, y, z, rfl, hq1, hrw, hg, hty, hgf, hcT, hta, htd⟩ := As.in_row hss1 hf hx
          obtain ⟨y0, e4, ⟨q9, u9, c9, t9, e9, hq9⟩⟩ := paired_at hrow hx
          cases e9
          rw [hq1] at hq9
          cases hq9
          have hq3 := e3 _ _ hq1
          have hi : i < pl.length := (List.getElem?_eq_some_iff.mp e4).1
          iterate 40 (first | ((fail_if_success (with_reducible refine r_ifE ?_)); (first | specialize "st" | fail)) | skip)
          refine ifj (fun v9 H4 => ∃ (L : Addr) (l0 : List Int), v9 = .ref L ∧ Ex H3 H4 ∧ H4 L = some (.lst (l0.map V.int)) ∧ (∀ x, x ∈ l0 ↔ (frO g).R x) ∧ l0.length ≤ 256) (fun Q' hQ' => ?_) (fun v9 H4 hR4 => ?_)
          · cases g with
            | none =>
              obtain rfl : u = .non := hg
              repeat' (first | specialize "st" | fail)
              exact hQ' _ _ ⟨p, [], rfl, ke, hn, fun x => none0 id, by decide⟩
            | some ge =>
              have hge : ge.In G u := hg
              have huo : ∃ a, u = V.ref a := by
                rcases (Tm.In.ok hge) with h | ⟨a, h⟩ | h
                · cases ge <;> obtain ⟨_, h1⟩ := hge <;> first | (rw [h] at h1; cases h1.1) | (obtain ⟨_, h1, _⟩ := h1; rw [h] at h1; cases h1) | (obtain ⟨_, _, h1, _⟩ := h1; rw [h] at h1; cases h1)
                · cases ge <;> obtain ⟨_, h1⟩ := hge <;> first | (rw [h] at h1; cases h1.1) | (obtain ⟨_, h1, _⟩ := h1; rw [h] at h1; cases h1) | (obtain ⟨_, _, h1, _⟩ := h1; rw [h] at h1; cases h1)
                · exact h
              obtain ⟨ua, rfl⟩ := huo
              repeat' (first | specialize "st" | fail)
              exact ⟨ge, _, F.R, rfl, tm_ex e3 hge, Nat.le_succ_of_le hgf.2, hgf.1, fun L1 H1 l1 hL1 e1 hl1 hm1 hn1 => hQ' _ _ ⟨L1, l1, rfl, e1, hl1, hm1, by omega⟩⟩
          · obtain ⟨L, l0, rfl, e34, hL4, hm0, hl0⟩ := hR4
            have b1 : 512 * i ≤ 3200000 := by omega
            refine q_catB (e34 _ _ hRA) hL4 (by rw [List.length_map, List.length_map]; omega) fun p5 H5 hp5 e45 hn5 => ?_
            have e35 := e34.trans e45
            repeat' (first | specialize "st" | fail)
            refine ⟨t, y, F.R, F.W, rfl, tm_ex (e3.trans e35) hty, hta, htd, fun L6 H6 l6 hL6 e56 hl6 hm6 hn6 => ?_⟩
            refine q_catB (e56 _ _ hn5) hl6 (by rw [List.length_append, List.length_map, List.length_map, List.length_map]; omega) fun p7 H7 hp7 e67 hn7 => ?_
            have e37 := e35.trans (e56.trans e67)
            have hW7 := e37 _ _ hWA
            have hP7 := e37 _ _ hPA3
            repeat' (first | specialize "st" | fail)
            refine ⟨t, y, F.R, F.W, rfl, tm_ex (e3.trans e37) hty, hta, fun L8 H8 l8 hL8 e78 hl8 hm8 hn8 => ?_⟩
            refine q_catB (e78 _ _ hW7) hl8 (by rw [List.length_map, List.length_map]; omega) fun p9 H9 hp9 e89 hn9 => ?_
            have e79 := e78.trans e89
            have hP9 := e79 _ _ hP7
            have hn79 := e79 _ _ hn7
            have hz9 : (pl.take i).length ≤ 6200 := by rw [List.length_take]; omega
            clear hP7 hW7 hRA hWA hPA3
            repeat' (first | specialize "st" | fail)
            rename_i pX HX hpX eX hnX
            have e9n : Ex H9 Hn := eX.trans ke
            refine ⟨p7, p9, p, r0 ++ l0 ++ l6, w0 ++ l8, _, _, _, _, rfl, e3.trans (e37.trans (e79.trans e9n)), ?_, ?_, ?_, fun x => ?_, fun x => ?_, ?_, ?_⟩
            · rw [List.map_append, List.map_append]
              exact e9n _ _ hn79
            · rw [List.map_append]
              exact e9n _ _ hn9
            · rw [hn, List.take_add_one, e4]
              rfl
            · rw [← (owL_take hrw).r, List.mem_append, List.mem_append, hmr, hm0, hm6]
              show _ ↔ _ ∨ ((False ∨ _) ∨ _)
              rw [fals_or, or_assoc]
              exact Iff.rfl
            · rw [← (owL_take hrw).w, List.mem_append, hmw, hm8]
              show _ ↔ _ ∨ ((False ∨ (frO g).W x) ∨ _)
              have : ¬ (frO g).W x := by cases g <;> exact id
              simp only [this, fals_or]
              exact Iff.rfl
            · rw [List.length_append, List.length_append]
              omega
            · rw [List.length_append]
              omega
        · rintro σ H3 ⟨RA, WA, PA, r0, w0, y5, y7, y8, y9, rfl, e3, hRA, hWA, hPA3, hmr, hmw, hlr, hlw⟩
          rw [← hrl, List.take_length, ← As.ow_rows] at hmr hmw
          rw [hxl, List.take_length] at hPA3
          repeat' (first | specialize "st" | fail)
          exact hN' _ _ ⟨RA, WA, PA, r0, w0, pl, _, _, _, _, _, _, rfl, eG.trans e3, hRA, hWA, hPA3, Paired.mapP hpl fun _ _ z => z.kp e3.kp, hmr, hmw, by simp only [Sx.parts] at *; omega, by simp only [Sx.parts] at *; omega⟩
    · obtain ⟨RA, WA, PA, r0, w0, pl, y5, y6, y7, y8, y9, y10, rfl, e1, hRA, hWA, hPA1, hpl, hmr, hmw, hlr, hlw⟩ := hR'
      clear eG hR hW hPA
      have hlen := Paired.length hpl
      repeat' (first | specialize "st" | fail)
      refine w_list (xs := pl) (fun i σ H3 => ∃ (RB WB : Addr) (r1 w1 : List Int) (z5 z6 : Option V), σ = [some (.ref p0), some (.str kd), some (.ref RB), some (.ref WB), some (.ref PA), z5, z6, y7, y8, y9, y10] ∧ Ex H' H3 ∧ H3 RB = some (.lst (r1.map V.int)) ∧ H3 WB = some (.lst (w1.map V.int)) ∧ (∀ x, x ∈ r1 ↔ s0.ow.R x ∨ (tcL (s0.parts.take i)).R x) ∧ (∀ x, x ∈ w1 ↔ s0.ow.W x ∨ (tcL (s0.parts.take i)).W x) ∧ r1.length ≤ r0.length + cstL (s0.parts.take i) ∧ w1.length ≤ w0.length + cstL (s0.parts.take i)) ?_ ?_ ?_ ?_
      · exact ⟨RA, WA, r0, w0, _, _, rfl, Ex.refl _, hRA, hWA, fun x => (hmr x).trans or_f, fun x => (hmw x).trans or_f, Nat.le_add_right .., Nat.le_add_right ..⟩
      · rintro i σ H3 _ ⟨_, _, _, _, _, _, rfl, e3, _⟩
        exact sql (e3 _ _ hPA1)
      · rintro i x σ H3 hx ⟨RB, WB, r1, w1, z5, z6, rfl, e3, hRB, hWB, hm1, hm2, hb1, hb2⟩
        obtain ⟨s1, hs1, hin⟩ := paired_at hpl hx
        have hmem : s1 ∈ s0.parts := List.mem_of_getElem? hs1
        have hdp := Sx.dep_in hmem
        have hs1z := szL_mem hmem
        have htk := cstL_take hs1
        have htl := cstL_take_le s0.parts (i + 1)
        have hz1 := s1.sz0
        have tt := tcL_take hs1
        repeat' (first | specialize "st" | fail)
        refine ⟨M, s1, x, F, rfl, hin.kp e3.kp, by omega, by omega, Sx.fw_in hf hmem, fun q4 a4 b4 r4 w4 H4 e4 hq4 ha4 hb4 hr4 hw4 l4 l5 => ?_⟩
        have hRB4 := e4 _ _ hRB
        repeat' (first | specialize "st" | fail)
        refine q_catB hRB4 ha4 (by rw [List.length_map, List.length_map]; omega) fun p5 H5 hp5 e5 hn5 => ?_
        have hWB5 := e5 _ _ (e4 _ _ hWB)
        have hq5 := e5 _ _ hq4
        have hb5 := e5 _ _ hb4
        clear hq4 hRB4
        repeat' (first | specialize "st" | fail)
        refine q_catB hWB5 hb5 (by rw [List.length_map, List.length_map]; omega) fun p6 H6 hp6 e6 hn6 => ?_
        repeat' (first | specialize "st" | fail)
        refine ⟨p5, p6, r1 ++ r4, w1 ++ w4, _, _, rfl, e3.trans (e4.trans (e5.trans e6)), by rw [List.map_append]; exact e6 _ _ hn5, by rw [List.map_append]; exact hn6, fun x => ?_, fun x => ?_, by rw [List.length_append]; omega, by rw [List.length_append]; omega⟩
        · rw [← tt.r, List.mem_append, hm1, hr4, or_assoc]
          rfl
        · rw [← tt.w, List.mem_append, hm2, hw4, or_assoc]
          rfl
      · rintro σ H3 ⟨RB, WB, r1, w1, z5, z6, rfl, e3, hRB, hWB, hm1, hm2, hb1, hb2⟩
        rw [hlen, List.take_length] at hm1 hm2 hb1 hb2
        repeat' (first | specialize "st" | fail)
        exact q p RB WB r1 w1 Hn (e1.trans (e3.trans ke)) hn (ke _ _ hRB) (ke _ _ hWB) (fun x => by rw [hm1, Sx.tc_partsR]) (fun x => by rw [hm2, Sx.tc_partsW]) (by omega) (by omega)
theorem luses_all (T : Glo K w mg) (D : Dn K mg "_law_uses" s__law_uses p__law_uses) (G__law_cells : Cal P w K mg base "_law_cells" 7 p__law_cells (sp_lcells 6)) (G__law_written : Cal P w K mg base "_law_written" 1 p__law_written sp_lwritten) (G__law_aim : Cal P w K mg base "_law_aim" 8 p__law_aim sp_laim) : ∀ n : Nat, Cal P w K mg base "_law_uses" (8 + n) p__law_uses (sp_luses n)
  | 0 => cal_imp (cal_false D sc__law_uses 7) fun _ _ _ _ ⟨_, s, _, _, _, _, h, _⟩ => absurd h (by cases s <;> simp [Sx.dep])
  | n + 1 => ok_luses T D n G__law_cells G__law_written G__law_aim (luses_all T D G__law_cells G__law_written G__law_aim n)
def sp_ltakes (n : Nat) : Sp := fun vs H Q _ => ∃ (M : List Addr) (s : Sx) (v : V) (F : Fr), vs = [v] ∧ s.In M H v ∧ s.dep ≤ n ∧ s.sz ≤ 6200 ∧ s.fw F ∧ F.in61 ∧
  ∀ (l : List Int) (L : Addr) (H' : Hp), Cel s l → H L = none → Ex H H' → H' L = some (.lst (l.map V.int)) → Q (.ref L) H'
theorem ok_ltakes (T : Glo K w mg) (D : Dn K mg "_law_takes" s__law_takes p__law_takes) (n : Nat) (G__law_uses : Cal P w K mg base "_law_uses" (8 + n) p__law_uses (sp_luses n)) : Cal P w K mg base "_law_takes" (8 + n + 1) p__law_takes (sp_ltakes n) := by
  refine D.ok sc__law_takes (fun vs H Q E h => ?_) (fun f cdv A outer s H vs Q E hr h => ?_)
  · obtain ⟨_, _, _, _, rfl, _⟩ := h
    rfl
  obtain ⟨M, s0, v, F, rfl, hs, hd, hz, hf, hG, q⟩ := h
  refine ⟨_, (pss_cons (ps_asg (pe_cal G__law_uses (hr.mono (by (first | subst "lev" | fail))) rfl (pa_cons (pv 0) pa_nil)) (pg_tup rfl (pgs_cons (pg_name (i := 1) sc__law_takes.nd rfl (by first | exact Or.inl rfl | exact Or.inr rfl)) (pgs_cons (pg_name (i := 2) sc__law_takes.nd rfl (by first | exact Or.inl rfl | exact Or.inr rfl)) pgs_nil)))) (pss_one (ps_ret (pe_callB (cr_sortedSet rfl) rfl T.n_sorted (by decide +kernel) (pa_cons (pe_callTy (call_setI rfl) rfl T.n_set (by decide +kernel) (pa_cons (pe_op op_addA (pv 1) (pv 2)) pa_nil)) pa_nil))))), ?_⟩
  try dsimp only [cxOf, Cx.nox]
  have hle := Sx.tc_le hf
  repeat' (first | specialize "st" | fail)
  refine ⟨M, s0, v, F, rfl, hs, hd, hz, hf, fun q1 a b r w1 H1 e1 hq ha hb hr1 hw1 l1 l2 => ?_⟩
  have mm : ∀ x ∈ r ++ w1, 0 ≤ x ∧ x < ((63 : Nat) : Int) := fun x hx => (List.mem_append.mp hx).elim (fun z => hG.1 x (hle.r _ ((hr1 x).mp z))) fun z => hG.2 x (hle.w _ ((hw1 x).mp z))
  repeat' (first | specialize "st" | fail)
  refine q_catB ha hb (by rw [List.length_map, List.length_map]; omega) fun p2 H2 hp2 e2 hn2 => ?_
  rw [← List.map_append] at hn2
  repeat' (first | specialize "st" | fail)
  refine q_set63 hn2 mm fun sa c1 H3 hs3 hc1 e3 h3 => ?_
  repeat' (first | specialize "st" | fail)
  refine q_sset63 h3 hc1 fun l L H4 hl hm hL e4 h4 => ?_
  have e03 : Ex H H3 := e1.trans (e2.trans e3)
  exact q l L H4 ⟨hl, fun x => by rw [hm, List.mem_append, hr1, hw1]⟩ (free_back e03 hL) (e03.trans e4) h4
abbrev s__law_own : Stmt := topS 45
theorem sc__law_own : FnScope ["s", "number", "part", "row"] ["s"] (defScope s__law_own) := ⟨rfl, rfl, rfl, by decide +kernel, rfl, by decide +kernel, by decide +kernel⟩
abbrev p__law_own : List Str := ["s"]
abbrev s__law_branches : Stmt := topS 46
theorem sc__law_branches : FnScope ["s", "parent", "found", "parts", "part", "number", "row"] ["s", "parent"] (defScope s__law_branches) := ⟨rfl, rfl, rfl, by decide +kernel, rfl, by decide +kernel, by decide +kernel⟩
abbrev p__law_branches : List Str := ["s", "parent"]
def sp_lown (n : Nat) : Sp := fun vs H Q _ => ∃ (M : List Addr) (s : Sx) (v : V) (F : Fr), vs = [v] ∧ s.In M H v ∧ (∀ x ∈ M, H x ≠ none) ∧ s.dep ≤ n ∧ s.sz ≤ 6200 ∧ s.fw F ∧ F.in61 ∧ ∀ (o : V) (H' : Hp), Ex H H' → s.Ow M H' v o → Q o H'
theorem ok_lown (T : Glo K w mg) (D : Dn K mg "_law_own" s__law_own p__law_own) (n : Nat) (hn71 : n ≤ 71) (G__law_takes : Cal P w K mg base "_law_takes" 80 p__law_takes (sp_ltakes 71)) (G__law_own : Cal P w K mg base "_law_own" (81 + n) p__law_own (sp_lown n)) : Cal P w K mg base "_law_own" (81 + n + 1) p__law_own (sp_lown (n + 1)) := by
  refine D.ok sc__law_own (fun vs H Q E h => ?_) (fun f cdv A outer s H vs Q E hr h => ?_)
  · obtain ⟨_, _, _, _, rfl, _⟩ := h
    rfl
  obtain ⟨M, s0, v, F, rfl, hs, al, hd, hz, hf, hG, q⟩ := h
  refine ⟨_, (pss_cons (ps_if (pt_cmpR (op_eqA (hu64 hr)) (pe_ix ix_seq (pv 0) pe_int (fun _ _ => rfl)) pe_str (nomark _)) (pss_one (ps_ret (pe_tup (pa_cons pe_str (pa_cons (pe_lc (own := [("number", 1), ("part", 2)]) (tt := tYes) rfl sc__law_own.nd (pi_list (pe_ix ix_seq (pv 0) pe_int (fun _ _ => rfl))) (blkOk_by (N := ["s", "number", "part", "row"]) (sc := defScope s__law_own) (by decide +kernel)) (fun _ _ _ _ _ => (pg_tupK (K := K) (n := 2) rfl rfl (pgs_cons (pg_name (i := 1) sc__law_own.nd rfl (by first | exact Or.inl rfl | exact Or.inr rfl)) (pgs_cons (pg_name (i := 2) sc__law_own.nd rfl (by first | exact Or.inl rfl | exact Or.inr rfl)) pgs_nil)))) (fun _ _ _ _ _ => pts_nil) (fun _ _ _ _ _ => (pe_tup (pa_cons (pv 1) (pa_cons (pe_cal G__law_takes (hr.mono (by (first | subst "lev" | fail))) rfl (pa_cons (pv 2) pa_nil)) pa_nil))))) pa_nil))))) pss_nil) (pss_cons (ps_if (pt_cmpR (op_eqA (hu64 hr)) (pe_ix ix_seq (pv 0) pe_int (fun _ _ => rfl)) pe_str (nomark _)) (pss_one (ps_ret (pe_tup (pa_cons pe_str (pa_cons (pe_lc (own := [("part", 2)]) (tt := tYes) rfl sc__law_own.nd (pi_list (pe_ix ix_seq (pv 0) pe_int (fun _ _ => rfl))) (blkOk_by (N := ["s", "number", "part", "row"]) (sc := defScope s__law_own) (by decide +kernel)) (fun _ _ _ _ _ => (pg_name (i := 2) sc__law_own.nd rfl (by first | exact Or.inl rfl | exact Or.inr rfl))) (fun _ _ _ _ _ => pts_nil) (fun _ _ _ _ _ => (pe_cal G__law_own (hr.mono (by (first | subst "lev" | fail))) rfl (pa_cons (pv 2) pa_nil)))) pa_nil))))) pss_nil) (pss_cons (ps_if (pt_cmpR (op_eqA (hu64 hr)) (pe_ix ix_seq (pv 0) pe_int (fun _ _ => rfl)) pe_str (nomark _)) (pss_one (ps_ret (pe_tup (pa_cons pe_str (pa_cons (pe_lc (own := [("row", 3)]) (tt := tYes) rfl sc__law_own.nd (pi_list (pe_ix ix_seq (pv 0) pe_int (fun _ _ => rfl))) (blkOk_by (N := ["s", "number", "part", "row"]) (sc := defScope s__law_own) (by decide +kernel)) (fun _ _ _ _ _ => (pg_name (i := 3) sc__law_own.nd rfl (by first | exact Or.inl rfl | exact Or.inr rfl))) (fun _ _ _ _ _ => pts_nil) (fun _ _ _ _ _ => (pe_op (op_addK (K := K) rfl) (pe_slice (sl_anyK (K := K) rfl) (pv 3) po_none (po_some pe_int)) (pe_tup (pa_cons (pe_cal G__law_own (hr.mono (by (first | subst "lev" | fail))) rfl (pa_cons (pe_ix (ix_seqK (K := K) rfl) (pv 3) pe_int (fun _ _ => rfl)) pa_nil)) pa_nil))))) pa_nil))))) pss_nil) (pss_cons (ps_if (pt_cmpR (op_eqA (hu64 hr)) (pe_ix ix_seq (pv 0) pe_int (fun _ _ => rfl)) pe_str (nomark _)) (pss_one (ps_ret (pe_tup (pa_cons pe_str (pa_cons (pe_ix ix_seq (pv 0) pe_int (fun _ _ => rfl)) (pa_cons (pe_cal G__law_own (hr.mono (by (first | subst "lev" | fail))) rfl (pa_cons (pe_ix ix_seq (pv 0) pe_int (fun _ _ => rfl)) pa_nil)) (pa_cons (pe_cal G__law_own (hr.mono (by (first | subst "lev" | fail))) rfl (pa_cons (pe_ix ix_seq (pv 0) pe_int (fun _ _ => rfl)) pa_nil)) pa_nil))))))) pss_nil) (pss_cons (ps_if (pt_cmpR (op_eqA (hu64 hr)) (pe_ix ix_seq (pv 0) pe_int (fun _ _ => rfl)) pe_str (nomark _)) (pss_one (ps_ret (pe_op op_addA (pe_slice sl_any (pv 0) po_none (po_some pe_int)) (pe_tup (pa_cons (pe_cal G__law_own (hr.mono (by (first | subst "lev" | fail))) rfl (pa_cons (pe_ix ix_seq (pv 0) pe_int (fun _ _ => rfl)) pa_nil)) pa_nil))))) pss_nil) (pss_one (ps_ret (pv 0)))))))), ?_⟩
  try dsimp only [cxOf, Cx.nox]
  cases s0 with
  | skip =>
    obtain ⟨q0, rfl, hq0⟩ := hs
    repeat' (first | specialize "st" | fail)
    exact q _ _ (Ex.refl _) ⟨rfl, q0, rfl⟩
  | stop =>
    obtain ⟨q0, rfl, hq0⟩ := hs
    repeat' (first | specialize "st" | fail)
    exact q _ _ (Ex.refl _) ⟨rfl, q0, rfl⟩
  | set t e =>
    obtain ⟨q0, _, _, rfl, hq0, _⟩ := hs
    repeat' (first | specialize "st" | fail)
    exact q _ _ (Ex.refl _) ⟨rfl, q0, rfl⟩
  | give c e =>
    obtain ⟨q0, _, rfl, hq0, _⟩ := hs
    repeat' (first | specialize "st" | fail)
    exact q _ _ (Ex.refl _) ⟨rfl, q0, rfl⟩
  | take c t =>
    obtain ⟨q0, _, rfl, hq0, _⟩ := hs
    repeat' (first | specialize "st" | fail)
    exact q _ _ (Ex.refl _) ⟨rfl, q0, rfl⟩
  | ife e a b =>
    obtain ⟨q0, x, y, z, rfl, hq0, hx, ha, hb⟩ := hs
    simp only [Sx.dep] at hd
    simp only [Sx.sz] at hz
    repeat' (first | specialize "st" | fail)
    refine ⟨M, a, y, F, rfl, ha, al, by omega, by omega, hf.2.2.1, hG, fun o1 H1 e1 w1 => ?_⟩
    have hq1 := e1 _ _ hq0
    repeat' (first | specialize "st" | fail)
    refine ⟨M, b, z, F, rfl, hb.kp (M := M) e1.kp, al_ex2 e1 al, by omega, by omega, hf.2.2.2, hG, fun o2 H2 e2 w2 => ?_⟩
    have e02 := e1.trans e2
    clear e1
    repeat' (first | specialize "st" | fail)
    exact q _ _ (e02.trans ke) ⟨q0, x, y, z, p, o1, o2, rfl, ke _ _ (e02 _ _ hq0), hx.ok, rfl, hn, w1.kp (M := M) (e2.trans ke).kp, w2.kp (M := M) ke.kp⟩
  | rep e m a =>
    obtain ⟨q0, x, y, rfl, hq0, hx, ha⟩ := hs
    simp only [Sx.dep] at hd
    simp only [Sx.sz] at hz
    repeat' (first | specialize "st" | fail)
    refine ⟨M, a, y, F, rfl, ha.kp (M := M) ke.kp, al_ex2 ke al, by omega, by omega, hf.2.2.2.2, hG, fun o1 H1 e1 w1 => ?_⟩
    have e01 : Ex H H1 := ke.trans e1
    have hn1 := e1 _ _ hn
    obtain ⟨P3, rfl⟩ : ∃ x, x = p := ⟨_, rfl⟩
    clear hn ke
    repeat' (first | specialize "st" | fail)
    refine q_catT (ke _ _ hn1) hn (by simp) (fun p H9 e9 hn => ?_)
    have e12 : Ex H1 H9 := ke.trans e9
    exact q _ _ (e01.trans e12) ⟨q0, x, y, p, o1, rfl, e12 _ _ (e01 _ _ hq0), hx.ok, rfl, hn, w1.kp (M := M) e12.kp⟩
  | seq ss =>
    obtain ⟨q0, l, xs, rfl, hq0, hl, nl, hss⟩ := hs
    have hxl := Ss.szl hss
    simp only [Sx.dep] at hd
    simp only [Sx.sz] at hz
    repeat' (first | specialize "st" | fail)
    intro D hD
    have eD : Ex H (upd H D (.lst [])) := Ex.mk hD rfl
    refine lc_list (xs := xs) (fun i H3 => ∃ (os : List V) (pre rest : Ss), Ex H H3 ∧ H3 D = some (.lst os) ∧ os.length = i ∧ ss = pre.app rest ∧ pre.Ow (D :: M) H3 (xs.take i) os ∧ rest.In (D :: M) H3 (xs.drop i) ∧ rest.dep ≤ n ∧ rest.fw F ∧ rest.sz ≤ ss.sz) ?_ ?_ ?_ ?_
    · exact ⟨[], .nil, ss, eD, upd_same, rfl, rfl, ⟨rfl, rfl⟩, Ss.In.kp (M := D :: M) eD.kp (Ss.In.to (to_add hD) hss), by omega, hf, Nat.le_refl _⟩
    · rintro i H3 _ ⟨_, _, _, e3, _⟩
      exact sql (e3 _ _ hl)
    · rintro i x H3 hx ⟨os, pre, rest, e3, h3, hol, rfl, how, hr1, hrd, hrk, hrz⟩
      obtain ⟨hxi, hxe⟩ := List.getElem?_eq_some_iff.mp hx
      rw [List.drop_eq_getElem_cons hxi, hxe] at hr1
      cases rest with
      | nil => cases hr1
      | cons s1 r =>
        obtain ⟨x', xs', e0, hs1, hr2⟩ := hr1
        cases e0
        simp only [Ss.dep] at hrd
        have hrz2 := hrz
        simp only [Ss.sz] at hrz2
        refine ⟨rfl, ?_⟩
        repeat' (first | specialize "st" | fail)
        refine ⟨D :: M, s1, x, F, rfl, hs1, al_cons (fsome h3) (al_ex2 e3 al), by omega, by omega, hrk.1, hG, fun o1 H1 e1 w1 => ?_⟩
        have h1 := e1 _ _ h3
        refine ⟨os, h1, sl1000' (by omega), ?_⟩
        generalize hq : upd H1 D (.lst (os ++ [o1])) = H9
        have k9 := kp_upd h1 hq
        have h9 := at_new hq
        clear hq
        have kM : Kp (D :: M) H1 H9 := k9.sub sub_hd1
        have e9 : Ex H H9 := ex_fresh (e3.trans e1) k9 hD
        refine ⟨os ++ [o1], pre.app (.cons s1 .nil), r, e9, h9, by rw [List.length_append, hol]; rfl, Ss.app_mid s1 r pre, ?_, Ss.In.kp ((e1.kp).trans kM) hr2, by omega, hrk.2, by omega⟩
        rw [List.take_add_one, hx]
        exact Ss.Ow.app (.cons s1 .nil) ⟨x, [], o1, [], rfl, rfl, w1.kp kM, rfl, rfl⟩ (how.kp (e1.kp.trans kM))
    · rintro H3 ⟨os, pre, rest, e3, h3, hol, rfl, how, hr1, hrd, hrk, hrz⟩
      rw [List.drop_length] at hr1
      rw [List.take_length] at how
      obtain rfl : rest = .nil := by
        cases rest with
        | nil => rfl
        | cons => obtain ⟨_, _, e0, _⟩ := hr1; cases e0
      rw [Ss.app_nil] at q
      repeat' (first | specialize "st" | fail)
      exact q _ _ (e3.trans ke) ⟨q0, l, xs, p, D, os, rfl, ke _ _ (e3 _ _ hq0), ke _ _ (e3 _ _ hl), nl, rfl, hn, ke _ _ h3, al_not al hD, (how.to less_hd).kp ke.kp⟩
  | par ss =>
    obtain ⟨q0, l, xs, rfl, hq0, hl, nl, hss⟩ := hs
    have hxl := Ps.szl hss
    simp only [Sx.dep] at hd
    simp only [Sx.sz] at hz
    repeat' (first | specialize "st" | fail)
    intro D hD
    have eD : Ex H (upd H D (.lst [])) := Ex.mk hD rfl
    refine lc_list (xs := xs) (fun i H3 => ∃ (os : List V) (pre rest : Ps), Ex H H3 ∧ H3 D = some (.lst os) ∧ os.length = i ∧ ss = pre.app rest ∧ pre.Ow (D :: M) H3 os ∧ rest.In (D :: M) H3 (xs.drop i) ∧ rest.dep ≤ n ∧ rest.fw F ∧ rest.sz ≤ ss.sz) ?_ ?_ ?_ ?_
    · exact ⟨[], .nil, ss, eD, upd_same, rfl, rfl, rfl, Ps.In.kp (M := D :: M) eD.kp (Ps.In.to (to_add hD) hss), by omega, hf, Nat.le_refl _⟩
    · rintro i H3 _ ⟨_, _, _, e3, _⟩
      exact sql (e3 _ _ hl)
    · rintro i x H3 hx ⟨os, pre, rest, e3, h3, hol, rfl, how, hr1, hrd, hrk, hrz⟩
      obtain ⟨hxi, hxe⟩ := List.getElem?_eq_some_iff.mp hx
      rw [List.drop_eq_getElem_cons hxi, hxe] at hr1
      cases rest with
      | nil => cases hr1
      | cons t s1 r =>
        obtain ⟨q1, y, xs', e0, hq1, hs1, hr2⟩ := hr1
        cases e0
        simp only [Ps.dep] at hrd
        have hrz2 := hrz
        simp only [Ps.sz] at hrz2
        repeat' (first | specialize "st" | fail)
        refine ⟨by simp [wipe, L2.start, List.replicate], ?_⟩
        repeat' (first | specialize "st" | fail)
        refine ⟨D :: M, s1, y, F, rfl, hs1, by omega, by omega, hrk.1, hG, fun lc L H1 hcel hL e1 h1 => ?_⟩
        have hD1 := e1 _ _ h3
        repeat' (first | specialize "st" | fail)
        have eA : Ex H3 Hn := e1.trans ke
        have hD2 : Hn D = some (.lst os) := eA _ _ h3
        have nLD : L ∉ D :: M := al_not (al_cons (fsome h3) (al_ex2 e3 al)) hL
        refine ⟨os, hD2, sl1000' (by omega), ?_⟩
        generalize hq : upd Hn D (.lst (os ++ [.ref p])) = H9
        have k9 := kp_upd hD2 hq
        have h9 := at_new hq
        clear hq
        have kM : Kp (D :: M) Hn H9 := k9.sub sub_hd1
        have e9 : Ex H H9 := ex_fresh (e3.trans eA) k9 hD
        refine ⟨os ++ [.ref p], pre.app (.cons t s1 .nil), r, e9, h9, by rw [List.length_append, hol]; rfl, Ps.app_mid _ s1 r pre, ?_, Ps.In.kp (eA.kp.trans kM) hr2, by omega, hrk.2, by omega⟩
        exact Ps.Ow.app (.cons t s1 .nil) ⟨p, L, lc, [], rfl, kM.tup _ _ hn, kM.out _ _ nLD (ke _ _ h1), nLD, hcel, rfl⟩ (how.kp (eA.kp.trans kM))
    · rintro H3 ⟨os, pre, rest, e3, h3, hol, rfl, how, hr1, hrd, hrk, hrz⟩
      rw [List.drop_length] at hr1
      obtain rfl : rest = .nil := by
        cases rest with
        | nil => rfl
        | cons => obtain ⟨_, _, _, e0, _⟩ := hr1; cases e0
      rw [Ps.app_nil] at q
      repeat' (first | specialize "st" | fail)
      exact q _ _ (e3.trans ke) ⟨p, D, os, rfl, hn, ke _ _ h3, al_not al hD, (how.to less_hd).kp ke.kp⟩
  | alt ss =>
    obtain ⟨q0, l, xs, rfl, hq0, hl, nl, hss⟩ := hs
    have hxl := As.szl hss
    simp only [Sx.dep] at hd
    simp only [Sx.sz] at hz
    repeat' (first | specialize "st" | fail)
    intro D hD
    have eD : Ex H (upd H D (.lst [])) := Ex.mk hD rfl
    refine lc_list (xs := xs) (fun i H3 => ∃ (os : List V) (pre rest : As), Ex H H3 ∧ H3 D = some (.lst os) ∧ os.length = i ∧ ss = pre.app rest ∧ pre.Ow (D :: M) H3 (xs.take i) os ∧ rest.In (D :: M) H3 (xs.drop i) ∧ rest.dep ≤ n ∧ rest.fw F ∧ rest.sz ≤ ss.sz) ?_ ?_ ?_ ?_
    · exact ⟨[], .nil, ss, eD, upd_same, rfl, rfl, ⟨rfl, rfl⟩, As.In.kp (M := D :: M) eD.kp (As.In.to (to_add hD) hss), by omega, hf, Nat.le_refl _⟩
    · rintro i H3 _ ⟨_, _, _, e3, _⟩
      exact sql (e3 _ _ hl)
    · rintro i x H3 hx ⟨os, pre, rest, e3, h3, hol, rfl, how, hr1, hrd, hrk, hrz⟩
      obtain ⟨hxi, hxe⟩ := List.getElem?_eq_some_iff.mp hx
      rw [List.drop_eq_getElem_cons hxi, hxe] at hr1
      cases rest with
      | nil => cases hr1
      | cons g c t s1 r =>
        obtain ⟨q1, u, z, y, xs', e0, hq1, hg, hzt, hs1, hr2⟩ := hr1
        cases e0
        simp only [As.dep] at hrd
        have hrz2 := hrz
        simp only [As.sz] at hrz2
        refine ⟨rfl, ?_⟩
        repeat' (first | specialize "st" | fail)
        have e3a : Ex H3 Hn := ke
        refine ⟨D :: M, s1, y, F, rfl, hs1.kp (M := D :: M) ke.kp, al_cons (fsome (ke _ _ h3)) (al_ex2 (e3.trans ke) al), by omega, by omega, hrk.2.2.2.2.1, hG, fun o1 H1 e1 w1 => ?_⟩
        have hn1 := e1 _ _ hn
        have e31 : Ex H3 H1 := e3a.trans e1
        have h31 := e31 _ _ h3
        obtain ⟨P3, rfl⟩ : ∃ x, x = p := ⟨_, rfl⟩
        clear hn ke e3a
        repeat' (first | specialize "st" | fail)
        refine q_catT (ke _ _ hn1) hn (by simp) (fun p H8 e8 hn => ?_)
        have e12 : Ex H1 H8 := ke.trans e8
        obtain ⟨Hn, rfl⟩ : ∃ x, x = H8 := ⟨_, rfl⟩
        have eA : Ex H3 Hn := e31.trans e12
        have hD2 : Hn D = some (.lst os) := eA _ _ h3
        refine ⟨os, hD2, sl1000' (by omega), ?_⟩
        generalize hq : upd Hn D (.lst (os ++ [.ref p])) = H9
        have k9 := kp_upd hD2 hq
        have h9 := at_new hq
        clear hq
        have kM : Kp (D :: M) Hn H9 := k9.sub sub_hd1
        have e9 : Ex H H9 := ex_fresh (e3.trans eA) k9 hD
        refine ⟨os ++ [.ref p], pre.app (.cons g c t s1 .nil), r, e9, h9, by rw [List.length_append, hol]; rfl, As.app_mid g c t s1 r pre, ?_, As.In.kp (eA.kp.trans kM) hr2, by omega, hrk.2.2.2.2.2, by omega⟩
        rw [List.take_add_one, hx]
        exact As.Ow.app (.cons g c t s1 .nil) ⟨q1, u, z, y, [], p, o1, [], rfl, kM.tup _ _ (eA _ _ hq1), hg.ok, hzt.ok, rfl, kM.tup _ _ hn, w1.kp (e12.kp.trans kM), rfl, rfl⟩ (how.kp (eA.kp.trans kM))
    · rintro H3 ⟨os, pre, rest, e3, h3, hol, rfl, how, hr1, hrd, hrk, hrz⟩
      rw [List.drop_length] at hr1
      rw [List.take_length] at how
      obtain rfl : rest = .nil := by
        cases rest with
        | nil => rfl
        | cons => obtain ⟨_, _, _, _, _, e0, _⟩ := hr1; cases e0
      rw [As.app_nil] at q
      repeat' (first | specialize "st" | fail)
      exact q _ _ (e3.trans ke) ⟨q0, l, xs, p, D, os, rfl, ke _ _ (e3 _ _ hq0), ke _ _ (e3 _ _ hl), nl, rfl, hn, ke _ _ h3, al_not al hD, (how.to less_hd).kp ke.kp⟩
theorem lown_all (T : Glo K w mg) (D : Dn K mg "_law_own" s__law_own p__law_own) (G__law_takes : Cal P w K mg base "_law_takes" 80 p__law_takes (sp_ltakes 71)) : ∀ n : Nat, n ≤ 72 → Cal P w K mg base "_law_own" (81 + n) p__law_own (sp_lown n)
  | 0, _ => cal_imp (cal_false D sc__law_own 80) fun _ _ _ _ ⟨_, s, _, _, _, _, _, h, _⟩ => absurd h (by cases s <;> simp [Sx.dep])
  | n + 1, h => ok_lown T D n (by omega) G__law_takes (lown_all T D G__law_takes n (by omega))
/-! ### the branches, with their numbers -/
def Prn (H : Hp) : Nat → List V → List (V × V) → Prop
  | _, [], l => l = []
  | t, u :: us, l => ∃ x l', l = x :: l' ∧ (∃ q, u = .ref q ∧ H q = some (.tup [.int (t : Int), x.1, x.2])) ∧ Prn H (t + 1) us l'
theorem Prn.ex {H H' : Hp} (e : Ex H H') : ∀ {t : Nat} {us : List V} {l : List (V × V)}, Prn H t us l → Prn H' t us l
  | _, [], _, h => h
  | _, _ :: _, _, ⟨x, l', a, ⟨q, b, c⟩, d⟩ => ⟨x, l', a, ⟨q, b, e _ _ c⟩, Prn.ex e d⟩
theorem Prn.app {H : Hp} : ∀ {t : Nat} {us ws : List V} {l m : List (V × V)}, Prn H t us l → Prn H (t + us.length) ws m → Prn H t (us ++ ws) (l ++ m)
  | _, [], _, _, _, h, g => by rw [show _ = [] from h]; exact g
  | t, u :: us, _, _, _, ⟨x, l', a, b, d⟩, g => by
    subst a
    refine ⟨x, l' ++ _, rfl, b, Prn.app d ?_⟩
    rw [show t + 1 + us.length = t + (u :: us).length by rw [List.length_cons]; omega]
    exact g
theorem Prn.at {H : Hp} : ∀ {t : Nat} {us : List V} {l : List (V × V)} {i : Nat} {u : V}, Prn H t us l → us[i]? = some u → ∃ x q, l[i]? = some x ∧ u = .ref q ∧ H q = some (.tup [.int ((t + i : Nat) : Int), x.1, x.2])
  | _, [], _, _, _, _, e => by simp at e
  | t, _ :: us, _, 0, _, ⟨x, l', a, ⟨q, b, c⟩, _⟩, e => by
    simp at e
    subst e
    subst a
    exact ⟨x, q, rfl, b, c⟩
  | t, _ :: us, _, i + 1, _, ⟨x, l', a, _, d⟩, e => by
    subst a
    obtain ⟨y, q, h1, h2, h3⟩ := Prn.at (i := i) d (by simpa using e)
    exact ⟨y, q, by simpa using h1, h2, by rw [show t + (i + 1) = t + 1 + i by omega]; exact h3⟩
theorem Prn.len {H : Hp} : ∀ {t : Nat} {us : List V} {l : List (V × V)}, Prn H t us l → l.length = us.length
  | _, [], _, h => by rw [show _ = [] from h]; rfl
  | _, _ :: us, _, ⟨x, l', a, _, d⟩ => by subst a; simp only [List.length_cons, Prn.len d]
def sp_lbrs (n : Nat) : Sp := fun vs H Q _ => ∃ (M : List Addr) (s : Sx) (v pt : V) (l : List (V × V)) (t : Nat), vs = [v, pt] ∧ Brs M H n s v pt l ∧ s.num t ∧ s.cnt ≤ 1000 ∧ s.sz ≤ 50000 ∧ ∀ (L : Addr) (us : List V) (H' : Hp), H L = none → Ex H H' → H' L = some (.lst us) → Prn H' t us l → us.length = s.cnt → Q (.ref L) H'
theorem ok_lbrs (T : Glo K w mg) (D : Dn K mg "_law_branches" s__law_branches p__law_branches) (n : Nat) (G__law_branches : Cal P w K mg base "_law_branches" (1 + n) p__law_branches (sp_lbrs n)) : Cal P w K mg base "_law_branches" (1 + n + 1) p__law_branches (sp_lbrs (n + 1)) := by
  refine D.ok sc__law_branches (fun vs H Q E h => ?_) (fun f cdv A outer s H vs Q E hr h => ?_)
  · obtain ⟨_, _, _, _, _, _, rfl, _⟩ := h
    rfl
  obtain ⟨M, s0, v, pt, l, t, rfl, ⟨hs, hb⟩, hnm, hc, hz, q⟩ := h
  refine ⟨_, (pss_cons (ps_set (i := 2) sc__law_branches.nd rfl (by first | exact Or.inl rfl | exact Or.inr rfl) (pe_lst pa_nil)) (pss_cons (ps_if (pt_cmpR (op_eqA (hu64 hr)) (pe_ix ix_seq (pv 0) pe_int (fun _ _ => rfl)) pe_str (nomark _)) (pss_cons (ps_for PassesOwn.never rfl (pi_list (pe_ix ix_seq (pv 0) pe_int (fun _ _ => rfl))) (pg_tup rfl (pgs_cons (pg_name (i := 5) sc__law_branches.nd rfl (by first | exact Or.inl rfl | exact Or.inr rfl)) (pgs_cons (pg_name (i := 4) sc__law_branches.nd rfl (by first | exact Or.inl rfl | exact Or.inr rfl)) pgs_nil))) (pss_one (ps_set (i := 2) sc__law_branches.nd rfl (by first | exact Or.inl rfl | exact Or.inr rfl) (pe_op op_addA (pe_op op_addA (pv 2) (pe_lst (pa_cons (pe_tup (pa_cons (pv 5) (pa_cons (pv 1) (pa_cons (pv 4) pa_nil)))) pa_nil))) (pe_cal G__law_branches (hr.mono (by (first | subst "lev" | fail))) rfl (pa_cons (pv 4) (pa_cons (pv 5) pa_nil))))))) (pss_one (ps_ret (pv 2)))) pss_nil) (pss_cons (ps_set (i := 3) sc__law_branches.nd rfl (by first | exact Or.inl rfl | exact Or.inr rfl) (pe_lst pa_nil)) (pss_cons (ps_if (pt_cmpR (op_eqA (hu64 hr)) (pe_ix ix_seq (pv 0) pe_int (fun _ _ => rfl)) pe_str (nomark _)) (pss_one (ps_set (i := 3) sc__law_branches.nd rfl (by first | exact Or.inl rfl | exact Or.inr rfl) (pe_ix ix_seq (pv 0) pe_int (fun _ _ => rfl)))) (pss_one (ps_if (pt_cmpR (op_eqA (hu64 hr)) (pe_ix ix_seq (pv 0) pe_int (fun _ _ => rfl)) pe_str (nomark _)) (pss_one (ps_setLc (i := 3) (own := [("row", 6)]) (tt := tYes) rfl sc__law_branches.nd rfl rfl (sw_true rfl rfl rfl (by decide +kernel)) (pi_list (pe_ix ix_seq (pv 0) pe_int (fun _ _ => rfl))) (blkOk_by (N := ["s", "parent", "found", "parts", "part", "number", "row"]) (sc := defScope s__law_branches) (by decide +kernel)) (fun _ _ _ _ _ => (pg_name (i := 6) sc__law_branches.nd rfl (by first | exact Or.inl rfl | exact Or.inr rfl))) (fun _ _ _ _ _ => pts_nil) (fun _ _ _ _ _ => (pe_ix (ix_seqK (K := K) rfl) (pv 6) pe_int (fun _ _ => rfl))))) (pss_one (ps_if (pt_cmpR (op_eqA (hu64 hr)) (pe_ix ix_seq (pv 0) pe_int (fun _ _ => rfl)) pe_str (nomark _)) (pss_one (ps_set (i := 3) sc__law_branches.nd rfl (by first | exact Or.inl rfl | exact Or.inr rfl) (pe_lst (pa_cons (pe_ix ix_seq (pv 0) pe_int (fun _ _ => rfl)) (pa_cons (pe_ix ix_seq (pv 0) pe_int (fun _ _ => rfl)) pa_nil))))) (pss_one (ps_if (pt_cmpR (op_eqA (hu64 hr)) (pe_ix ix_seq (pv 0) pe_int (fun _ _ => rfl)) pe_str (nomark _)) (pss_one (ps_set (i := 3) sc__law_branches.nd rfl (by first | exact Or.inl rfl | exact Or.inr rfl) (pe_lst (pa_cons (pe_ix ix_seq (pv 0) pe_int (fun _ _ => rfl)) pa_nil)))) pss_nil))))))) (pss_cons (ps_for PassesOwn.never rfl (pi_list (pv 3)) (pg_name (i := 4) sc__law_branches.nd rfl (by first | exact Or.inl rfl | exact Or.inr rfl)) (pss_one (ps_set (i := 2) sc__law_branches.nd rfl (by first | exact Or.inl rfl | exact Or.inr rfl) (pe_op op_addA (pv 2) (pe_cal G__law_branches (hr.mono (by (first | subst "lev" | fail))) rfl (pa_cons (pv 4) (pa_cons (pv 1) pa_nil))))))) (pss_one (ps_ret (pv 2)))))))), ?_⟩
  try dsimp only [cxOf, Cx.nox]
  rcases hb with ⟨ps, q0, l0, xs, rfl, rfl, hq, hl, hm, hb⟩ | ⟨hp, pl, hpv, hb⟩
  · simp only [Sx.sz, Sx.cnt] at hz hc
    repeat' (first | specialize "st" | fail)
    obtain ⟨L0, rfl⟩ : ∃ x, x = p := ⟨_, rfl⟩
    obtain ⟨G, rfl⟩ : ∃ x, x = Hn := ⟨_, rfl⟩
    have eG : Ex H G := ke
    have hG0 := hn
    have hL00 := hp
    clear ke hn hp
    refine w_list (xs := xs) (fun i σ H' => ∃ (L : Addr) (us : List V) (l1 l2 : List (V × V)) (psr : Ps) (y3 y4 y5 y6 : Option V), σ = [some (.ref q0), some pt, some (.ref L), y3, y4, y5, y6] ∧ Ex G H' ∧ H L = none ∧ H' L = some (.lst us) ∧ Prn H' t us l1 ∧ l = l1 ++ l2 ∧
      BrsP H' (Brs M H' n) psr (xs.drop i) pt l2 ∧ psr.num ((t + us.length : Nat) : Int) ∧ us.length + psr.cnt = ps.cnt ∧ psr.sz ≤ ps.sz) ?_ ?_ ?_ ?_
    · exact ⟨L0, [], [], l, ps, none, none, none, none, rfl, Ex.refl _, hL00, hG0, rfl, rfl, BrsP.imp (fun q xs z => eG _ _ z) (fun _ _ _ _ z => z.kp eG.kp) hb, hnm, by simp, Nat.le_refl _⟩
    · rintro i σ H' _ ⟨L, us, l1, l2, psr, y3, y4, y5, y6, rfl, k, _⟩
      exact sql (k _ _ (eG _ _ hl))
    · rintro i x σ H' hx ⟨L, us, l1, l2, psr, y3, y4, y5, y6, rfl, k, hL0, hL, hP, rfl, hB, hN, hC, hS⟩
      obtain ⟨hi, e⟩ := List.getElem?_eq_some_iff.mp hx
      rw [List.drop_eq_getElem_cons hi, e] at hB
      cases psr with
      | nil => cases hB.1
      | cons tt s2 rest =>
        obtain ⟨q2, x2, ys, l3, l4, e1, e2, e3, e4, e5⟩ := hB
        cases e1
        subst e3
        obtain ⟨rfl, hN1, hN2⟩ := hN
        simp only [Ps.cnt, Ps.sz] at hC hS
        have hsz := s2.sz0
        have hul : us.length ≤ 1000 := by omega
        repeat' (first | specialize "st" | fail)
        rename_i p1 A1 hp1 ea1 hn1 p2 A2 hp2 ea2 hn2
        have eA : Ex H' Hn := ea1.trans (ea2.trans ke)
        have hn1' := ke _ _ (ea2 _ _ hn1)
        have hLp : H p = none := free_back (eG.trans (k.trans (ea1.trans ea2))) hp
        refine ⟨M, s2, x2, _, l3, t + us.length + 1, rfl, e4.kp eA.kp, hN1, by omega, by omega, fun L1 us1 H1 hL1 e01 h1 P1 n1 => ?_⟩
        have hn3 := e01 _ _ hn
        have hu3 : (us ++ [V.ref p1]).length ≤ 1001 := by rw [List.length_append]; simp only [List.length_cons, List.length_nil]; omega
        have h13 := e01 _ _ hn1'
        obtain ⟨p3, rfl⟩ : ∃ x, x = p := ⟨_, rfl⟩
        clear hn ke ea1 ea2 hn1 hn2
        refine q_catN hn3 h1 (by omega) fun p4 H4 hp4 e14 h4 => ?_
        have e4A : Ex H' H4 := eA.trans (e01.trans e14)
        repeat' (first | specialize "st" | fail)
        refine ⟨p4, us ++ [V.ref p1] ++ us1, l1 ++ [(pt, x2)] ++ l3, l4, rest, _, _, _, _, rfl, k.trans e4A, free_back (eG.trans (k.trans (eA.trans e01))) hp4, h4, ?_, by simp only [List.append_assoc, List.cons_append, List.nil_append], BrsP.imp (fun q xs z => e4A _ _ z) (fun _ _ _ _ z => z.kp e4A.kp) e5, ?_, ?_, by omega⟩
        · refine Prn.app (Prn.app (hP.ex e4A) ⟨(pt, x2), [], rfl, ⟨p1, rfl, e14 _ _ h13⟩, rfl⟩) ?_
          rw [List.length_append, List.length_singleton, show t + (us.length + 1) = t + us.length + 1 by omega]
          exact P1.ex e14
        · rw [List.length_append, List.length_append, List.length_singleton, n1, show ((t + (us.length + 1 + s2.cnt) : Nat) : Int) = ((t + us.length : Nat) : Int) + 1 + s2.cnt by omega]
          exact hN2
        · rw [List.length_append, List.length_append, List.length_singleton, n1]
          omega
    · rintro σ H' ⟨L, us, l1, l2, psr, y3, y4, y5, y6, rfl, k, hL0, hL, hP, rfl, hB, hN, hC, hS⟩
      rw [List.drop_length] at hB
      cases psr with
      | cons _ _ _ =>
        obtain ⟨_, _, _, _, _, e1, _⟩ := hB
        cases e1
      | nil =>
        obtain ⟨_, rfl⟩ := hB
        rw [List.append_nil] at q
        repeat' (first | specialize "st" | fail)
        exact q L us H' hL0 (eG.trans k) hL hP (by simp only [Ps.cnt] at hC; simp only [Sx.cnt]; omega)
  · have hkd : ∃ (p0 : Addr) (kd : Str) (r0 : List V), v = .ref p0 ∧ H p0 = some (.tup (.str kd :: r0)) ∧ ¬ V.str kd = V.str "par" := hs.notPar hp
    obtain ⟨p0, kd, r0, rfl, hp0, m1⟩ := hkd
    have hpl : pl.length ≤ 50000 := by
      rw [brsL_len hb]
      have := szL_len (l := s0.parts)
      have := s0.szL
      omega
    repeat' (first | specialize "st" | fail)
    obtain ⟨L0, rfl⟩ : ∃ x, x = p := ⟨_, rfl⟩
    obtain ⟨G, rfl⟩ : ∃ x, x = Hn := ⟨_, rfl⟩
    have eG : Ex H G := ke
    have hG0 := hn
    have hL00 : H L0 = none := by assumption
    have hp1 := eG _ _ hp0
    clear ke hn
    refine q_ixT (xs := .str kd :: r0) (v := .str kd) (sqt hp1) at0 ?_
    iterate 60 (first | with_reducible refine q_eqN rfl m1 ?_ | ((fail_if_success (with_reducible refine r_ifS (c := tTest (tOp (rEqA K) (tOp (rIx K) (tVar 0) (tC (V.int 0))) (tC (V.str (PySem.Str.ofString "seq"))))) ?_)); (first | specialize "st" | fail)) | skip)
    obtain ⟨PA0, rfl⟩ : ∃ x, x = p := ⟨_, rfl⟩
    obtain ⟨G2, rfl⟩ : ∃ x, x = Hn := ⟨_, rfl⟩
    have eG2 : Ex H G2 := eG.trans ke
    have hL2 : G2 L0 = some (.lst []) := ke _ _ hG0
    have hPA2 : G2 PA0 = some (.lst []) := hn
    have hp2 := ke _ _ hp1
    have hpv2 := hpv.kp eG2.kp
    clear eG hG0 hn ke hp1
    refine ifsj (fun σ' H' => ∃ (PA : Addr) (y4 y5 y6 : Option V), σ' = [some (.ref p0), some pt, some (.ref L0), some (.ref PA), y4, y5, y6] ∧ Ex H H' ∧ H' L0 = some (.lst []) ∧ H' PA = some (.lst pl)) (fun nx' hN' => ?_) (fun σ' H' hR' => ?_)
    · cases s0 with
      | par ss => cases hp
      | set t e =>
        obtain ⟨q0, _, _, e, hq0, _⟩ := hs
        cases e
        rw [hp0] at hq0
        cases hq0
        obtain rfl : pl = [] := hpv
        repeat' (first | specialize "st" | fail)
        exact hN' _ _ ⟨PA0, _, _, _, rfl, eG2, hL2, hPA2⟩
      | give c e =>
        obtain ⟨q0, _, e, hq0, _⟩ := hs
        cases e
        rw [hp0] at hq0
        cases hq0
        obtain rfl : pl = [] := hpv
        repeat' (first | specialize "st" | fail)
        exact hN' _ _ ⟨PA0, _, _, _, rfl, eG2, hL2, hPA2⟩
      | take c t =>
        obtain ⟨q0, _, e, hq0, _⟩ := hs
        cases e
        rw [hp0] at hq0
        cases hq0
        obtain rfl : pl = [] := hpv
        repeat' (first | specialize "st" | fail)
        exact hN' _ _ ⟨PA0, _, _, _, rfl, eG2, hL2, hPA2⟩
      | skip =>
        obtain ⟨q0, e, hq0⟩ := hs
        cases e
        rw [hp0] at hq0
        cases hq0
        obtain rfl : pl = [] := hpv
        repeat' (first | specialize "st" | fail)
        exact hN' _ _ ⟨PA0, _, _, _, rfl, eG2, hL2, hPA2⟩
      | stop =>
        obtain ⟨q0, e, hq0⟩ := hs
        cases e
        rw [hp0] at hq0
        cases hq0
        obtain rfl : pl = [] := hpv
        repeat' (first | specialize "st" | fail)
        exact hN' _ _ ⟨PA0, _, _, _, rfl, eG2, hL2, hPA2⟩
      | seq ss =>
        obtain ⟨q0, l0, e, hq0, hl0, _⟩ := hpv2
        cases e
        rw [hp2] at hq0
        cases hq0
        repeat' (first | specialize "st" | fail)
        exact hN' _ _ ⟨l0, _, _, _, rfl, eG2, hL2, hl0⟩
      | ife e a b =>
        obtain ⟨q0, x, y, z, e0, hq0, rfl⟩ := hpv2
        cases e0
        rw [hp2] at hq0
        cases hq0
        repeat' (first | specialize "st" | fail)
        exact hN' _ _ ⟨p, _, _, _, rfl, eG2.trans ke, ke _ _ hL2, hn⟩
      | rep e m a =>
        obtain ⟨q0, x, y, e0, hq0, rfl⟩ := hpv2
        cases e0
        rw [hp2] at hq0
        cases hq0
        repeat' (first | specialize "st" | fail)
        exact hN' _ _ ⟨p, _, _, _, rfl, eG2.trans ke, ke _ _ hL2, hn⟩
      | alt rs =>
        obtain ⟨q0, l0, xs, e0, hq0, hl0, _, hpr⟩ := hpv2
        cases e0
        rw [hp2] at hq0
        cases hq0
        have hxl := Paired.length hpr
        repeat' (first | specialize "st" | fail)
        intro D hD
        refine lc_list (xs := xs) (fun i H' => Ex G2 H' ∧ H' D = some (.lst (pl.take i))) ?_ ?_ ?_ ?_
        · exact ⟨Ex.mk hD rfl, upd_same⟩
        · rintro i H' _ ⟨e, _⟩
          exact sql (e _ _ hl0)
        · rintro i x H' hx ⟨e, h1⟩
          obtain ⟨y0, e3, ⟨q0, u, c1, y, rfl, hq⟩⟩ := paired_at hpr hx
          have hq := e _ _ hq
          have hi : i < pl.length := (List.getElem?_eq_some_iff.mp e3).1
          refine ⟨rfl, ?_⟩
          repeat' (first | specialize "st" | fail)
          refine ⟨_, h1, sl1000' (by rw [List.length_take]; omega), fun b u hb => ?_, ?_⟩
          · rw [upd_ne (ne_of_none hb hD)]
            exact e _ _ hb
          · rw [List.take_add_one, e3]
            exact upd_same
        · rintro H' ⟨e, h1⟩
          rw [hxl, List.take_length] at h1
          repeat' (first | specialize "st" | fail)
          exact hN' _ _ ⟨D, _, _, _, rfl, eG2.trans e, e _ _ hL2, h1⟩
    · obtain ⟨PA, y4, y5, y6, rfl, e1, hL1, hPA1⟩ := hR'
      clear eG2 hL2 hPA2 hp2 hpv2
      repeat' (first | specialize "st" | fail)
      refine w_list (xs := pl) (fun i σ H2 => ∃ (L : Addr) (us : List V) (l1 l2 : List (V × V)) (ssr : List Sx) (z4 : Option V), σ = [some (.ref p0), some pt, some (.ref L), some (.ref PA), z4, y5, y6] ∧ Ex H' H2 ∧ H L = none ∧ H2 L = some (.lst us) ∧ Prn H2 t us l1 ∧ l = l1 ++ l2 ∧
        BrsL (Brs M H2 n) ssr (pl.drop i) pt l2 ∧ numL ssr ((t + us.length : Nat) : Int) ∧ us.length + cntL ssr = s0.cnt ∧ szL ssr ≤ szL s0.parts) ?_ ?_ ?_ ?_
      · exact ⟨L0, [], [], l, s0.parts, _, rfl, Ex.refl _, hL00, hL1, rfl, rfl, BrsL.imp (fun _ _ _ _ z => z.kp e1.kp) hb, Sx.numL (by assumption) hnm, by rw [← Sx.cntL (by assumption)]; exact Nat.zero_add _, Nat.le_refl _⟩
      · rintro i σ H2 _ ⟨L, us, l1, l2, ssr, z4, rfl, k, _⟩
        exact sql (k _ _ hPA1)
      · rintro i x σ H2 hx ⟨L, us, l1, l2, ssr, z4, rfl, k, hL0, hL, hP, rfl, hB, hN, hC, hS⟩
        obtain ⟨hi, e⟩ := List.getElem?_eq_some_iff.mp hx
        rw [List.drop_eq_getElem_cons hi, e] at hB
        cases ssr with
        | nil => cases hB.1
        | cons s2 rest =>
          obtain ⟨v2, ys, l3, l4, e3, rfl, e4, e5⟩ := hB
          cases e3
          simp only [cntL, szL] at hC hS
          have hsz := s0.szL
          repeat' (first | specialize "st" | fail)
          refine ⟨M, s2, _, _, l3, t + us.length, rfl, e4, hN.1, by omega, by omega, fun L1 us1 H3 hL3 e03 h3 P1 n1 => ?_⟩
          refine q_catN (e03 _ _ hL) h3 (by omega) fun p4 H4 hp4 e14 h4 => ?_
          have e4A : Ex H2 H4 := e03.trans e14
          repeat' (first | specialize "st" | fail)
          refine ⟨p4, us ++ us1, l1 ++ l3, l4, rest, _, rfl, k.trans e4A, free_back (e1.trans (k.trans e03)) hp4, h4, Prn.app (hP.ex e4A) (P1.ex e14), by simp only [List.append_assoc], BrsL.imp (fun _ _ _ _ z => z.kp e4A.kp) e5, ?_, ?_, by omega⟩
          · rw [List.length_append, n1, show ((t + (us.length + s2.cnt) : Nat) : Int) = ((t + us.length : Nat) : Int) + s2.cnt by omega]
            exact hN.2
          · rw [List.length_append, n1]
            omega
      · rintro σ H2 ⟨L, us, l1, l2, ssr, z4, rfl, k, hL0, hL, hP, rfl, hB, hN, hC, hS⟩
        rw [List.drop_length] at hB
        cases ssr with
        | cons s2 rest =>
          obtain ⟨v2, ys, l3, l4, e3, _⟩ := hB
          cases e3
        | nil =>
          obtain ⟨_, rfl⟩ := hB
          rw [List.append_nil] at q
          repeat' (first | specialize "st" | fail)
          exact q L us H2 hL0 (e1.trans k) hL hP hC
theorem lbrs_all (T : Glo K w mg) (D : Dn K mg "_law_branches" s__law_branches p__law_branches) : ∀ n : Nat, Cal P w K mg base "_law_branches" (1 + n) p__law_branches (sp_lbrs n)
  | 0 => cal_imp (cal_false D sc__law_branches 0) fun _ _ _ _ ⟨_, _, _, _, _, _, _, h, _⟩ => h
  | n + 1 => ok_lbrs T D n (lbrs_all T D n)
abbrev s_law : Stmt := topS 47
theorem sc_law : FnScope ["script", "state", "core", "before", "rows", "due", "number", "parent", "s", "told", "row"] ["script"] (defScope s_law) := ⟨rfl, rfl, rfl, by decide +kernel, rfl, by decide +kernel, by decide +kernel⟩
abbrev p_law : List Str := ["script"]
def sp_law (K : PySem.W.Frag) : Sp := fun vs H Q _ => ∃ (a : Addr) (ns : List Int), vs = [.ref a] ∧ SqL K H a (ns.map V.int) ∧ ns.length ≤ 63 ∧ ∀ H', Q (.bl true) H'
theorem c_core {st c : Addr} {al : Bool} {H : Hp} {Q : VK} {E : XK} (h1 : StOk st c H) (q : ∀ (cd : CoreD) (v : V) (H' : Hp), cd.In [st, c] H' v → cd.ok → Kp [st, c] H H' → StOk st c H' → Q v H') : sp_core [.ref st, .bl al] H Q E := ⟨st, c, al, rfl, h1, q⟩
set_option hygiene false in
local macro_rules | `(tactic| subst "i_c_core") => `(tactic| intro cd vc Hn ci co ke so)
local macro_rules | `(tactic| injection "own") => `(tactic| (refine c_core (c := ?c) ?a ?_; (case a => subst "st_ok"); subst "i_c_core"))
theorem CoreD.ok.fr {cd : CoreD} (co : cd.ok) : ∃ F : Fr, F.in9 ∧ F.in61 ∧ (Sx.seq cd.ss).fw F := by
  have hc1 := co.c1
  have h24 := co.c24
  obtain ⟨ni, no, nj, _, _, hchs, hfit⟩ := co.ch
  exact ⟨⟨fun x => 0 ≤ x ∧ x < cd.cells, fun x => 0 ≤ x ∧ x < cd.cells, fun x => (ni : Int) ≤ x ∧ x < cd.chs.length, fun x => 0 ≤ x ∧ x < cd.chs.length ∧ (x < ni ∨ (ni + no : Int) ≤ x)⟩, ⟨fun x z => ⟨z.1, by have := z.2; omega⟩, fun x z => ⟨z.1, by have := z.2; omega⟩, fun x z => ⟨by have := z.1; omega, by have := z.2; omega⟩, fun x z => ⟨z.1, by have := z.2.1; omega⟩⟩, ⟨fun x z => ⟨z.1, by have := z.2; omega⟩, fun x z => ⟨z.1, by have := z.2; omega⟩⟩, Ss.fit.fw hfit⟩
theorem body_law {fd : FuncData} {fa : Addr} (F : Fun K "law" "law" s_law fa fd) (T : Glo K w mg) (G__law_state : Cal P w K mg base "_law_state" 1 p__law_state (sp_state K)) (G__law_draw : Cal P w K mg base "_law_draw" 1 p__law_draw sp_draw) (G__law_core : Cal P w K mg base "_law_core" 23 p__law_core sp_core)
    (G__law_branches : Cal P w K mg base "_law_branches" 72 p__law_branches (sp_lbrs 71)) (G__law_takes : Cal P w K mg base "_law_takes" 80 p__law_takes (sp_ltakes 71)) (G__law_uses : Cal P w K mg base "_law_uses" 79 p__law_uses (sp_luses 71)) (G__law_own : Cal P w K mg base "_law_own" 152 p__law_own (sp_lown 71)) (G_threads : Cal P w K mg base "threads" 82 p_threads (sp_thrds 71)) : TopOk P w K mg base fa fd ["script"] (sp_law K) := by
  refine fun_top F sc_law (k := 152) ⟨rfl, by decide, by decide⟩ (fun vs H Q E h => ?_) (fun cdv s H vs Q hr h => ?_)
  · obtain ⟨_, _, rfl, _⟩ := h
    rfl
  obtain ⟨a, ns, rfl, hs, hl, q⟩ := h
  refine ⟨_, (pss_cons (ps_set (i := 1) sc_law.nd rfl (by first | exact Or.inl rfl | exact Or.inr rfl) (pe_cal G__law_state (hr.mono (by (first | subst "lev" | fail))) rfl (pa_cons (pv 0) pa_nil))) (pss_cons (ps_set (i := 2) sc_law.nd rfl (by first | exact Or.inl rfl | exact Or.inr rfl) (pe_cal G__law_core (hr.mono (by (first | subst "lev" | fail))) rfl (pa_cons (pv 1) (pa_cons (pe_cmpR (op_eqA (hu64 hr)) (pe_cal G__law_draw (hr.mono (by (first | subst "lev" | fail))) rfl (pa_cons (pv 1) (pa_cons pe_int pa_nil))) pe_int (nomark _)) pa_nil)))) (pss_cons (ps_set (i := 3) sc_law.nd rfl (by first | exact Or.inl rfl | exact Or.inr rfl) (pe_callB (call_reprD rfl (of_decide_eq_true rfl)) rfl T.n_repr (by decide +kernel) (pa_cons (pv 2) pa_nil))) (pss_cons (ps_set (i := 4) sc_law.nd rfl (by first | exact Or.inl rfl | exact Or.inr rfl) (pe_op op_addA (pe_lst (pa_cons (pe_tup (pa_cons pe_int (pa_cons pe_non (pa_cons (pe_ix ix_seq (pv 2) pe_int (fun _ _ => rfl)) pa_nil)))) pa_nil)) (pe_cal G__law_branches (hr.mono (by (first | subst "lev" | fail))) rfl (pa_cons (pe_ix ix_seq (pv 2) pe_int (fun _ _ => rfl)) (pa_cons pe_int pa_nil))))) (pss_cons (ps_setLc (i := 5) (own := [("row", 10)]) (tt := tYes) rfl sc_law.nd rfl rfl (sw_true rfl rfl rfl (by decide +kernel)) (pi_list (pv 4)) (blkOk_by (N := ["script", "state", "core", "before", "rows", "due", "number", "parent", "s", "told", "row"]) (sc := defScope s_law) (by decide +kernel)) (fun _ _ _ _ _ => (pg_name (i := 10) sc_law.nd rfl (by first | exact Or.inl rfl | exact Or.inr rfl))) (fun _ _ _ _ _ => pts_nil) (fun _ _ _ _ _ => pe_non)) (pss_cons (ps_for PassesOwn.never rfl (pi_list (pv 4)) (pg_tup rfl (pgs_cons (pg_name (i := 6) sc_law.nd rfl (by first | exact Or.inl rfl | exact Or.inr rfl)) (pgs_cons (pg_name (i := 7) sc_law.nd rfl (by first | exact Or.inl rfl | exact Or.inr rfl)) (pgs_cons (pg_name (i := 8) sc_law.nd rfl (by first | exact Or.inl rfl | exact Or.inr rfl)) pgs_nil)))) (pss_one (ps_asg (pe_tup (pa_cons (pv 7) (pa_cons (pe_cal G__law_takes (hr.mono (by (first | subst "lev" | fail))) rfl (pa_cons (pv 8) pa_nil)) (pa_cons (pe_callB (cr_sortedSet rfl) rfl T.n_sorted (by decide +kernel) (pa_cons (pe_callTy (call_setI rfl) rfl T.n_set (by decide +kernel) (pa_cons (pe_ix ix_seq (pe_cal G__law_uses (hr.mono (by (first | subst "lev" | fail))) rfl (pa_cons (pv 8) pa_nil)) pe_int (fun _ _ => rfl)) pa_nil)) pa_nil)) (pa_cons (pe_cal G__law_own (hr.mono (by (first | subst "lev" | fail))) rfl (pa_cons (pv 8) pa_nil)) pa_nil))))) (pg_sub (pv 5) (pv 6) set_list)))) (pss_cons (ps_set (i := 9) sc_law.nd rfl (by first | exact Or.inl rfl | exact Or.inr rfl) (pe_cal G_threads (hr.mono (by (first | subst "lev" | fail))) rfl (pa_cons (pv 2) pa_nil))) (pss_one (ps_ret (pe_and (pe_callB call_isi rfl T.n_isinstance (by decide +kernel) (pa_cons (pv 9) (pa_cons (pe_ty (n := "list") rfl T.n_list (by decide +kernel)) pa_nil))) (pe_and (pe_cmpR (op_eqSB (of_decide_eq_true rfl)) (pv 9) (pv 5) (nomark _)) (pe_one (pe_cmpR (op_eqA (hu64 hr)) (pe_callB (call_reprD rfl (of_decide_eq_true rfl)) rfl T.n_repr (by decide +kernel) (pa_cons (pv 2) pa_nil)) (pv 3) (nomark _)))))))))))))), ?_⟩
  try dsimp only [cxOf, Cx.nox]
  repeat' (first | specialize "st" | fail)
  refine ⟨a, ns, rfl, hs, by omega, fun st c H1 e1 hst hc so => ?_⟩
  iterate 16 ((first | specialize "st" | fail))
  refine q_eqB ?_
  repeat' (first | specialize "st" | fail)
  have ciD := ci.dp (K := K)
  obtain ⟨pc, chA, sv, rfl, hpc, hch, nch, hsx⟩ := ci
  refine q_repr ciD co.ni (by decide) (by decide) ?_
  obtain ⟨H0, rfl⟩ : ∃ x, x = Hn := ⟨_, rfl⟩
  have hsE : (Sx.seq cd.ss).In [] H0 sv := hsx.to fun _ _ _ _ => List.not_mem_nil
  obtain ⟨F0, hF9, hF61, hfw⟩ := co.fr
  have hdep : (Sx.seq cd.ss).dep ≤ 71 := by have := co.dep; simp only [Sx.dep]; omega
  have hcnt : (Sx.seq cd.ss).cnt ≤ 11 := by have := co.cnt; simp only [Sx.cnt]; omega
  have hsz : (Sx.seq cd.ss).sz ≤ 6001 := by have := co.sz; simp only [Sx.sz]; omega
  have hnum : (Sx.seq cd.ss).num 1 := co.num
  obtain ⟨l, hb⟩ := brs_ex (n := 71) (.int 0) hsE hdep
  obtain ⟨S0, eS⟩ : ∃ x, x = Sx.seq cd.ss := ⟨_, rfl⟩
  rw [← eS] at hsE hfw hdep hcnt hsz hnum hb
  clear ciD ke so e1 hst hc hs
  repeat' (first | specialize "st" | fail)
  rename_i pt H2 hpt k2 hnt
  have eP : Ex H0 Hn := k2.trans ke
  refine ⟨[], S0, sv, .int 0, l, 1, rfl, hb.kp eP.kp, hnum, by omega, by omega, fun L1 us H3 hL1 e3 h3 P3 n3 => ?_⟩
  have hn3 := e3 _ _ hn
  have hnt3 := e3 _ _ (ke _ _ hnt)
  clear hn ke k2 hnt
  refine q_catN hn3 h3 (by simp only [List.length_cons, List.length_nil]; omega) fun RW H4 hRW e4 h4 => ?_
  have e04 : Ex H0 H4 := eP.trans (e3.trans e4)
  have P4 : Prn H4 0 ([V.ref pt] ++ us) ((.non, sv) :: l) := ⟨(.non, sv), l, rfl, ⟨pt, rfl, e4 _ _ hnt3⟩, P3.ex e4⟩
  have hrl : ([V.ref pt] ++ us).length = S0.cnt + 1 := by rw [List.length_append, n3, List.length_singleton]; omega
  generalize [V.ref pt] ++ us = rw0 at h4 P4 hrl
  clear hn3 h3 P3 hnt3 hL1
  repeat' (first | specialize "st" | fail)
  intro D hD
  have eD : Ex H4 (upd H4 D (.lst [])) := Ex.mk hD rfl
  refine lc_list (xs := rw0) (fun i H5 => Ex H4 H5 ∧ H5 D = some (.lst (List.replicate i .non))) ?_ ?_ ?_ ?_
  · exact ⟨eD, upd_same⟩
  · rintro i H5 _ ⟨e5, _⟩
    exact sql (e5 _ _ h4)
  · rintro i x H5 hx ⟨e5, h5⟩
    have hi : i < rw0.length := (List.getElem?_eq_some_iff.mp hx).1
    refine ⟨rfl, ?_⟩
    repeat' (first | specialize "st" | fail)
    refine ⟨_, h5, sl1000' (by rw [List.length_replicate]; omega), fun b u hb => ?_, ?_⟩
    · rw [upd_ne (ne_of_none hb hD)]
      exact e5 _ _ hb
    · rw [upd_same, List.replicate_succ']
  · rintro H5 ⟨e5, h5⟩
    have hTA : ThrAll 71 F0 S0 sv l H0 := thrAll_of hb hdep (by omega) hfw
    have hDm : H4 D = none := hD
    have h45 := e5 _ _ h4
    repeat' (first | specialize "st" | fail)
    refine w_list (xs := rw0) (fun i σ H6 => ∃ (ds : List V) (y6 y7 y8 y9 y10 : Option V), σ = [some (.ref a), some (.ref st), some (.ref pc), some (.str cd.dat.shown), some (.ref RW), some (.ref D), y6, y7, y8, y9, y10] ∧ Ex H4 H6 ∧ H6 D = some (.lst (ds ++ List.replicate (rw0.length - i) .non)) ∧ ds.length = i ∧ TrsI [D] H6 ds ((.non, sv) :: l) (S0 :: S0.thr)) ?_ ?_ ?_ ?_
    · exact ⟨[], _, _, _, _, _, rfl, e5, by simpa using h5, rfl, fun i u x s a => by cases a⟩
    · rintro i σ H6 _ ⟨_, _, _, _, _, _, rfl, e6, _⟩
      exact sql (e6 _ _ h4)
    · rintro i x σ H6 hx ⟨ds, y6, y7, y8, y9, y10, rfl, e6, h6, hdl, hI⟩
      obtain ⟨r, q1, hr1, rfl, hq1⟩ := P4.at hx
      have hi : i < rw0.length := (List.getElem?_eq_some_iff.mp hx).1
      have e06 : Ex H0 H6 := e04.trans e6
      obtain ⟨s', hs', hin, hsd, hsz', hsf, hsm⟩ := (hTA.ex e06).at hr1
      have hq6 := e6 _ _ hq1
      have hszl : s'.sz ≤ 6001 := by
        rcases List.mem_cons.mp hsm with rfl | hm
        · exact hsz
        · have := (Sx.thr_d hm).2.1
          omega
      repeat' (first | specialize "st" | fail)
      refine ⟨[], s', r.2, F0, rfl, hin, hsd, by omega, hsf, hF61, fun lc La H7 hcel hLa e7 hLa7 => ?_⟩
      repeat' (first | specialize "st" | fail)
      refine ⟨[], s', r.2, F0, rfl, hin.kp e7.kp, hsd, by omega, hsf, fun q8 a8 b8 r8 w8 H8 e8 hq8 ha8 hb8 hr8 hw8 l8 l9 => ?_⟩
      have hle := Sx.tc_le hsf
      have mm : ∀ x ∈ w8, 0 ≤ x ∧ x < ((63 : Nat) : Int) := fun x hx => hF61.2 x (hle.w _ ((hw8 x).mp hx))
      repeat' (first | specialize "st" | fail)
      refine q_set63 hb8 mm fun sa c1 H9 hs9 hc1 e9 h9 => ?_
      repeat' (first | specialize "st" | fail)
      refine q_sset63 h9 hc1 fun lw Lw HA hlw hmw hLw eA hLwA => ?_
      have e6A : Ex H6 HA := e7.trans (e8.trans (e9.trans eA))
      have hDA := e6A _ _ h6
      have hD6 := h6
      have inD : s'.In [D] HA r.2 := by
        obtain ⟨s2, z1, z2, _⟩ := hTA.at hr1
        rw [hs'] at z1
        cases z1
        exact ((z2.kp e04.kp).to (to_add hDm)).kp (e6.trans e6A).kp
      repeat' (first | specialize "st" | fail)
      refine ⟨[D], s', r.2, F0, rfl, inD, al_cons (fsome hDA) (fun x hx => by cases hx), hsd, by omega, hsf, hF61, fun o HB eB wB => ?_⟩
      have hDB := eB _ _ hDA
      clear h6 hDA
      repeat' (first | specialize "st" | fail)
      have hDn := ke _ _ hDB
      have hrep : ∃ m, rw0.length - i = m + 1 := ⟨rw0.length - i - 1, by omega⟩
      obtain ⟨m, em⟩ := hrep
      have em2 : rw0.length - (i + 1) = m := by omega
      refine q_setLN (j := i) hDn ?_ fun HC ku hu => ?_
      · rw [List.length_append, List.length_replicate, hdl]
        unfold ixN
        rw [if_pos (by omega), if_pos (by omega)]
        congr 1
        omega
      · rw [em, List.replicate_succ, List.set_append_right _ _ (by omega), hdl, Nat.sub_self, List.set_cons_zero] at hu
        have k6C : Kp [D] H6 HC := (e6A.trans (eB.trans ke)).kp.trans ku
        have e4C : Ex H4 HC := ex_fresh (e6.trans (e6A.trans (eB.trans ke))) ku hDm
        have fD : ∀ {x : Addr} {G : Hp}, Ex H6 G → G x = none → x ∉ [D] := fun {x G} e h z => by
          rw [List.mem_singleton.mp z] at h
          exact fsome hDn ((by
            have := hDn
            exact absurd (e _ _ hD6) (by rw [h]; exact fun z => by cases z)))
        have nLa : La ∉ [D] := fD (Ex.refl _) hLa
        have nLw : Lw ∉ [D] := fD (e7.trans (e8.trans e9)) hLw
        refine ⟨ds ++ [.ref p], _, _, _, _, _, rfl, e4C, by rw [hu, em2, List.append_assoc]; rfl, by rw [List.length_append, hdl]; rfl, (hI.kp k6C).snoc (by rw [hdl]; exact hr1) (by rw [hdl]; exact hs') ?_⟩
        refine ⟨p, La, Lw, o, lc, lw, rfl, ku.tup _ _ hn, ku.out _ _ nLa (ke _ _ (eB _ _ (eA _ _ (e9 _ _ (e8 _ _ hLa7))))), nLa, hcel, ku.out _ _ nLw (ke _ _ (eB _ _ hLwA)), nLw, ⟨hlw, fun x => (hmw x).trans (hw8 x)⟩, wB.kp (ke.kp.trans ku)⟩
    · rintro σ H6 ⟨ds, y6, y7, y8, y9, y10, rfl, e6, h6, hdl, hI⟩
      rw [Nat.sub_self, List.replicate_zero, List.append_nil] at h6
      have e06 : Ex H0 H6 := e04.trans e6
      have hpc6 := e06 _ _ hpc
      repeat' (first | specialize "st" | fail)
      refine ⟨pc, chA, cd.cells, S0, sv, l, F0, rfl, by rw [← eS] at *; exact hpc6, hb.kp e06.kp, hnum, by omega, by omega, hdep, hfw, hF9, hF61, fun LT fs H7 e7 hLT h7 hfl hIT => ?_⟩
      have h67 := e7 _ _ h6
      have hI7 := ((hI.to (N := []) fun _ _ _ _ => List.not_mem_nil).kp (M := []) e7.kp)
      have hok : ∀ x ∈ ((.non, sv) :: l : List (V × V)), okV x.1 ∧ okV x.2 := fun x hx => by
        obtain ⟨o1, o2⟩ := brs_ok hb
        rcases List.mem_cons.mp hx with rfl | hx
        · exact ⟨.inl rfl, o1⟩
        · exact o2 (.inr (.inl ⟨0, rfl⟩)) x hx
      have hln : fs.length = ds.length := by omega
      have hlen2 : ((.non, sv) :: l : List (V × V)).length = rw0.length := P4.len
      have hsm : Paired (Sm K H7 285) fs ds := paired_of_at hln fun i u u' a1 a2 => by
        have hi : i < rw0.length := by
          have := (List.getElem?_eq_some_iff.mp a2).1
          omega
        obtain ⟨x, hx⟩ : ∃ x, ((.non, sv) :: l : List (V × V))[i]? = some x := ⟨_, List.getElem?_eq_getElem (by omega)⟩
        obtain ⟨s', hs', _, hsd, _⟩ := hTA.at hx
        exact (hIT i u x s' a1 hx hs').sm (K := K) (hok x (List.mem_of_getElem? hx)).1 284 (by omega) (by omega) (hI7 i u' x s' a2 hx hs')
      repeat' (first | specialize "st" | fail)
      refine ⟨285, LT, D, fs, ds, by decide, rfl, rfl, .inl ⟨sql h7, sql h67⟩, hsm, ?_⟩
      repeat' (first | specialize "st" | fail)
      have e07 := e06.trans e7
      have ciD4 : Dp K H7 (.ref pc) cd.dat := CoreD.In.dp (M := []) ⟨pc, chA, sv, rfl, e07 _ _ hpc, e07 _ _ hch, List.not_mem_nil, (hsx.to fun _ _ _ _ => List.not_mem_nil).kp (M := []) e07.kp⟩
      refine q_repr ciD4 co.ni (by decide) (by decide) ?_
      repeat' (first | specialize "st" | fail)
      exact q H7
theorem nexpr_all {C : Addr} (T : Glo K w mg) (W : TchK K C) (D : Dn K mg "note_expression" s_note_expression p_note_expression) (G_cells_of : Cal P w K mg base "cells_of" 1 p_cells_of sp_cellsof) : ∀ n : Nat, Cal P w K mg base "note_expression" (1 + n) p_note_expression (sp_nexpr C n)
  | 0 => cal_imp (cal_false D sc_note_expression 0) fun _ _ _ _ ⟨_, _, e, _, _, _, _, _, _, h, _⟩ => absurd h (by have := e.deep_pos; omega)
  | n + 1 => ok_nexpr T W D n G_cells_of (nexpr_all T W D G_cells_of n)
theorem nstmt_all {C : Addr} (T : Glo K w mg) (W : TchK K C) (D : Dn K mg "note_statement" s_note_statement p_note_statement) (G_parts_of : Cal P w K mg base "parts_of" 1 p_parts_of sp_partsV) (G_note_expression : Cal P w K mg base "note_expression" 7 p_note_expression (sp_nexpr C 6))
    (G_note_target : Cal P w K mg base "note_target" 8 p_note_target (sp_ntarget C)) (G_note_guard : Cal P w K mg base "note_guard" 8 p_note_guard (sp_nguard C)) : ∀ n : Nat, Cal P w K mg base "note_statement" (8 + n) p_note_statement (sp_nstmt C n)
  | 0 => cal_imp (cal_false D sc_note_statement 7) fun _ _ _ _ ⟨_, _, _, s, _, _, _, _, _, _, h, _⟩ => absurd h (by cases s <;> simp [Sx.dep])
  | n + 1 => ok_nstmt T W D n (by omega) G_parts_of G_note_expression G_note_target G_note_guard (nstmt_all T W D G_parts_of G_note_expression G_note_target G_note_guard n)
theorem core_all (T : Glo K w mg) (D__law_draw : Dn K mg "_law_draw" s__law_draw p__law_draw) (D__law_pick : Dn K mg "_law_pick" s__law_pick p__law_pick) (D__law_number : Dn K mg "_law_number" s__law_number p__law_number) (D__law_operator : Dn K mg "_law_operator" s__law_operator p__law_operator)
    (D__law_index : Dn K mg "_law_index" s__law_index p__law_index) (D__law_read : Dn K mg "_law_read" s__law_read p__law_read) (D__law_expression : Dn K mg "_law_expression" s__law_expression p__law_expression) (D__law_target : Dn K mg "_law_target" s__law_target p__law_target) (D__law_set : Dn K mg "_law_set" s__law_set p__law_set)
    (D__law_simple : Dn K mg "_law_simple" s__law_simple p__law_simple) (D__law_more_cells : Dn K mg "_law_more_cells" s__law_more_cells p__law_more_cells) (D__law_env : Dn K mg "_law_env" s__law_env p__law_env) (D__law_alt : Dn K mg "_law_alt" s__law_alt p__law_alt) (D__law_wrapped : Dn K mg "_law_wrapped" s__law_wrapped p__law_wrapped)
    (D__law_items : Dn K mg "_law_items" s__law_items p__law_items) (D__law_meetings : Dn K mg "_law_meetings" s__law_meetings p__law_meetings) (D__law_shared : Dn K mg "_law_shared" s__law_shared p__law_shared) (D__law_faulty : Dn K mg "_law_faulty" s__law_faulty p__law_faulty) (D__law_par : Dn K mg "_law_par" s__law_par p__law_par)
    (D__law_core : Dn K mg "_law_core" s__law_core p__law_core) : Cal P w K mg base "_law_core" 23 p__law_core sp_core := by
  have dr := ok_draw (P := P) (w := w) (base := base) T D__law_draw
  have pi := ok_pick T D__law_pick dr
  have nu := ok_number T D__law_number dr pi
  have op := ok_operator T D__law_operator dr pi
  have ix := ok_index T D__law_index dr pi
  have re := ok_read T D__law_read dr pi ix
  have ta := ok_target T D__law_target dr pi ix
  have x0 : Cal P w K mg base "_law_expression" 4 p__law_expression (sp_expr 0) := cal_imp (cal_false D__law_expression sc__law_expression 3) fun _ _ _ _ ⟨_, _, _, _, _, _, _, h, _⟩ => absurd h (Nat.not_lt_zero _)
  have x1 := ok_expression T D__law_expression dr pi nu op re (d := 0) x0
  have x2 := ok_expression T D__law_expression dr pi nu op re (d := 1) x1
  have ex := ok_expression T D__law_expression dr pi nu op re (d := 2) x2
  have se := ok_set T D__law_set ta ex
  have si := ok_simple T D__law_simple dr pi ex se
  have mo := ok_more (P := P) (w := w) (base := base) T D__law_more_cells
  have en := ok_env T D__law_env dr mo
  have al := ok_alt T D__law_alt dr ta ex si
  have wr := ok_wrapped T D__law_wrapped dr mo ex se
  have me := ok_meetings T D__law_meetings dr pi mo
  have sh := ok_shared T D__law_shared dr
  have fy := ok_faulty T D__law_faulty dr
  have pa := par_all T D__law_items D__law_par dr ex ta si al wr en me sh fy 5
  exact ok_core T D__law_core dr en ex se si pa
theorem build_law {C_Touch : Addr} {fd : FuncData} {fa : Addr} (F : Fun K "law" "law" s_law fa fd) (T : Glo K w mg) (D_parts_of : Dn K mg "parts_of" s_parts_of p_parts_of) (D_touched : Dn K mg "touched" s_touched p_touched) (D_note_statement : Dn K mg "note_statement" s_note_statement p_note_statement) (D_note_guard : Dn K mg "note_guard" s_note_guard p_note_guard) (D_note_target : Dn K mg "note_target" s_note_target p_note_target) (D_note_expression : Dn K mg "note_expression" s_note_expression p_note_expression) (D_cells_of : Dn K mg "cells_of" s_cells_of p_cells_of) (D_threads_of : Dn K mg "threads_of" s_threads_of p_threads_of) (D_note_branches : Dn K mg "note_branches" s_note_branches p_note_branches) (D_threads : Dn K mg "threads" s_threads p_threads) (D_taken_cells : Dn K mg "taken_cells" s_taken_cells p_taken_cells) (D_own : Dn K mg "own" s_own p_own) (D__law_state : Dn K mg "_law_state" s__law_state p__law_state) (D__law_draw : Dn K mg "_law_draw" s__law_draw p__law_draw) (D__law_pick : Dn K mg "_law_pick" s__law_pick p__law_pick) (D__law_number : Dn K mg "_law_number" s__law_number p__law_number) (D__law_operator : Dn K mg "_law_operator" s__law_operator p__law_operator) (D__law_index : Dn K mg "_law_index" s__law_index p__law_index) (D__law_read : Dn K mg "_law_read" s__law_read p__law_read) (D__law_expression : Dn K mg "_law_expression" s__law_expression p__law_expression) (D__law_target : Dn K mg "_law_target" s__law_target p__law_target) (D__law_set : Dn K mg "_law_set" s__law_set p__law_set) (D__law_simple : Dn K mg "_law_simple" s__law_simple p__law_simple) (D__law_more_cells : Dn K mg "_law_more_cells" s__law_more_cells p__law_more_cells) (D__law_env : Dn K mg "_law_env" s__law_env p__law_env) (D__law_alt : Dn K mg "_law_alt" s__law_alt p__law_alt) (D__law_wrapped : Dn K mg "_law_wrapped" s__law_wrapped p__law_wrapped) (D__law_items : Dn K mg "_law_items" s__law_items p__law_items) (D__law_meetings : Dn K mg "_law_meetings" s__law_meetings p__law_meetings) (D__law_shared : Dn K mg "_law_shared" s__law_shared p__law_shared) (D__law_faulty : Dn K mg "_law_faulty" s__law_faulty p__law_faulty) (D__law_par : Dn K mg "_law_par" s__law_par p__law_par) (D__law_core : Dn K mg "_law_core" s__law_core p__law_core) (D__law_cells : Dn K mg "_law_cells" s__law_cells p__law_cells) (D__law_written : Dn K mg "_law_written" s__law_written p__law_written) (D__law_aim : Dn K mg "_law_aim" s__law_aim p__law_aim) (D__law_uses : Dn K mg "_law_uses" s__law_uses p__law_uses) (D__law_takes : Dn K mg "_law_takes" s__law_takes p__law_takes) (D__law_own : Dn K mg "_law_own" s__law_own p__law_own) (D__law_branches : Dn K mg "_law_branches" s__law_branches p__law_branches) (D_Touch___init__ : DnI K mg "Touch" "Touch.__init__" C_Touch s_Touch___init__ p_Touch___init__) (W : TchK K C_Touch) : TopOk P w K mg base fa fd ["script"] (sp_law K) := by
  have dr := ok_draw (P := P) (w := w) (base := base) T D__law_draw
  have co := core_all (P := P) (w := w) (base := base) T D__law_draw D__law_pick D__law_number D__law_operator D__law_index D__law_read D__law_expression D__law_target D__law_set D__law_simple D__law_more_cells D__law_env D__law_alt D__law_wrapped D__law_items D__law_meetings D__law_shared D__law_faulty D__law_par D__law_core
  have po := ok_parts_ofV (P := P) (w := w) (base := base) T D_parts_of
  have ce := ok_cellsof (P := P) (w := w) (base := base) T D_cells_of
  have ex := nexpr_all T W D_note_expression ce 6
  have tg := ok_ntarget T W D_note_target ce ex
  have gu := ok_nguard (C := C_Touch) T D_note_guard ex
  have st := nstmt_all T W D_note_statement po ex tg gu 71
  have tc := ok_touched T W D_touched 71 (ok_tinit T W D_Touch___init__) st
  have no := note_all (P := P) (w := w) (base := base) T D_note_branches po 71
  have th := ok_thrds T D_threads 71 (ok_threads T D_threads_of 71 no) (ok_taken T D_taken_cells 71 tc) tc (own_all T D_own 71)
  have lc := lcells_all (P := P) (w := w) (base := base) T D__law_cells 6 (by omega)
  have lu := luses_all T D__law_uses lc (ok_lwritten T D__law_written) (ok_laim T D__law_aim lc) 71
  have lt := ok_ltakes T D__law_takes 71 lu
  exact body_law F T (ok_state T D__law_state) dr co (lbrs_all T D__law_branches 71) lt lu (lown_all T D__law_own lt 71 (by decide)) th
theorem dn_mk {h : Heap} {x : Str} {st : Stmt} {ps : List Str} {f : Addr} {oc : Value} {od an : Option Addr} {osl : Array (Option Value)} {kV doc pm cdv ct : Value} (X : K.In h) (G : h.Ns mainGlobals mg) (a : PySem.W.nsIn K mainGlobals x = some (some (.ref f)))
    (l : K.lookup f = some ⟨oc, od, .func (PySem.W.fnOf x x (defArgs st) (defBody st) (defScope st) .none kV doc pm an cdv ct), osl⟩) (c : PySem.W.codeIn K cdv x = true) (k : PySem.W.keepIn K (.ref f) = true)
    (hb : ∀ (kV doc pm : Value) (an : Option Addr) (cdv ct : Value) (us : List Value), us.length = ps.length → bindArgs (PySem.W.fnOf x x (defArgs st) (defBody st) (defScope st) .none kV doc pm an cdv ct) ⟨us, []⟩ = pure (ps.zip us)) : Dn K mg x st ps :=
  ⟨f, _, fun_mk l c k, PySem.W.mg_of X G a, (fun_mk l c k).binds hb⟩
theorem all_mk {l : PySem.W.OpenLaw} {w : World} {K : PySem.W.Frag} {h : Heap} {mg : Str → Option Value} {fa : Addr} (X : K.In h) (G : h.Ns mainGlobals mg) (hfa : mg "law" = some (.ref fa))
    {f0 : Addr} {od0 an0 : Option Addr} {sl0 : Array (Option Value)} {oc0 kV0 dc0 pm0 cd0 ct0 : Value}
    {f1 : Addr} {od1 an1 : Option Addr} {sl1 : Array (Option Value)} {oc1 kV1 dc1 pm1 cd1 ct1 : Value}
    {f2 : Addr} {od2 an2 : Option Addr} {sl2 : Array (Option Value)} {oc2 kV2 dc2 pm2 cd2 ct2 : Value}
    {f3 : Addr} {od3 an3 : Option Addr} {sl3 : Array (Option Value)} {oc3 kV3 dc3 pm3 cd3 ct3 : Value}
    {f4 : Addr} {od4 an4 : Option Addr} {sl4 : Array (Option Value)} {oc4 kV4 dc4 pm4 cd4 ct4 : Value}
    {f5 : Addr} {od5 an5 : Option Addr} {sl5 : Array (Option Value)} {oc5 kV5 dc5 pm5 cd5 ct5 : Value}
    {f6 : Addr} {od6 an6 : Option Addr} {sl6 : Array (Option Value)} {oc6 kV6 dc6 pm6 cd6 ct6 : Value}
    {f7 : Addr} {od7 an7 : Option Addr} {sl7 : Array (Option Value)} {oc7 kV7 dc7 pm7 cd7 ct7 : Value}
    {f8 : Addr} {od8 an8 : Option Addr} {sl8 : Array (Option Value)} {oc8 kV8 dc8 pm8 cd8 ct8 : Value}
    {f9 : Addr} {od9 an9 : Option Addr} {sl9 : Array (Option Value)} {oc9 kV9 dc9 pm9 cd9 ct9 : Value}
    {f10 : Addr} {od10 an10 : Option Addr} {sl10 : Array (Option Value)} {oc10 kV10 dc10 pm10 cd10 ct10 : Value}
    {f11 : Addr} {od11 an11 : Option Addr} {sl11 : Array (Option Value)} {oc11 kV11 dc11 pm11 cd11 ct11 : Value}
    {f12 : Addr} {od12 an12 : Option Addr} {sl12 : Array (Option Value)} {oc12 kV12 dc12 pm12 cd12 ct12 : Value}
    {f13 : Addr} {od13 an13 : Option Addr} {sl13 : Array (Option Value)} {oc13 kV13 dc13 pm13 cd13 ct13 : Value}
    {f14 : Addr} {od14 an14 : Option Addr} {sl14 : Array (Option Value)} {oc14 kV14 dc14 pm14 cd14 ct14 : Value}
    {f15 : Addr} {od15 an15 : Option Addr} {sl15 : Array (Option Value)} {oc15 kV15 dc15 pm15 cd15 ct15 : Value}
    {f16 : Addr} {od16 an16 : Option Addr} {sl16 : Array (Option Value)} {oc16 kV16 dc16 pm16 cd16 ct16 : Value}
    {f17 : Addr} {od17 an17 : Option Addr} {sl17 : Array (Option Value)} {oc17 kV17 dc17 pm17 cd17 ct17 : Value}
    {f18 : Addr} {od18 an18 : Option Addr} {sl18 : Array (Option Value)} {oc18 kV18 dc18 pm18 cd18 ct18 : Value}
    {f19 : Addr} {od19 an19 : Option Addr} {sl19 : Array (Option Value)} {oc19 kV19 dc19 pm19 cd19 ct19 : Value}
    {f20 : Addr} {od20 an20 : Option Addr} {sl20 : Array (Option Value)} {oc20 kV20 dc20 pm20 cd20 ct20 : Value}
    {f21 : Addr} {od21 an21 : Option Addr} {sl21 : Array (Option Value)} {oc21 kV21 dc21 pm21 cd21 ct21 : Value}
    {f22 : Addr} {od22 an22 : Option Addr} {sl22 : Array (Option Value)} {oc22 kV22 dc22 pm22 cd22 ct22 : Value}
    {f23 : Addr} {od23 an23 : Option Addr} {sl23 : Array (Option Value)} {oc23 kV23 dc23 pm23 cd23 ct23 : Value}
    {f24 : Addr} {od24 an24 : Option Addr} {sl24 : Array (Option Value)} {oc24 kV24 dc24 pm24 cd24 ct24 : Value}
    {f25 : Addr} {od25 an25 : Option Addr} {sl25 : Array (Option Value)} {oc25 kV25 dc25 pm25 cd25 ct25 : Value}
    {f26 : Addr} {od26 an26 : Option Addr} {sl26 : Array (Option Value)} {oc26 kV26 dc26 pm26 cd26 ct26 : Value}
    {f27 : Addr} {od27 an27 : Option Addr} {sl27 : Array (Option Value)} {oc27 kV27 dc27 pm27 cd27 ct27 : Value}
    {f28 : Addr} {od28 an28 : Option Addr} {sl28 : Array (Option Value)} {oc28 kV28 dc28 pm28 cd28 ct28 : Value}
    {f29 : Addr} {od29 an29 : Option Addr} {sl29 : Array (Option Value)} {oc29 kV29 dc29 pm29 cd29 ct29 : Value}
    {f30 : Addr} {od30 an30 : Option Addr} {sl30 : Array (Option Value)} {oc30 kV30 dc30 pm30 cd30 ct30 : Value}
    {f31 : Addr} {od31 an31 : Option Addr} {sl31 : Array (Option Value)} {oc31 kV31 dc31 pm31 cd31 ct31 : Value}
    {f32 : Addr} {od32 an32 : Option Addr} {sl32 : Array (Option Value)} {oc32 kV32 dc32 pm32 cd32 ct32 : Value}
    {f33 : Addr} {od33 an33 : Option Addr} {sl33 : Array (Option Value)} {oc33 kV33 dc33 pm33 cd33 ct33 : Value}
    {f34 : Addr} {od34 an34 : Option Addr} {sl34 : Array (Option Value)} {oc34 kV34 dc34 pm34 cd34 ct34 : Value}
    {f35 : Addr} {od35 an35 : Option Addr} {sl35 : Array (Option Value)} {oc35 kV35 dc35 pm35 cd35 ct35 : Value}
    {f36 : Addr} {od36 an36 : Option Addr} {sl36 : Array (Option Value)} {oc36 kV36 dc36 pm36 cd36 ct36 : Value}
    {f37 : Addr} {od37 an37 : Option Addr} {sl37 : Array (Option Value)} {oc37 kV37 dc37 pm37 cd37 ct37 : Value}
    {f38 : Addr} {od38 an38 : Option Addr} {sl38 : Array (Option Value)} {oc38 kV38 dc38 pm38 cd38 ct38 : Value}
    {f39 : Addr} {od39 an39 : Option Addr} {sl39 : Array (Option Value)} {oc39 kV39 dc39 pm39 cd39 ct39 : Value}
    {f40 : Addr} {od40 an40 : Option Addr} {sl40 : Array (Option Value)} {oc40 kV40 dc40 pm40 cd40 ct40 : Value}
    {C_Touch : Addr}
    {f_Touch___init__ : Addr} {od_Touch___init__ an_Touch___init__ : Option Addr} {sl_Touch___init__ : Array (Option Value)} {oc_Touch___init__ kV_Touch___init__ dc_Touch___init__ pm_Touch___init__ cd_Touch___init__ ct_Touch___init__ : Value}
    (a0 : PySem.W.nsIn K mainGlobals "parts_of" = some (some (.ref f0))) (l0 : K.lookup f0 = some ⟨oc0, od0, .func (PySem.W.fnOf "parts_of" "parts_of" (defArgs s_parts_of) (defBody s_parts_of) (defScope s_parts_of) .none kV0 dc0 pm0 an0 cd0 ct0), sl0⟩) (c0 : PySem.W.codeIn K cd0 "parts_of" = true) (k0 : PySem.W.keepIn K (.ref f0) = true)
    (a1 : PySem.W.nsIn K mainGlobals "touched" = some (some (.ref f1))) (l1 : K.lookup f1 = some ⟨oc1, od1, .func (PySem.W.fnOf "touched" "touched" (defArgs s_touched) (defBody s_touched) (defScope s_touched) .none kV1 dc1 pm1 an1 cd1 ct1), sl1⟩) (c1 : PySem.W.codeIn K cd1 "touched" = true) (k1 : PySem.W.keepIn K (.ref f1) = true)
    (a2 : PySem.W.nsIn K mainGlobals "note_statement" = some (some (.ref f2))) (l2 : K.lookup f2 = some ⟨oc2, od2, .func (PySem.W.fnOf "note_statement" "note_statement" (defArgs s_note_statement) (defBody s_note_statement) (defScope s_note_statement) .none kV2 dc2 pm2 an2 cd2 ct2), sl2⟩) (c2 : PySem.W.codeIn K cd2 "note_statement" = true) (k2 : PySem.W.keepIn K (.ref f2) = true)
    (a3 : PySem.W.nsIn K mainGlobals "note_guard" = some (some (.ref f3))) (l3 : K.lookup f3 = some ⟨oc3, od3, .func (PySem.W.fnOf "note_guard" "note_guard" (defArgs s_note_guard) (defBody s_note_guard) (defScope s_note_guard) .none kV3 dc3 pm3 an3 cd3 ct3), sl3⟩) (c3 : PySem.W.codeIn K cd3 "note_guard" = true) (k3 : PySem.W.keepIn K (.ref f3) = true)
    (a4 : PySem.W.nsIn K mainGlobals "note_target" = some (some (.ref f4))) (l4 : K.lookup f4 = some ⟨oc4, od4, .func (PySem.W.fnOf "note_target" "note_target" (defArgs s_note_target) (defBody s_note_target) (defScope s_note_target) .none kV4 dc4 pm4 an4 cd4 ct4), sl4⟩) (c4 : PySem.W.codeIn K cd4 "note_target" = true) (k4 : PySem.W.keepIn K (.ref f4) = true)
    (a5 : PySem.W.nsIn K mainGlobals "note_expression" = some (some (.ref f5))) (l5 : K.lookup f5 = some ⟨oc5, od5, .func (PySem.W.fnOf "note_expression" "note_expression" (defArgs s_note_expression) (defBody s_note_expression) (defScope s_note_expression) .none kV5 dc5 pm5 an5 cd5 ct5), sl5⟩) (c5 : PySem.W.codeIn K cd5 "note_expression" = true) (k5 : PySem.W.keepIn K (.ref f5) = true)
    (a6 : PySem.W.nsIn K mainGlobals "cells_of" = some (some (.ref f6))) (l6 : K.lookup f6 = some ⟨oc6, od6, .func (PySem.W.fnOf "cells_of" "cells_of" (defArgs s_cells_of) (defBody s_cells_of) (defScope s_cells_of) .none kV6 dc6 pm6 an6 cd6 ct6), sl6⟩) (c6 : PySem.W.codeIn K cd6 "cells_of" = true) (k6 : PySem.W.keepIn K (.ref f6) = true)
    (a7 : PySem.W.nsIn K mainGlobals "threads_of" = some (some (.ref f7))) (l7 : K.lookup f7 = some ⟨oc7, od7, .func (PySem.W.fnOf "threads_of" "threads_of" (defArgs s_threads_of) (defBody s_threads_of) (defScope s_threads_of) .none kV7 dc7 pm7 an7 cd7 ct7), sl7⟩) (c7 : PySem.W.codeIn K cd7 "threads_of" = true) (k7 : PySem.W.keepIn K (.ref f7) = true)
    (a8 : PySem.W.nsIn K mainGlobals "note_branches" = some (some (.ref f8))) (l8 : K.lookup f8 = some ⟨oc8, od8, .func (PySem.W.fnOf "note_branches" "note_branches" (defArgs s_note_branches) (defBody s_note_branches) (defScope s_note_branches) .none kV8 dc8 pm8 an8 cd8 ct8), sl8⟩) (c8 : PySem.W.codeIn K cd8 "note_branches" = true) (k8 : PySem.W.keepIn K (.ref f8) = true)
    (a9 : PySem.W.nsIn K mainGlobals "threads" = some (some (.ref f9))) (l9 : K.lookup f9 = some ⟨oc9, od9, .func (PySem.W.fnOf "threads" "threads" (defArgs s_threads) (defBody s_threads) (defScope s_threads) .none kV9 dc9 pm9 an9 cd9 ct9), sl9⟩) (c9 : PySem.W.codeIn K cd9 "threads" = true) (k9 : PySem.W.keepIn K (.ref f9) = true)
    (a10 : PySem.W.nsIn K mainGlobals "taken_cells" = some (some (.ref f10))) (l10 : K.lookup f10 = some ⟨oc10, od10, .func (PySem.W.fnOf "taken_cells" "taken_cells" (defArgs s_taken_cells) (defBody s_taken_cells) (defScope s_taken_cells) .none kV10 dc10 pm10 an10 cd10 ct10), sl10⟩) (c10 : PySem.W.codeIn K cd10 "taken_cells" = true) (k10 : PySem.W.keepIn K (.ref f10) = true)
    (a11 : PySem.W.nsIn K mainGlobals "own" = some (some (.ref f11))) (l11 : K.lookup f11 = some ⟨oc11, od11, .func (PySem.W.fnOf "own" "own" (defArgs s_own) (defBody s_own) (defScope s_own) .none kV11 dc11 pm11 an11 cd11 ct11), sl11⟩) (c11 : PySem.W.codeIn K cd11 "own" = true) (k11 : PySem.W.keepIn K (.ref f11) = true)
    (a12 : PySem.W.nsIn K mainGlobals "_law_state" = some (some (.ref f12))) (l12 : K.lookup f12 = some ⟨oc12, od12, .func (PySem.W.fnOf "_law_state" "_law_state" (defArgs s__law_state) (defBody s__law_state) (defScope s__law_state) .none kV12 dc12 pm12 an12 cd12 ct12), sl12⟩) (c12 : PySem.W.codeIn K cd12 "_law_state" = true) (k12 : PySem.W.keepIn K (.ref f12) = true)
    (a13 : PySem.W.nsIn K mainGlobals "_law_draw" = some (some (.ref f13))) (l13 : K.lookup f13 = some ⟨oc13, od13, .func (PySem.W.fnOf "_law_draw" "_law_draw" (defArgs s__law_draw) (defBody s__law_draw) (defScope s__law_draw) .none kV13 dc13 pm13 an13 cd13 ct13), sl13⟩) (c13 : PySem.W.codeIn K cd13 "_law_draw" = true) (k13 : PySem.W.keepIn K (.ref f13) = true)
    (a14 : PySem.W.nsIn K mainGlobals "_law_pick" = some (some (.ref f14))) (l14 : K.lookup f14 = some ⟨oc14, od14, .func (PySem.W.fnOf "_law_pick" "_law_pick" (defArgs s__law_pick) (defBody s__law_pick) (defScope s__law_pick) .none kV14 dc14 pm14 an14 cd14 ct14), sl14⟩) (c14 : PySem.W.codeIn K cd14 "_law_pick" = true) (k14 : PySem.W.keepIn K (.ref f14) = true)
    (a15 : PySem.W.nsIn K mainGlobals "_law_number" = some (some (.ref f15))) (l15 : K.lookup f15 = some ⟨oc15, od15, .func (PySem.W.fnOf "_law_number" "_law_number" (defArgs s__law_number) (defBody s__law_number) (defScope s__law_number) .none kV15 dc15 pm15 an15 cd15 ct15), sl15⟩) (c15 : PySem.W.codeIn K cd15 "_law_number" = true) (k15 : PySem.W.keepIn K (.ref f15) = true)
    (a16 : PySem.W.nsIn K mainGlobals "_law_operator" = some (some (.ref f16))) (l16 : K.lookup f16 = some ⟨oc16, od16, .func (PySem.W.fnOf "_law_operator" "_law_operator" (defArgs s__law_operator) (defBody s__law_operator) (defScope s__law_operator) .none kV16 dc16 pm16 an16 cd16 ct16), sl16⟩) (c16 : PySem.W.codeIn K cd16 "_law_operator" = true) (k16 : PySem.W.keepIn K (.ref f16) = true)
    (a17 : PySem.W.nsIn K mainGlobals "_law_index" = some (some (.ref f17))) (l17 : K.lookup f17 = some ⟨oc17, od17, .func (PySem.W.fnOf "_law_index" "_law_index" (defArgs s__law_index) (defBody s__law_index) (defScope s__law_index) .none kV17 dc17 pm17 an17 cd17 ct17), sl17⟩) (c17 : PySem.W.codeIn K cd17 "_law_index" = true) (k17 : PySem.W.keepIn K (.ref f17) = true)
    (a18 : PySem.W.nsIn K mainGlobals "_law_read" = some (some (.ref f18))) (l18 : K.lookup f18 = some ⟨oc18, od18, .func (PySem.W.fnOf "_law_read" "_law_read" (defArgs s__law_read) (defBody s__law_read) (defScope s__law_read) .none kV18 dc18 pm18 an18 cd18 ct18), sl18⟩) (c18 : PySem.W.codeIn K cd18 "_law_read" = true) (k18 : PySem.W.keepIn K (.ref f18) = true)
    (a19 : PySem.W.nsIn K mainGlobals "_law_expression" = some (some (.ref f19))) (l19 : K.lookup f19 = some ⟨oc19, od19, .func (PySem.W.fnOf "_law_expression" "_law_expression" (defArgs s__law_expression) (defBody s__law_expression) (defScope s__law_expression) .none kV19 dc19 pm19 an19 cd19 ct19), sl19⟩) (c19 : PySem.W.codeIn K cd19 "_law_expression" = true) (k19 : PySem.W.keepIn K (.ref f19) = true)
    (a20 : PySem.W.nsIn K mainGlobals "_law_target" = some (some (.ref f20))) (l20 : K.lookup f20 = some ⟨oc20, od20, .func (PySem.W.fnOf "_law_target" "_law_target" (defArgs s__law_target) (defBody s__law_target) (defScope s__law_target) .none kV20 dc20 pm20 an20 cd20 ct20), sl20⟩) (c20 : PySem.W.codeIn K cd20 "_law_target" = true) (k20 : PySem.W.keepIn K (.ref f20) = true)
    (a21 : PySem.W.nsIn K mainGlobals "_law_set" = some (some (.ref f21))) (l21 : K.lookup f21 = some ⟨oc21, od21, .func (PySem.W.fnOf "_law_set" "_law_set" (defArgs s__law_set) (defBody s__law_set) (defScope s__law_set) .none kV21 dc21 pm21 an21 cd21 ct21), sl21⟩) (c21 : PySem.W.codeIn K cd21 "_law_set" = true) (k21 : PySem.W.keepIn K (.ref f21) = true)
    (a22 : PySem.W.nsIn K mainGlobals "_law_simple" = some (some (.ref f22))) (l22 : K.lookup f22 = some ⟨oc22, od22, .func (PySem.W.fnOf "_law_simple" "_law_simple" (defArgs s__law_simple) (defBody s__law_simple) (defScope s__law_simple) .none kV22 dc22 pm22 an22 cd22 ct22), sl22⟩) (c22 : PySem.W.codeIn K cd22 "_law_simple" = true) (k22 : PySem.W.keepIn K (.ref f22) = true)
    (a23 : PySem.W.nsIn K mainGlobals "_law_more_cells" = some (some (.ref f23))) (l23 : K.lookup f23 = some ⟨oc23, od23, .func (PySem.W.fnOf "_law_more_cells" "_law_more_cells" (defArgs s__law_more_cells) (defBody s__law_more_cells) (defScope s__law_more_cells) .none kV23 dc23 pm23 an23 cd23 ct23), sl23⟩) (c23 : PySem.W.codeIn K cd23 "_law_more_cells" = true) (k23 : PySem.W.keepIn K (.ref f23) = true)
    (a24 : PySem.W.nsIn K mainGlobals "_law_env" = some (some (.ref f24))) (l24 : K.lookup f24 = some ⟨oc24, od24, .func (PySem.W.fnOf "_law_env" "_law_env" (defArgs s__law_env) (defBody s__law_env) (defScope s__law_env) .none kV24 dc24 pm24 an24 cd24 ct24), sl24⟩) (c24 : PySem.W.codeIn K cd24 "_law_env" = true) (k24 : PySem.W.keepIn K (.ref f24) = true)
    (a25 : PySem.W.nsIn K mainGlobals "_law_alt" = some (some (.ref f25))) (l25 : K.lookup f25 = some ⟨oc25, od25, .func (PySem.W.fnOf "_law_alt" "_law_alt" (defArgs s__law_alt) (defBody s__law_alt) (defScope s__law_alt) .none kV25 dc25 pm25 an25 cd25 ct25), sl25⟩) (c25 : PySem.W.codeIn K cd25 "_law_alt" = true) (k25 : PySem.W.keepIn K (.ref f25) = true)
    (a26 : PySem.W.nsIn K mainGlobals "_law_wrapped" = some (some (.ref f26))) (l26 : K.lookup f26 = some ⟨oc26, od26, .func (PySem.W.fnOf "_law_wrapped" "_law_wrapped" (defArgs s__law_wrapped) (defBody s__law_wrapped) (defScope s__law_wrapped) .none kV26 dc26 pm26 an26 cd26 ct26), sl26⟩) (c26 : PySem.W.codeIn K cd26 "_law_wrapped" = true) (k26 : PySem.W.keepIn K (.ref f26) = true)
    (a27 : PySem.W.nsIn K mainGlobals "_law_items" = some (some (.ref f27))) (l27 : K.lookup f27 = some ⟨oc27, od27, .func (PySem.W.fnOf "_law_items" "_law_items" (defArgs s__law_items) (defBody s__law_items) (defScope s__law_items) .none kV27 dc27 pm27 an27 cd27 ct27), sl27⟩) (c27 : PySem.W.codeIn K cd27 "_law_items" = true) (k27 : PySem.W.keepIn K (.ref f27) = true)
    (a28 : PySem.W.nsIn K mainGlobals "_law_meetings" = some (some (.ref f28))) (l28 : K.lookup f28 = some ⟨oc28, od28, .func (PySem.W.fnOf "_law_meetings" "_law_meetings" (defArgs s__law_meetings) (defBody s__law_meetings) (defScope s__law_meetings) .none kV28 dc28 pm28 an28 cd28 ct28), sl28⟩) (c28 : PySem.W.codeIn K cd28 "_law_meetings" = true) (k28 : PySem.W.keepIn K (.ref f28) = true)
    (a29 : PySem.W.nsIn K mainGlobals "_law_shared" = some (some (.ref f29))) (l29 : K.lookup f29 = some ⟨oc29, od29, .func (PySem.W.fnOf "_law_shared" "_law_shared" (defArgs s__law_shared) (defBody s__law_shared) (defScope s__law_shared) .none kV29 dc29 pm29 an29 cd29 ct29), sl29⟩) (c29 : PySem.W.codeIn K cd29 "_law_shared" = true) (k29 : PySem.W.keepIn K (.ref f29) = true)
    (a30 : PySem.W.nsIn K mainGlobals "_law_faulty" = some (some (.ref f30))) (l30 : K.lookup f30 = some ⟨oc30, od30, .func (PySem.W.fnOf "_law_faulty" "_law_faulty" (defArgs s__law_faulty) (defBody s__law_faulty) (defScope s__law_faulty) .none kV30 dc30 pm30 an30 cd30 ct30), sl30⟩) (c30 : PySem.W.codeIn K cd30 "_law_faulty" = true) (k30 : PySem.W.keepIn K (.ref f30) = true)
    (a31 : PySem.W.nsIn K mainGlobals "_law_par" = some (some (.ref f31))) (l31 : K.lookup f31 = some ⟨oc31, od31, .func (PySem.W.fnOf "_law_par" "_law_par" (defArgs s__law_par) (defBody s__law_par) (defScope s__law_par) .none kV31 dc31 pm31 an31 cd31 ct31), sl31⟩) (c31 : PySem.W.codeIn K cd31 "_law_par" = true) (k31 : PySem.W.keepIn K (.ref f31) = true)
    (a32 : PySem.W.nsIn K mainGlobals "_law_core" = some (some (.ref f32))) (l32 : K.lookup f32 = some ⟨oc32, od32, .func (PySem.W.fnOf "_law_core" "_law_core" (defArgs s__law_core) (defBody s__law_core) (defScope s__law_core) .none kV32 dc32 pm32 an32 cd32 ct32), sl32⟩) (c32 : PySem.W.codeIn K cd32 "_law_core" = true) (k32 : PySem.W.keepIn K (.ref f32) = true)
    (a33 : PySem.W.nsIn K mainGlobals "_law_cells" = some (some (.ref f33))) (l33 : K.lookup f33 = some ⟨oc33, od33, .func (PySem.W.fnOf "_law_cells" "_law_cells" (defArgs s__law_cells) (defBody s__law_cells) (defScope s__law_cells) .none kV33 dc33 pm33 an33 cd33 ct33), sl33⟩) (c33 : PySem.W.codeIn K cd33 "_law_cells" = true) (k33 : PySem.W.keepIn K (.ref f33) = true)
    (a34 : PySem.W.nsIn K mainGlobals "_law_written" = some (some (.ref f34))) (l34 : K.lookup f34 = some ⟨oc34, od34, .func (PySem.W.fnOf "_law_written" "_law_written" (defArgs s__law_written) (defBody s__law_written) (defScope s__law_written) .none kV34 dc34 pm34 an34 cd34 ct34), sl34⟩) (c34 : PySem.W.codeIn K cd34 "_law_written" = true) (k34 : PySem.W.keepIn K (.ref f34) = true)
    (a35 : PySem.W.nsIn K mainGlobals "_law_aim" = some (some (.ref f35))) (l35 : K.lookup f35 = some ⟨oc35, od35, .func (PySem.W.fnOf "_law_aim" "_law_aim" (defArgs s__law_aim) (defBody s__law_aim) (defScope s__law_aim) .none kV35 dc35 pm35 an35 cd35 ct35), sl35⟩) (c35 : PySem.W.codeIn K cd35 "_law_aim" = true) (k35 : PySem.W.keepIn K (.ref f35) = true)
    (a36 : PySem.W.nsIn K mainGlobals "_law_uses" = some (some (.ref f36))) (l36 : K.lookup f36 = some ⟨oc36, od36, .func (PySem.W.fnOf "_law_uses" "_law_uses" (defArgs s__law_uses) (defBody s__law_uses) (defScope s__law_uses) .none kV36 dc36 pm36 an36 cd36 ct36), sl36⟩) (c36 : PySem.W.codeIn K cd36 "_law_uses" = true) (k36 : PySem.W.keepIn K (.ref f36) = true)
    (a37 : PySem.W.nsIn K mainGlobals "_law_takes" = some (some (.ref f37))) (l37 : K.lookup f37 = some ⟨oc37, od37, .func (PySem.W.fnOf "_law_takes" "_law_takes" (defArgs s__law_takes) (defBody s__law_takes) (defScope s__law_takes) .none kV37 dc37 pm37 an37 cd37 ct37), sl37⟩) (c37 : PySem.W.codeIn K cd37 "_law_takes" = true) (k37 : PySem.W.keepIn K (.ref f37) = true)
    (a38 : PySem.W.nsIn K mainGlobals "_law_own" = some (some (.ref f38))) (l38 : K.lookup f38 = some ⟨oc38, od38, .func (PySem.W.fnOf "_law_own" "_law_own" (defArgs s__law_own) (defBody s__law_own) (defScope s__law_own) .none kV38 dc38 pm38 an38 cd38 ct38), sl38⟩) (c38 : PySem.W.codeIn K cd38 "_law_own" = true) (k38 : PySem.W.keepIn K (.ref f38) = true)
    (a39 : PySem.W.nsIn K mainGlobals "_law_branches" = some (some (.ref f39))) (l39 : K.lookup f39 = some ⟨oc39, od39, .func (PySem.W.fnOf "_law_branches" "_law_branches" (defArgs s__law_branches) (defBody s__law_branches) (defScope s__law_branches) .none kV39 dc39 pm39 an39 cd39 ct39), sl39⟩) (c39 : PySem.W.codeIn K cd39 "_law_branches" = true) (k39 : PySem.W.keepIn K (.ref f39) = true)
    (a40 : PySem.W.nsIn K mainGlobals "law" = some (some (.ref f40))) (l40 : K.lookup f40 = some ⟨oc40, od40, .func (PySem.W.fnOf "law" "law" (defArgs s_law) (defBody s_law) (defScope s_law) .none kV40 dc40 pm40 an40 cd40 ct40), sl40⟩) (c40 : PySem.W.codeIn K cd40 "law" = true) (k40 : PySem.W.keepIn K (.ref f40) = true)
    (aC_Touch : PySem.W.nsIn K mainGlobals "Touch" = some (some (.ref C_Touch))) (pg_Touch : PySem.W.plainGet K C_Touch Str.empty = true) (hd_Touch : PySem.W.hasDictIn K C_Touch = true) (po_Touch : PySem.W.plainOver K C_Touch = true) (sa_Touch : PySem.W.findIn K (.ref C_Touch) "__setattr__" = some (some (.builtin "object.__setattr__"))) (mk_Touch : PySem.W.makesIn K C_Touch = true) (kc_Touch : PySem.W.keepIn K (.ref C_Touch) = true)
    (na_Touch_reads : PySem.W.findIn K (.ref C_Touch) "reads" = some none)
    (na_Touch_writes : PySem.W.findIn K (.ref C_Touch) "writes" = some none)
    (na_Touch_gives : PySem.W.findIn K (.ref C_Touch) "gives" = some none)
    (na_Touch_takes : PySem.W.findIn K (.ref C_Touch) "takes" = some none)
    (a_Touch___init__ : PySem.W.findIn K (.ref C_Touch) "__init__" = some (some (.ref f_Touch___init__))) (i_Touch___init__ : PySem.W.isFn K (.ref f_Touch___init__) = true) (l_Touch___init__ : K.lookup f_Touch___init__ = some ⟨oc_Touch___init__, od_Touch___init__, .func (PySem.W.fnOf "__init__" "Touch.__init__" (defArgs s_Touch___init__) (defBody s_Touch___init__) (defScope s_Touch___init__) .none kV_Touch___init__ dc_Touch___init__ pm_Touch___init__ an_Touch___init__ cd_Touch___init__ ct_Touch___init__), sl_Touch___init__⟩) (c_Touch___init__ : PySem.W.codeIn K cd_Touch___init__ "Touch.__init__" = true) (k_Touch___init__ : PySem.W.keepIn K (.ref f_Touch___init__) = true)
    (z_n_len : PySem.W.nsIn K mainGlobals "len" = some none) (z_n_int : PySem.W.nsIn K mainGlobals "int" = some none) (z_n_abs : PySem.W.nsIn K mainGlobals "abs" = some none) (z_n_range : PySem.W.nsIn K mainGlobals "range" = some none) (z_n_list : PySem.W.nsIn K mainGlobals "list" = some none) (z_n_tuple : PySem.W.nsIn K mainGlobals "tuple" = some none) (z_n_dict : PySem.W.nsIn K mainGlobals "dict" = some none) (z_n_sorted : PySem.W.nsIn K mainGlobals "sorted" = some none) (z_n_min : PySem.W.nsIn K mainGlobals "min" = some none) (z_n_all : PySem.W.nsIn K mainGlobals "all" = some none) (z_n_repr : PySem.W.nsIn K mainGlobals "repr" = some none) (z_n_isinstance : PySem.W.nsIn K mainGlobals "isinstance" = some none) (z_n_enumerate : PySem.W.nsIn K mainGlobals "enumerate" = some none) (z_n_set : PySem.W.nsIn K mainGlobals "set" = some none) :
    ∃ fd : FuncData, (∀ (s : Shared) (v : Value), BindsTo s fd ⟨[v], []⟩ [("script", v)]) ∧ ∀ base : Heap, K.In base → base.Ns mainGlobals mg → TopOk l.prog w K mg base fa fd ["script"] (sp_law K) := by
  have e := hfa.symm.trans (PySem.W.mg_of X G a40)
  cases e
  have FL := fun_mk (st := s_law) l40 c40 k40
  have D_parts_of : Dn K mg "parts_of" s_parts_of p_parts_of := dn_mk X G a0 l0 c0 k0 (fun _ _ _ _ _ _ us hl => match us, hl with | [_], _ => rfl)
  have D_touched : Dn K mg "touched" s_touched p_touched := dn_mk X G a1 l1 c1 k1 (fun _ _ _ _ _ _ us hl => match us, hl with | [_], _ => rfl)
  have D_note_statement : Dn K mg "note_statement" s_note_statement p_note_statement := dn_mk X G a2 l2 c2 k2 (fun _ _ _ _ _ _ us hl => match us, hl with | [_, _], _ => rfl)
  have D_note_guard : Dn K mg "note_guard" s_note_guard p_note_guard := dn_mk X G a3 l3 c3 k3 (fun _ _ _ _ _ _ us hl => match us, hl with | [_, _], _ => rfl)
  have D_note_target : Dn K mg "note_target" s_note_target p_note_target := dn_mk X G a4 l4 c4 k4 (fun _ _ _ _ _ _ us hl => match us, hl with | [_, _], _ => rfl)
  have D_note_expression : Dn K mg "note_expression" s_note_expression p_note_expression := dn_mk X G a5 l5 c5 k5 (fun _ _ _ _ _ _ us hl => match us, hl with | [_, _], _ => rfl)
  have D_cells_of : Dn K mg "cells_of" s_cells_of p_cells_of := dn_mk X G a6 l6 c6 k6 (fun _ _ _ _ _ _ us hl => match us, hl with | [_], _ => rfl)
  have D_threads_of : Dn K mg "threads_of" s_threads_of p_threads_of := dn_mk X G a7 l7 c7 k7 (fun _ _ _ _ _ _ us hl => match us, hl with | [_], _ => rfl)
  have D_note_branches : Dn K mg "note_branches" s_note_branches p_note_branches := dn_mk X G a8 l8 c8 k8 (fun _ _ _ _ _ _ us hl => match us, hl with | [_, _, _], _ => rfl)
  have D_threads : Dn K mg "threads" s_threads p_threads := dn_mk X G a9 l9 c9 k9 (fun _ _ _ _ _ _ us hl => match us, hl with | [_], _ => rfl)
  have D_taken_cells : Dn K mg "taken_cells" s_taken_cells p_taken_cells := dn_mk X G a10 l10 c10 k10 (fun _ _ _ _ _ _ us hl => match us, hl with | [_], _ => rfl)
  have D_own : Dn K mg "own" s_own p_own := dn_mk X G a11 l11 c11 k11 (fun _ _ _ _ _ _ us hl => match us, hl with | [_, _], _ => rfl)
  have D__law_state : Dn K mg "_law_state" s__law_state p__law_state := dn_mk X G a12 l12 c12 k12 (fun _ _ _ _ _ _ us hl => match us, hl with | [_], _ => rfl)
  have D__law_draw : Dn K mg "_law_draw" s__law_draw p__law_draw := dn_mk X G a13 l13 c13 k13 (fun _ _ _ _ _ _ us hl => match us, hl with | [_, _], _ => rfl)
  have D__law_pick : Dn K mg "_law_pick" s__law_pick p__law_pick := dn_mk X G a14 l14 c14 k14 (fun _ _ _ _ _ _ us hl => match us, hl with | [_, _], _ => rfl)
  have D__law_number : Dn K mg "_law_number" s__law_number p__law_number := dn_mk X G a15 l15 c15 k15 (fun _ _ _ _ _ _ us hl => match us, hl with | [_], _ => rfl)
  have D__law_operator : Dn K mg "_law_operator" s__law_operator p__law_operator := dn_mk X G a16 l16 c16 k16 (fun _ _ _ _ _ _ us hl => match us, hl with | [_], _ => rfl)
  have D__law_index : Dn K mg "_law_index" s__law_index p__law_index := dn_mk X G a17 l17 c17 k17 (fun _ _ _ _ _ _ us hl => match us, hl with | [_, _, _], _ => rfl)
  have D__law_read : Dn K mg "_law_read" s__law_read p__law_read := dn_mk X G a18 l18 c18 k18 (fun _ _ _ _ _ _ us hl => match us, hl with | [_, _], _ => rfl)
  have D__law_expression : Dn K mg "_law_expression" s__law_expression p__law_expression := dn_mk X G a19 l19 c19 k19 (fun _ _ _ _ _ _ us hl => match us, hl with | [_, _, _], _ => rfl)
  have D__law_target : Dn K mg "_law_target" s__law_target p__law_target := dn_mk X G a20 l20 c20 k20 (fun _ _ _ _ _ _ us hl => match us, hl with | [_, _], _ => rfl)
  have D__law_set : Dn K mg "_law_set" s__law_set p__law_set := dn_mk X G a21 l21 c21 k21 (fun _ _ _ _ _ _ us hl => match us, hl with | [_, _], _ => rfl)
  have D__law_simple : Dn K mg "_law_simple" s__law_simple p__law_simple := dn_mk X G a22 l22 c22 k22 (fun _ _ _ _ _ _ us hl => match us, hl with | [_, _], _ => rfl)
  have D__law_more_cells : Dn K mg "_law_more_cells" s__law_more_cells p__law_more_cells := dn_mk X G a23 l23 c23 k23 (fun _ _ _ _ _ _ us hl => match us, hl with | [_, _], _ => rfl)
  have D__law_env : Dn K mg "_law_env" s__law_env p__law_env := dn_mk X G a24 l24 c24 k24 (fun _ _ _ _ _ _ us hl => match us, hl with | [_, _], _ => rfl)
  have D__law_alt : Dn K mg "_law_alt" s__law_alt p__law_alt := dn_mk X G a25 l25 c25 k25 (fun _ _ _ _ _ _ us hl => match us, hl with | [_, _, _], _ => rfl)
  have D__law_wrapped : Dn K mg "_law_wrapped" s__law_wrapped p__law_wrapped := dn_mk X G a26 l26 c26 k26 (fun _ _ _ _ _ _ us hl => match us, hl with | [_, _, _, _], _ => rfl)
  have D__law_items : Dn K mg "_law_items" s__law_items p__law_items := dn_mk X G a27 l27 c27 k27 (fun _ _ _ _ _ _ us hl => match us, hl with | [_, _, _, _], _ => rfl)
  have D__law_meetings : Dn K mg "_law_meetings" s__law_meetings p__law_meetings := dn_mk X G a28 l28 c28 k28 (fun _ _ _ _ _ _ us hl => match us, hl with | [_, _, _, _], _ => rfl)
  have D__law_shared : Dn K mg "_law_shared" s__law_shared p__law_shared := dn_mk X G a29 l29 c29 k29 (fun _ _ _ _ _ _ us hl => match us, hl with | [_, _, _, _], _ => rfl)
  have D__law_faulty : Dn K mg "_law_faulty" s__law_faulty p__law_faulty := dn_mk X G a30 l30 c30 k30 (fun _ _ _ _ _ _ us hl => match us, hl with | [_, _], _ => rfl)
  have D__law_par : Dn K mg "_law_par" s__law_par p__law_par := dn_mk X G a31 l31 c31 k31 (fun _ _ _ _ _ _ us hl => match us, hl with | [_, _, _, _], _ => rfl)
  have D__law_core : Dn K mg "_law_core" s__law_core p__law_core := dn_mk X G a32 l32 c32 k32 (fun _ _ _ _ _ _ us hl => match us, hl with | [_, _], _ => rfl)
  have D__law_cells : Dn K mg "_law_cells" s__law_cells p__law_cells := dn_mk X G a33 l33 c33 k33 (fun _ _ _ _ _ _ us hl => match us, hl with | [_], _ => rfl)
  have D__law_written : Dn K mg "_law_written" s__law_written p__law_written := dn_mk X G a34 l34 c34 k34 (fun _ _ _ _ _ _ us hl => match us, hl with | [_], _ => rfl)
  have D__law_aim : Dn K mg "_law_aim" s__law_aim p__law_aim := dn_mk X G a35 l35 c35 k35 (fun _ _ _ _ _ _ us hl => match us, hl with | [_], _ => rfl)
  have D__law_uses : Dn K mg "_law_uses" s__law_uses p__law_uses := dn_mk X G a36 l36 c36 k36 (fun _ _ _ _ _ _ us hl => match us, hl with | [_], _ => rfl)
  have D__law_takes : Dn K mg "_law_takes" s__law_takes p__law_takes := dn_mk X G a37 l37 c37 k37 (fun _ _ _ _ _ _ us hl => match us, hl with | [_], _ => rfl)
  have D__law_own : Dn K mg "_law_own" s__law_own p__law_own := dn_mk X G a38 l38 c38 k38 (fun _ _ _ _ _ _ us hl => match us, hl with | [_], _ => rfl)
  have D__law_branches : Dn K mg "_law_branches" s__law_branches p__law_branches := dn_mk X G a39 l39 c39 k39 (fun _ _ _ _ _ _ us hl => match us, hl with | [_, _], _ => rfl)
  have CL_Touch : Cls K C_Touch := ⟨pg_Touch, hd_Touch, po_Touch, sa_Touch⟩
  have F_Touch___init__ := fun_mk (st := s_Touch___init__) l_Touch___init__ c_Touch___init__ k_Touch___init__
  have b_Touch___init__ := F_Touch___init__.binds (ps := p_Touch___init__) fun _ _ _ _ _ _ us hl => match us, hl with | [_], _ => rfl
  have D_Touch___init__ : DnI K mg "Touch" "Touch.__init__" C_Touch s_Touch___init__ p_Touch___init__ := ⟨_, _, ⟨mk_Touch, a_Touch___init__, i_Touch___init__, kc_Touch⟩, F_Touch___init__, PySem.W.mg_of X G aC_Touch, b_Touch___init__⟩
  have X_Touch := (⟨CL_Touch, na_Touch_reads, na_Touch_writes, na_Touch_gives, na_Touch_takes⟩ : TchK K C_Touch)
  have T : Glo K w mg := ⟨PySem.W.mg_none_of X G z_n_len, PySem.W.mg_none_of X G z_n_int, PySem.W.mg_none_of X G z_n_abs, PySem.W.mg_none_of X G z_n_range, PySem.W.mg_none_of X G z_n_list, PySem.W.mg_none_of X G z_n_tuple, PySem.W.mg_none_of X G z_n_dict, PySem.W.mg_none_of X G z_n_sorted, PySem.W.mg_none_of X G z_n_min, PySem.W.mg_none_of X G z_n_all, PySem.W.mg_none_of X G z_n_repr, PySem.W.mg_none_of X G z_n_isinstance, PySem.W.mg_none_of X G z_n_enumerate, PySem.W.mg_none_of X G z_n_set⟩
  refine ⟨PySem.W.fnOf "law" "law" (defArgs s_law) (defBody s_law) (defScope s_law) .none kV40 dc40 pm40 an40 cd40 ct40, fun s v => .of_eq rfl, fun base _ _ => ?_⟩
  exact build_law FL T D_parts_of D_touched D_note_statement D_note_guard D_note_target D_note_expression D_cells_of D_threads_of D_note_branches D_threads D_taken_cells D_own D__law_state D__law_draw D__law_pick D__law_number D__law_operator D__law_index D__law_read D__law_expression D__law_target D__law_set D__law_simple D__law_more_cells D__law_env D__law_alt D__law_wrapped D__law_items D__law_meetings D__law_shared D__law_faulty D__law_par D__law_core D__law_cells D__law_written D__law_aim D__law_uses D__law_takes D__law_own D__law_branches D_Touch___init__ X_Touch
theorem walk {l : PySem.W.OpenLaw} {q : Program} {loose : List Str} {XP : (Str → Option Value) → Heap → Prop} {YP : World → Heap → Prop} {d : DefRec} {K : Params → PySem.W.Frag} (hn : l.most = some 63) (hdf : d.params.defaults = [])
    (hY : ∀ (w : World) (h : Heap), YP w h → (K w.params).In h)
    (F : ∀ (w : World) (mg : Str → Option Value) (fa : Addr) (h : Heap), (K w.params).In h → h.Ns mainGlobals mg → mg d.name = some (.ref fa) →
      ∃ fd : FuncData, (∀ (s : Shared) (u : Value), BindsTo s fd ⟨[u], []⟩ [("script", u)]) ∧ ∀ base : Heap, (K w.params).In base → base.Ns mainGlobals mg → TopOk l.prog w (K w.params) mg base fa fd ["script"] (sp_law (K w.params))) :
    PySem.W.WalkO q loose XP YP l.row.toRowW d [] (fun f vs => PySem.call f vs) := by
  refine Att.attach_call hn hdf fun w s0 s1 mg mb fa o pm cd doc a vs ns G YY ho hd hcd hmg hobj hi hlen hg => ?_
  obtain ⟨fd, hb, hF⟩ := F w mg fa _ (hY w _ YY) G.T.g hmg
  exact top_call (hY w _ YY) G.T.g G.T.b G.T.builtins G.T.nolimit hg hobj hi (Nat.le_trans hlen (by decide)) hF hb fun H _ hS => ⟨a, ns, rfl, hS, hlen, fun _ => rfl⟩
end Y
open PySem PySem.W PyProof.Rows
set_option maxRecDepth 100000 in
set_option maxHeartbeats 0 in
theorem PySem.Challenge.cw_placedanyhow_k35_threads_of_a_core_holds : PySem.Challenge.rw_placedanyhow_k35_threads_of_a_core.Holds := by
  w_on; o_law; k_head; (case hw => w_witness2)
  k_fill
  refine Y.walk (l := PySem.Challenge.rw_placedanyhow_k35_threads_of_a_core) rfl rfl (fun w h Y => PySem.W.kIn_of Y) ?F
  case F =>
    intro w mg fa h KX G hmg
    refine' Y.all_mk KX G hmg ?a0 ?l0 ?c0 ?k0 ?a1 ?l1 ?c1 ?k1 ?a2 ?l2 ?c2 ?k2 ?a3 ?l3 ?c3 ?k3 ?a4 ?l4 ?c4 ?k4 ?a5 ?l5 ?c5 ?k5 ?a6 ?l6 ?c6 ?k6 ?a7 ?l7 ?c7 ?k7 ?a8 ?l8 ?c8 ?k8 ?a9 ?l9 ?c9 ?k9 ?a10 ?l10 ?c10 ?k10 ?a11 ?l11 ?c11 ?k11 ?a12 ?l12 ?c12 ?k12 ?a13 ?l13 ?c13 ?k13 ?a14 ?l14 ?c14 ?k14 ?a15 ?l15 ?c15 ?k15 ?a16 ?l16 ?c16 ?k16 ?a17 ?l17 ?c17 ?k17 ?a18 ?l18 ?c18 ?k18 ?a19 ?l19 ?c19 ?k19 ?a20 ?l20 ?c20 ?k20 ?a21 ?l21 ?c21 ?k21 ?a22 ?l22 ?c22 ?k22 ?a23 ?l23 ?c23 ?k23 ?a24 ?l24 ?c24 ?k24 ?a25 ?l25 ?c25 ?k25 ?a26 ?l26 ?c26 ?k26 ?a27 ?l27 ?c27 ?k27 ?a28 ?l28 ?c28 ?k28 ?a29 ?l29 ?c29 ?k29 ?a30 ?l30 ?c30 ?k30 ?a31 ?l31 ?c31 ?k31 ?a32 ?l32 ?c32 ?k32 ?a33 ?l33 ?c33 ?k33 ?a34 ?l34 ?c34 ?k34 ?a35 ?l35 ?c35 ?k35 ?a36 ?l36 ?c36 ?k36 ?a37 ?l37 ?c37 ?k37 ?a38 ?l38 ?c38 ?k38 ?a39 ?l39 ?c39 ?k39 ?a40 ?l40 ?c40 ?k40 ?aC_Touch ?pg_Touch ?hd_Touch ?po_Touch ?sa_Touch ?mk_Touch ?kc_Touch ?na_Touch_reads ?na_Touch_writes ?na_Touch_gives ?na_Touch_takes ?a_Touch___init__ ?i_Touch___init__ ?l_Touch___init__ ?c_Touch___init__ ?k_Touch___init__ ?z_n_len ?z_n_int ?z_n_abs ?z_n_range ?z_n_list ?z_n_tuple ?z_n_dict ?z_n_sorted ?z_n_min ?z_n_all ?z_n_repr ?z_n_isinstance ?z_n_enumerate ?z_n_set
    (case a0 => k_is); (case l0 => k_is); (case c0 => k_is); (case k0 => k_is)
    (case a1 => k_is); (case l1 => k_is); (case c1 => k_is); (case k1 => k_is)
    (case a2 => k_is); (case l2 => k_is); (case c2 => k_is); (case k2 => k_is)
    (case a3 => k_is); (case l3 => k_is); (case c3 => k_is); (case k3 => k_is)
    (case a4 => k_is); (case l4 => k_is); (case c4 => k_is); (case k4 => k_is)
    (case a5 => k_is); (case l5 => k_is); (case c5 => k_is); (case k5 => k_is)
    (case a6 => k_is); (case l6 => k_is); (case c6 => k_is); (case k6 => k_is)
    (case a7 => k_is); (case l7 => k_is); (case c7 => k_is); (case k7 => k_is)
    (case a8 => k_is); (case l8 => k_is); (case c8 => k_is); (case k8 => k_is)
    (case a9 => k_is); (case l9 => k_is); (case c9 => k_is); (case k9 => k_is)
    (case a10 => k_is); (case l10 => k_is); (case c10 => k_is); (case k10 => k_is)
    (case a11 => k_is); (case l11 => k_is); (case c11 => k_is); (case k11 => k_is)
    (case a12 => k_is); (case l12 => k_is); (case c12 => k_is); (case k12 => k_is)
    (case a13 => k_is); (case l13 => k_is); (case c13 => k_is); (case k13 => k_is)
    (case a14 => k_is); (case l14 => k_is); (case c14 => k_is); (case k14 => k_is)
    (case a15 => k_is); (case l15 => k_is); (case c15 => k_is); (case k15 => k_is)
    (case a16 => k_is); (case l16 => k_is); (case c16 => k_is); (case k16 => k_is)
    (case a17 => k_is); (case l17 => k_is); (case c17 => k_is); (case k17 => k_is)
    (case a18 => k_is); (case l18 => k_is); (case c18 => k_is); (case k18 => k_is)
    (case a19 => k_is); (case l19 => k_is); (case c19 => k_is); (case k19 => k_is)
    (case a20 => k_is); (case l20 => k_is); (case c20 => k_is); (case k20 => k_is)
    (case a21 => k_is); (case l21 => k_is); (case c21 => k_is); (case k21 => k_is)
    (case a22 => k_is); (case l22 => k_is); (case c22 => k_is); (case k22 => k_is)
    (case a23 => k_is); (case l23 => k_is); (case c23 => k_is); (case k23 => k_is)
    (case a24 => k_is); (case l24 => k_is); (case c24 => k_is); (case k24 => k_is)
    (case a25 => k_is); (case l25 => k_is); (case c25 => k_is); (case k25 => k_is)
    (case a26 => k_is); (case l26 => k_is); (case c26 => k_is); (case k26 => k_is)
    (case a27 => k_is); (case l27 => k_is); (case c27 => k_is); (case k27 => k_is)
    (case a28 => k_is); (case l28 => k_is); (case c28 => k_is); (case k28 => k_is)
    (case a29 => k_is); (case l29 => k_is); (case c29 => k_is); (case k29 => k_is)
    (case a30 => k_is); (case l30 => k_is); (case c30 => k_is); (case k30 => k_is)
    (case a31 => k_is); (case l31 => k_is); (case c31 => k_is); (case k31 => k_is)
    (case a32 => k_is); (case l32 => k_is); (case c32 => k_is); (case k32 => k_is)
    (case a33 => k_is); (case l33 => k_is); (case c33 => k_is); (case k33 => k_is)
    (case a34 => k_is); (case l34 => k_is); (case c34 => k_is); (case k34 => k_is)
    (case a35 => k_is); (case l35 => k_is); (case c35 => k_is); (case k35 => k_is)
    (case a36 => k_is); (case l36 => k_is); (case c36 => k_is); (case k36 => k_is)
    (case a37 => k_is); (case l37 => k_is); (case c37 => k_is); (case k37 => k_is)
    (case a38 => k_is); (case l38 => k_is); (case c38 => k_is); (case k38 => k_is)
    (case a39 => k_is); (case l39 => k_is); (case c39 => k_is); (case k39 => k_is)
    (case a40 => k_is); (case l40 => k_is); (case c40 => k_is); (case k40 => k_is)
    (case aC_Touch => k_is)
    (case pg_Touch => k_is)
    (case hd_Touch => k_is)
    (case po_Touch => k_is)
    (case sa_Touch => k_is)
    (case mk_Touch => k_is)
    (case kc_Touch => k_is)
    (case na_Touch_reads => k_is)
    (case na_Touch_writes => k_is)
    (case na_Touch_gives => k_is)
    (case na_Touch_takes => k_is)
    (case a_Touch___init__ => k_is)
    (case i_Touch___init__ => k_is)
    (case l_Touch___init__ => k_is)
    (case c_Touch___init__ => k_is)
    (case k_Touch___init__ => k_is)
    (case z_n_len => k_is)
    (case z_n_int => k_is)
    (case z_n_abs => k_is)
    (case z_n_range => k_is)
    (case z_n_list => k_is)
    (case z_n_tuple => k_is)
    (case z_n_dict => k_is)
    (case z_n_sorted => k_is)
    (case z_n_min => k_is)
    (case z_n_all => k_is)
    (case z_n_repr => k_is)
    (case z_n_isinstance => k_is)
    (case z_n_enumerate => k_is)
    (case z_n_set => k_is)
#print axioms PySem.Challenge.cw_placedanyhow_k35_threads_of_a_core_holds
