import PyProof.Rows.All
import Wide.All
import OpenK.AllK
import Wide.FinOn
import HandS.ForMost
import HandS.IsInst
import HandS.Steps
import HandS.StrMore
import HandS.Codes
import HandS.More
import HandS.Strs
import HandS.Text
import HandS.TryOnly
import PyProof.AutoSeq1
import HandS.Deep
import HandS.TupLe
import HandS.ForExc
import HandS.ExcInit
import HandS.ExcField
import HandS.Iter
import HandS.Walk
import KE.KExcIs
import PySem.Challenge.RW_placedanyhow_k40_networks_and_hops
set_option Elab.async false
set_option linter.all false
set_option maxRecDepth 100000
set_option maxHeartbeats 4000000
namespace Y
open PySem L2

/-! ### rules joined -/
section
variable {X : Cx}
def rAddA (K : PySem.W.Frag) : R2 := fun x y H Q => rI0 (fun i j => .int (i + j)) x y H Q ∨ (∃ i j, x = V.str i ∧ y = V.str j ∧ i.length + j.length ≤ sizeLine ∧ Q (.str (i ++ j)) H) ∨ rCat x y H Q ∨ rCatT K x y H Q
theorem op_addA : OpR X (binaryOp .Add) (rAddA X.K) := op_add.or (op_add_str.or (op_cat.or op_catT))
def rEqA (K : PySem.W.Frag) : R2 := fun x y H Q => rEq x y H Q ∨ rEqD K x y H Q
def rNeA (K : PySem.W.Frag) : R2 := fun x y H Q => rNe x y H Q ∨ rNeD K x y H Q
theorem op_eqA (hu : X.A.units + 64 < cLine) : OpR X (compareOp .Eq) (rEqA X.K) := op_eq.or (op_eqD hu)
theorem op_neA (hu : X.A.units + 64 < cLine) : OpR X (compareOp .NotEq) (rNeA X.K) := op_ne.or (op_neD hu)
def rLenA (K : PySem.W.Frag) : List V → Hp → VK → Prop := fun xs H Q => (∃ p ys, xs = [V.ref p] ∧ (SqL K H p ys ∨ SqT K H p ys) ∧ Q (.int ys.length) H) ∨ ∃ z, xs = [V.str z] ∧ z.length ≤ sizeLine ∧ Q (.int z.length) H
theorem call_lenA : CallR X (.builtin "len") (rLenA X.K) := call_len_seq.or call_len_str
def rSlA (K : PySem.W.Frag) : V → Option Int → Option Int → Hp → VK → Prop := fun x lo hi H Q => rSlL K x lo hi H Q ∨ rSlT K x lo hi H Q
theorem sl_any : SlR X (rSlA X.K) := sl_list.or sl_tup
theorem hu64 {A : Around} {k : Nat} (hr : Room k A) : A.units + 64 < cLine := by have := hr.un; omega
theorem pe_globC {x : Str} {n : Int} {pos : Pos} (hg : Gl X x) (hm : ∃ t, X.mg x = some (.int n t)) (hd : (x == ("__debug__" : Str)) = false := by decide) : PE X (.Name x pos) (tC (.int n)) := by
  obtain ⟨t, h⟩ := hm
  exact pe_glob hg h ⟨t, rfl⟩ hd
theorem pe_ty {x : Str} {n : String} {pos : Pos} (hg : Gl X x) (hm : X.mg x = none) (hv : bootBuiltins x = some (.type n)) (hn : x ≠ "__name__" := by decide) (hd : (x == ("__debug__" : Str)) = false := by decide) : PE X (.Name x pos) (tC (.ty n)) := pe_bltn hg hm hv rfl hn hd
end

section
variable {X : Cx} {K : PySem.W.Frag}
theorem op_eqK (hK : X.K = K) (hu : X.A.units + 64 < cLine) : OpR X (compareOp .Eq) (rEqA K) := hK ▸ op_eqA hu
theorem op_neK (hK : X.K = K) (hu : X.A.units + 64 < cLine) : OpR X (compareOp .NotEq) (rNeA K) := hK ▸ op_neA hu
theorem op_addK (hK : X.K = K) : OpR X (binaryOp .Add) (rAddA K) := hK ▸ op_addA
theorem ix_seqK (hK : X.K = K) : IxR X (rIx K) := hK ▸ ix_seq
theorem call_lenK (hK : X.K = K) : CallR X (.builtin "len") (rLenA K) := hK ▸ call_lenA
theorem op_inK (hK : X.K = K) : OpR X (compareOp .In) (rIn K false) := hK ▸ op_in_seq
theorem op_notInK (hK : X.K = K) : OpR X (compareOp .NotIn) (rIn K true) := hK ▸ op_notIn_seq
theorem sl_anyK (hK : X.K = K) : SlR X (rSlA K) := hK ▸ sl_any
theorem pi_listK {tg l : Expr} {tl : TE} (hK : X.K = K) (hl : PE X l tl) : PI X tg l (iList K tl) := hK ▸ pi_list hl
end
section
variable {X : Cx}
def rIsN : R2 := fun x y H Q => y = .non ∧ Q (.bl (decide (x = .non))) H
def rNotN : R2 := fun x y H Q => y = .non ∧ Q (.bl (!decide (x = .non))) H
theorem op_isN1 : OpR X (compareOp .Is) rIsN := op_isN
theorem op_notN1 : OpR X (compareOp .IsNot) rNotN := op_notN
end
section
variable {X : Cx}
def rInt : List V → Hp → VK → Prop := fun xs H Q => (∃ i, xs = [V.int i] ∧ Q (.int i) H) ∨ ∃ k, xs = [.bl k] ∧ Q (.int (if k then 1 else 0)) H
def rAbs : List V → Hp → VK → Prop := fun xs H Q => ∃ i, xs = [V.int i] ∧ Q (.int (if i < 0 then -i else i)) H
def rListOf (K : PySem.W.Frag) : List V → Hp → VK → Prop := fun xs H Q => ∃ p ys, xs = [V.ref p] ∧ (SqL K H p ys ∨ SqT K H p ys) ∧ ∀ l, H l = none → Q (.ref l) (upd H l (.lst ys))
theorem call_intA : CallR X (.type "int") rInt := call_int1
theorem call_absA : CallR X (.builtin "abs") rAbs := call_abs
theorem call_listA : CallR X (.type "list") (rListOf X.K) := call_list_of
end
/-! ### defs -/
section
variable (P : Program) (w : World) (K : PySem.W.Frag) (mg : Str → Option Value) (base : Heap)
/-- a def of the text as it stands behind the top -/
def Dn (x : Str) (st : Stmt) (ps : List Str) : Prop := ∃ f fd, Fun K x x st f fd ∧ mg x = some (.ref f) ∧ Binds K fd ps []
/-- a def that keeps its promise -/
def Cal (x : Str) (k : Nat) (ps : List Str) (sp : Sp) : Prop := ∃ f fd, FnOk P w K mg base CX0 k f fd ps sp ∧ mg x = some (.ref f) ∧ PySem.W.keepIn K (.ref f) = true ∧ Binds K fd ps []
end
section
variable {P : Program} {w : World} {K : PySem.W.Frag} {mg : Str → Option Value} {base : Heap}
theorem Dn.ok {x : Str} {st : Stmt} {N ps : List Str} {k : Nat} {sp : Sp} (D : Dn K mg x st ps) (S : FnScope N ps (defScope st)) (len : ∀ vs H Q E, sp vs H Q E → vs.length = ps.length)
    (hbody : ∀ (f : Addr) (cdv : Value) (A : Around) (outer : List Env) (s : Shared) (H : Hp) (vs : List V) (Q : VK) (E : XK), Room k (A.deeper (PyProof.Rows.envOfC x (defScope st) s.heap.objs.size f cdv)) → sp vs H Q E →
      ∃ t, PSs (cxOf CX0 P w K mg base N x (defScope st) f cdv A outer s H E).nox (defBody st) t ∧ t { nx := fun _ H' => Q .non H', rt := Q } (start N vs) H) : Cal P w K mg base x (k + 1) ps sp := by
  obtain ⟨f, fd, F, m, b⟩ := D
  exact ⟨f, fd, F.ok S len (hbody f), m, F.kp, b⟩
theorem pe_cal {X : Cx} {x : Str} {k : Nat} {ps : List Str} {sp : Sp} {e : Expr} {es : List Expr} {t : TA} {p pos : Pos} (G : Cal X.prog X.w X.K X.mg X.base x k ps sp) (hr : Room k X.A) (hg : Gl X x) (ha : PA X (e :: es) t)
    (hdb : (x == ("__debug__" : Str)) = false := by decide) (he : starEach (e :: es) X.env = (false, eval e X.env) :: starEach es X.env := by rfl) (hpl : (backTo pos (starEach es X.env)).any (·.1) = false := by rfl) : PE X (.Call (.Name x p) (e :: es) [] pos) (tCall sp [] E0 t) := by
  obtain ⟨f, fd, F, m, kp, b⟩ := G
  exact pe_call F hr hg m kp b .nil pass0 ha hdb he hpl
theorem pe_cal0 {X : Cx} {x : Str} {k : Nat} {ps : List Str} {sp : Sp} {p pos : Pos} (G : Cal X.prog X.w X.K X.mg X.base x k ps sp) (hr : Room k X.A) (hg : Gl X x)
    (hdb : (x == ("__debug__" : Str)) = false := by decide) : PE X (.Call (.Name x p) [] [] pos) (tCall sp [] E0 tNil) := by
  obtain ⟨f, fd, F, m, kp, b⟩ := G
  exact pe_call0 F hr hg m kp b .nil pass0 hdb
end

/-! ### heaps -/
/-- all that was tracked stays -/
def Ex (H H' : Hp) : Prop := ∀ a o, H a = some o → H' a = some o
/-- all tuples stay, and all that is not at M -/
structure Kp (M : List Addr) (H H' : Hp) : Prop where
  tup : ∀ a xs, H a = some (.tup xs) → H' a = some (.tup xs)
  out : ∀ a o, a ∉ M → H a = some o → H' a = some o
theorem Ex.refl (H : Hp) : Ex H H := fun _ _ h => h
theorem Ex.trans {H H1 H2 : Hp} (a : Ex H H1) (b : Ex H1 H2) : Ex H H2 := fun x o h => b x o (a x o h)
theorem Ex.same {H H' : Hp} (e : Ex H H') : L2.Same H H' := e
theorem Ex.kp {M : List Addr} {H H' : Hp} (e : Ex H H') : Kp M H H' := ⟨fun a xs h => e a _ h, fun a o _ h => e a o h⟩
theorem Kp.refl {M : List Addr} (H : Hp) : Kp M H H := (Ex.refl H).kp
theorem Kp.trans {M : List Addr} {H H1 H2 : Hp} (a : Kp M H H1) (b : Kp M H1 H2) : Kp M H H2 := ⟨fun x o h => b.tup x o (a.tup x o h), fun x o n h => b.out x o n (a.out x o n h)⟩
theorem Kp.sub {M N : List Addr} {H H' : Hp} (a : Kp M H H') (s : ∀ x, x ∈ M → x ∈ N) : Kp N H H' := ⟨a.tup, fun x o n h => a.out x o (fun z => n (s x z)) h⟩
theorem Ex.mk {H H2 : Hp} {p : Addr} {o : HO} (h : H p = none) (e : upd H p o = H2) : Ex H H2 := fun a u ha => by
  rw [← e, upd_ne (ne_of_none ha h)]
  exact ha
theorem at_new {H H2 : Hp} {p : Addr} {o : HO} (e : upd H p o = H2) : H2 p = some o := by rw [← e]; exact upd_same
theorem Kp.set {M : List Addr} {H H2 : Hp} {p : Addr} {o : HO} (hm : p ∈ M) (ht : ∀ xs, H p ≠ some (.tup xs)) (e : upd H p o = H2) : Kp M H H2 := ⟨fun a xs h => by
  rw [← e, upd_ne (fun z => ht xs (by rw [← z]; exact h))]
  exact h, fun a u n h => by
  rw [← e, upd_ne (fun z => n (by rw [z]; exact hm))]
  exact h⟩
theorem free_back {H H' : Hp} {p : Addr} (e : Ex H H') (h : H' p = none) : H p = none := by
  cases h1 : H p with
  | none => rfl
  | some o => rw [e p o h1] at h; cases h
theorem free_backK {M : List Addr} {H H' : Hp} {p : Addr} (e : Kp M H H') (hm : p ∉ M) (h : H' p = none) : H p = none := by
  cases h1 : H p with
  | none => rfl
  | some o => rw [e.out p o hm h1] at h; cases h
theorem at_ex {H H' : Hp} {p : Addr} {o : HO} (e : Ex H H') (h : H p = some o) : H' p = some o := e p o h
theorem at_kp {M : List Addr} {H H' : Hp} {p : Addr} {o : HO} (e : Kp M H H') (hm : p ∉ M) (h : H p = some o) : H' p = some o := e.out p o hm h
theorem tup_kp {M : List Addr} {H H' : Hp} {p : Addr} {xs : List V} (e : Kp M H H') (h : H p = some (.tup xs)) : H' p = some (.tup xs) := e.tup p xs h
theorem sqt {K : PySem.W.Frag} {H : Hp} {p : Addr} {xs : List V} (h : H p = some (.tup xs)) : SqT K H p xs := Or.inl (Or.inl h)
theorem sql {K : PySem.W.Frag} {H : Hp} {p : Addr} {xs : List V} (h : H p = some (.lst xs)) : SqL K H p xs := Or.inl (Or.inl h)
theorem sl1000 {n : Nat} (h : n ≤ 100000) : n ≤ sizeLine := Nat.le_trans h (by decide)
theorem sl1000' {n : Nat} (h : n < 100000) : n < sizeLine := Nat.lt_of_lt_of_le h (by decide)

theorem at0 {α : Type} {x : α} {xs : List α} : atI (x :: xs) 0 = some x := atI_nat (j := 0) rfl
theorem at_i {α : Type} {xs : List α} {n : Int} (h0 : 0 ≤ n) (h1 : n < xs.length) : ∃ v, xs[n.toNat]? = some v ∧ atI xs n = some v := by
  have hk : n.toNat < xs.length := by omega
  have e : n = ((n.toNat : Nat) : Int) := by omega
  refine ⟨xs[n.toNat], List.getElem?_eq_getElem hk, ?_⟩
  have q : atI xs ((n.toNat : Nat) : Int) = some xs[n.toNat] := atI_nat (List.getElem?_eq_getElem hk)
  rw [← e] at q
  exact q
/-! ### readings, step by step -/
def newT (Q : VK) (xs : List V) (H : Hp) : Prop := xs.length ≤ sizeLine ∧ ∀ p, H p = none → Q (.ref p) (upd H p (.tup xs))
def newL (Q : VK) (xs : List V) (H : Hp) : Prop := xs.length ≤ sizeLine ∧ ∀ p, H p = none → Q (.ref p) (upd H p (.lst xs))
theorem cut1 (xs : List V) : cutV xs (some 1) none = xs.drop 1 := by
  unfold cutV
  rw [show HT.sIx xs.length 0 (some 1) = min 1 xs.length from HT.sIx_nat xs.length 0 1, HT.sIx_none]
  cases xs with
  | nil => rfl
  | cons x r =>
    rw [show min 1 (x :: r).length = 1 by
      rw [List.length_cons]
      omega]
    show (List.take ((x :: r).length - 1) r) = r
    rw [List.length_cons, Nat.add_sub_cancel]
    exact List.take_length
section
variable {K : PySem.W.Frag} {σ : L2.St} {H : Hp} {Q : VK} {QT : Bool → Hp → Prop} {QA : List V → Hp → Prop} {QS : L2.St → Hp → Prop} {v x y : V} {i : Nat} {ta tb te : TE} {t u c : TT} {tr : TA} {r : R2} {ts us : TS} {nx bk ct : L2.St → Hp → Prop} {rt : VK} {g : TG} {gs : TGs}
theorem r_var (h : σ[i]? = some (some v)) (q : Q v H) : tVar i σ H Q := ⟨v, h, q⟩
theorem r_c (q : Q v H) : tC v σ H Q := q
theorem r_op (q : ta σ H fun x H1 => tb σ H1 fun y H2 => r x y H2 Q) : tOp r ta tb σ H Q := q
theorem r_un {r : V → Hp → VK → Prop} (q : ta σ H fun x H1 => r x H1 Q) : tUn r ta σ H Q := q
theorem r_tup (q : tr σ H fun xs H1 => newT Q xs H1) : tTup tr σ H Q := q
theorem r_lst (q : tr σ H fun xs H1 => newL Q xs H1) : tLst tr σ H Q := q
theorem q_newT {xs : List V} (hl : xs.length ≤ 100000) (q : ∀ p Hn, H p = none → Ex H Hn → Hn p = some (.tup xs) → Q (.ref p) Hn) : newT Q xs H := ⟨sl1000 hl, fun p hp => q p _ hp (Ex.mk hp rfl) upd_same⟩
theorem q_newL {xs : List V} (hl : xs.length ≤ 100000) (q : ∀ p Hn, H p = none → Ex H Hn → Hn p = some (.lst xs) → Q (.ref p) Hn) : newL Q xs H := ⟨sl1000 hl, fun p hp => q p _ hp (Ex.mk hp rfl) upd_same⟩
theorem r_cons (q : ta σ H fun x H1 => tr σ H1 fun xs H2 => QA (x :: xs) H2) : tCons ta tr σ H QA := q
theorem r_nil (q : QA [] H) : tNil σ H QA := q
theorem r_cb {r : List V → Hp → VK → Prop} (q : tr σ H fun vs H1 => r vs H1 Q) : tCB r tr σ H Q := q
theorem r_call {sp : Sp} {E : XK} (q : tr σ H fun vs H1 => sp vs H1 Q E) : tCall sp [] E tr σ H Q := by
  have e : (fun (vs : List V) (H1 : Hp) => sp (vs ++ []) H1 Q E) = fun vs H1 => sp vs H1 Q E := by
    funext vs H1
    rw [List.append_nil]
  show tr σ H (fun vs H1 => sp (vs ++ []) H1 Q E)
  rw [e]
  exact q
theorem r_ifE (q : t σ H fun c H1 => if c = true then ta σ H1 Q else tb σ H1 Q) : tIf t ta tb σ H Q := q
theorem r_sl {r : V → Option Int → Option Int → Hp → VK → Prop} {tl th : TO} (q : te σ H fun x H1 => tl σ H1 fun l H2 => th σ H2 fun u H3 => r x l u H3 Q) : tSl r te tl th σ H Q := q
theorem r_nopart {Q : Option Int → Hp → Prop} (q : Q none H) : tNoPart σ H Q := q
theorem r_part {Q : Option Int → Hp → Prop} (q : te σ H fun x H1 => ∃ i, x = .int i ∧ Q (some i) H1) : tPart te σ H Q := q
theorem q_part {i : Int} {B : Int → Prop} (q : B i) : ∃ j, V.int i = .int j ∧ B j := ⟨i, rfl, q⟩
theorem r_dget {td ty : TE} (q : td σ H fun x H1 => ty σ H1 fun y H2 => ∃ a v, x = .ref a ∧ DGet H2 a y (some v) ∧ Q v H2) : tDGet td ty σ H Q := q
theorem q_dget {p : Addr} {kvs : List (Key × V)} {z : Str} {B : V → Prop} (h : H p = some (.dK kvs)) (hl : valV kvs (Sum.inr z) = some v) (q : B v) : ∃ a v', V.ref p = .ref a ∧ DGet H a (.str z) (some v') ∧ B v' :=
  ⟨p, v, rfl, by rw [← hl]; exact DGet.k (k := Sum.inr z) h, q⟩
theorem r_andV (q : ta σ H fun x H1 => ∃ c, x = .bl c ∧ if c = true then tb σ H1 Q else Q (.bl false) H1) : tAndV ta tb σ H Q := q
theorem r_orV (q : ta σ H fun x H1 => ∃ c, x = .bl c ∧ if c = true then Q (.bl true) H1 else tb σ H1 Q) : tOrV ta tb σ H Q := q
theorem r_notV (q : ta σ H fun x H1 => ∃ c, x = .bl c ∧ Q (.bl (!c)) H1) : tNotV ta σ H Q := q
theorem r_test (q : te σ H fun x H' => ∃ k, x = .bl k ∧ QT k H') : tTest te σ H QT := q
theorem r_tB (q : te σ H fun x H1 => ∃ c, x = .bl c ∧ QT c H1) : tB te σ H QT := q
theorem q_exb {b : Bool} {B : Bool → Prop} (q : B b) : ∃ k, V.bl b = .bl k ∧ B k := ⟨b, rfl, q⟩
theorem r_and (q : t σ H fun c H1 => if c = true then u σ H1 QT else QT false H1) : tAnd t u σ H QT := q
theorem r_or (q : t σ H fun c H1 => if c = true then QT true H1 else u σ H1 QT) : tOr t u σ H QT := q
theorem r_not (q : t σ H fun c H1 => QT (!c) H1) : tNot t σ H QT := q
theorem r_seq (q : ts ⟨us ⟨nx, rt, bk, ct⟩, rt, bk, ct⟩ σ H) : tSeq ts us ⟨nx, rt, bk, ct⟩ σ H := q
theorem r_next (q : nx σ H) : tNext ⟨nx, rt, bk, ct⟩ σ H := q
theorem r_ifS (q : c σ H fun b H1 => if b = true then ts ⟨nx, rt, bk, ct⟩ σ H1 else us ⟨nx, rt, bk, ct⟩ σ H1) : tIfS c ts us ⟨nx, rt, bk, ct⟩ σ H := q
theorem r_asg (q : te σ H fun x H1 => g x σ H1 nx) : tAsg te g ⟨nx, rt, bk, ct⟩ σ H := q
theorem r_aug {ti : TIp} (h : σ[i]? = some (some v)) (q : te σ H fun y H1 => ti v y H1 fun z H2 => nx (σ.set i (some z)) H2) : tAug i te ti ⟨nx, rt, bk, ct⟩ σ H := ⟨v, h, q⟩
theorem q_ip {f : Int → Int → Int} {i j : Int} (q : Q (.int (f i j)) H) : ipI f (.int i) (.int j) H Q := ⟨i, j, rfl, rfl, q⟩
theorem r_drop (q : te σ H fun _ H1 => nx σ H1) : tDrop te ⟨nx, rt, bk, ct⟩ σ H := q
theorem r_ret (q : te σ H rt) : tRet te ⟨nx, rt, bk, ct⟩ σ H := q
theorem r_retN (q : rt .non H) : tRetN ⟨nx, rt, bk, ct⟩ σ H := q
theorem r_gname (q : QS (σ.set i (some v)) H) : gName i v σ H QS := q
theorem r_gnil (q : QS σ H) : gNil [] σ H QS := ⟨rfl, q⟩
theorem r_gcons {vs : List V} (q : g v σ H fun σ' H' => gs vs σ' H' QS) : gCons g gs (v :: vs) σ H QS := ⟨v, vs, rfl, q⟩
theorem r_gtup {p : Addr} {xs : List V} {n : Nat} (h : SqT K H p xs) (hl : xs.length = n) (q : gs xs σ H QS) : gTup K n gs (.ref p) σ H QS := ⟨p, xs, rfl, h, hl, q⟩
theorem r_gsub {to ti : TE} {s : TSet} (q : to σ H fun o H1 => ti σ H1 fun i H2 => s o i v H2 fun H3 => QS σ H3) : gSub to ti s v σ H QS := q
theorem r_bm {T : String} {r : V → List V → Hp → VK → Prop} (q : te σ H fun x H1 => tyV K T x H1 ∧ tr σ H1 fun xs H2 => r x xs H2 Q) : tBM K T r te tr σ H Q := q
theorem r_bm0 {T : String} {r : V → List V → Hp → VK → Prop} (q : te σ H fun x H1 => tyV K T x H1 ∧ r x [] H1 Q) : tBM0 K T r te σ H Q := q
theorem q_tyL {p : Addr} {xs : List V} {A : Prop} (h : H p = some (.lst xs)) (q : A) : tyV K "list" (.ref p) H ∧ A := ⟨Or.inl ⟨rfl, xs, sql h⟩, q⟩

theorem cast_q {x y : V} (e : x = y) (h : Q x H) : Q y H := e ▸ h
/-! ### operations on values -/
theorem q_addI {i j : Int} (q : Q (.int (i + j)) H) : rAddA K (.int i) (.int j) H Q := .inl ⟨i, j, rfl, rfl, q⟩
theorem q_I0 {f : Int → Int → V} {i j : Int} (q : Q (f i j) H) : rI0 f (.int i) (.int j) H Q := ⟨i, j, rfl, rfl, q⟩
theorem q_I {C : Int → Int → Prop} {f : Int → Int → V} {i j : Int} (h : C i j) (q : Q (f i j) H) : rI C f (.int i) (.int j) H Q := ⟨i, j, rfl, rfl, h, q⟩
theorem q_U {f : Int → V} {i : Int} (q : Q (f i) H) : rU f (.int i) H Q := ⟨i, rfl, q⟩
theorem q_ixT {p : Addr} {xs : List V} {i : Int} (h : SqT K H p xs) (ha : atI xs i = some v) (q : Q v H) : rIx K (.ref p) (.int i) H Q := .inr (.inl ⟨p, xs, i, v, rfl, rfl, h, ha, q⟩)
theorem q_ixL {p : Addr} {xs : List V} {i : Int} (h : SqL K H p xs) (ha : atI xs i = some v) (q : Q v H) : rIx K (.ref p) (.int i) H Q := .inl ⟨p, xs, i, v, rfl, rfl, h, ha, q⟩
theorem q_eqY (hs : scal x y = true) (he : x = y) (q : Q (.bl true) H) : rEqA K x y H Q := .inl ⟨hs, by rw [decide_eq_true he]; exact q⟩
theorem q_eqN (hs : scal x y = true) (he : ¬ x = y) (q : Q (.bl false) H) : rEqA K x y H Q := .inl ⟨hs, by rw [decide_eq_false he]; exact q⟩
theorem q_eqI {i j : Int} (h1 : i = j → Q (.bl true) H) (h2 : ¬ i = j → Q (.bl false) H) : rEqA K (.int i) (.int j) H Q := by
  by_cases e : i = j
  · exact q_eqY rfl (by rw [e]) (h1 e)
  · exact q_eqN rfl (fun z => e (V.int.inj z)) (h2 e)
theorem q_eqS {i j : Str} (h1 : i = j → Q (.bl true) H) (h2 : ¬ i = j → Q (.bl false) H) : rEqA K (.str i) (.str j) H Q := by
  by_cases e : i = j
  · exact q_eqY rfl (by rw [e]) (h1 e)
  · exact q_eqN rfl (fun z => e (V.str.inj z)) (h2 e)
theorem q_neY (hs : scal x y = true) (he : ¬ x = y) (q : Q (.bl true) H) : rNeA K x y H Q := .inl ⟨hs, by rw [decide_eq_false he]; exact q⟩
theorem q_neN (hs : scal x y = true) (he : x = y) (q : Q (.bl false) H) : rNeA K x y H Q := .inl ⟨hs, by rw [decide_eq_true he]; exact q⟩
theorem q_neI {i j : Int} (h1 : ¬ i = j → Q (.bl true) H) (h2 : i = j → Q (.bl false) H) : rNeA K (.int i) (.int j) H Q := by
  by_cases e : i = j
  · exact q_neN rfl (by rw [e]) (h2 e)
  · exact q_neY rfl (fun z => e (V.int.inj z)) (h1 e)
theorem q_neS {i j : Str} (h1 : ¬ i = j → Q (.bl true) H) (h2 : i = j → Q (.bl false) H) : rNeA K (.str i) (.str j) H Q := by
  by_cases e : i = j
  · exact q_neN rfl (by rw [e]) (h2 e)
  · exact q_neY rfl (fun z => e (V.str.inj z)) (h1 e)
theorem q_cmp {f : Int → Int → Prop} [∀ i j, Decidable (f i j)] {i j : Int} (h1 : f i j → Q (.bl true) H) (h2 : ¬ f i j → Q (.bl false) H) : rI0 (fun i j => .bl (decide (f i j))) (.int i) (.int j) H Q := by
  refine ⟨i, j, rfl, rfl, ?_⟩
  show Q (V.bl (decide (f i j))) H
  by_cases e : f i j
  · rw [decide_eq_true e]; exact h1 e
  · rw [decide_eq_false e]; exact h2 e
theorem cmulL {i j : Int} (h : -(2 ^ 64) < i ∧ i < 2 ^ 64) : CMul i j := .inl h
theorem cmulR {i j : Int} (h : -(2 ^ 64) < j ∧ j < 2 ^ 64) : CMul i j := .inr h
theorem cdiv {i j : Int} (h : 0 < j ∧ j < 1073741824) : CDiv i j := h
theorem q_neD (hn : ¬ x = y) (hs : scal x y = true) (q : Q (.bl true) H) : rNeA K x y H Q := q_neY hs hn q
theorem q_cmpY {f : Int → Int → Prop} [∀ i j, Decidable (f i j)] {i j : Int} (h : f i j) (q : Q (.bl true) H) : rI0 (fun i j => .bl (decide (f i j))) (.int i) (.int j) H Q :=
  ⟨i, j, rfl, rfl, by show Q (V.bl (decide (f i j))) H; rw [decide_eq_true h]; exact q⟩
theorem q_cmpN {f : Int → Int → Prop} [∀ i j, Decidable (f i j)] {i j : Int} (h : ¬ f i j) (q : Q (.bl false) H) : rI0 (fun i j => .bl (decide (f i j))) (.int i) (.int j) H Q :=
  ⟨i, j, rfl, rfl, by show Q (V.bl (decide (f i j))) H; rw [decide_eq_false h]; exact q⟩
theorem q_isNY (he : x = .non) (q : Q (.bl true) H) : rIsN x .non H Q := ⟨rfl, by rw [decide_eq_true he]; exact q⟩
theorem q_isNN (he : ¬ x = .non) (q : Q (.bl false) H) : rIsN x .non H Q := ⟨rfl, by rw [decide_eq_false he]; exact q⟩
theorem q_notNY (he : x = .non) (q : Q (.bl false) H) : rNotN x .non H Q := ⟨rfl, by rw [decide_eq_true he]; exact q⟩
theorem q_notNN (he : ¬ x = .non) (q : Q (.bl true) H) : rNotN x .non H Q := ⟨rfl, by rw [decide_eq_false he]; exact q⟩
theorem q_lenL {p : Addr} {xs : List V} (h : SqL K H p xs) (q : Q (.int xs.length) H) : rLenA K [.ref p] H Q := .inl ⟨p, xs, rfl, .inl h, q⟩
theorem q_lenT {p : Addr} {xs : List V} (h : SqT K H p xs) (q : Q (.int xs.length) H) : rLenA K [.ref p] H Q := .inl ⟨p, xs, rfl, .inr h, q⟩
theorem q_sl1T {p : Addr} {xs : List V} (h : SqT K H p (x :: xs)) (q : ∀ p Hn, H p = none → Ex H Hn → Hn p = some (.tup xs) → Q (.ref p) Hn) : rSlA K (.ref p) (some 1) none H Q :=
  .inr ⟨p, x :: xs, rfl, h, fun z => by
    have e : HT.sIx (x :: xs).length 0 (some 1) = min 1 (x :: xs).length := HT.sIx_nat _ 0 1
    have z1 := z.1
    rw [e, List.length_cons] at z1
    omega, fun p hp => q p _ hp (Ex.mk hp rfl) (by rw [upd_same, cut1]; rfl)⟩
theorem q_sl1L {p : Addr} {xs : List V} (h : SqL K H p (x :: xs)) (q : ∀ p Hn, H p = none → Ex H Hn → Hn p = some (.lst xs) → Q (.ref p) Hn) : rSlA K (.ref p) (some 1) none H Q :=
  .inl ⟨p, x :: xs, rfl, h, fun p hp => q p _ hp (Ex.mk hp rfl) (by rw [upd_same, cut1]; rfl)⟩
theorem q_inT {p : Addr} {xs : List V} (h : SqT K H p xs) (hx : flatV x = true) (ha : xs.all flatV = true) (q : Q (.bl (inV x xs)) H) : rIn K false x (.ref p) H Q := ⟨p, xs, rfl, .inr h, hx, ha, q⟩
theorem q_inTY {p : Addr} {xs : List V} (h : SqT K H p xs) (hx : (flatV x && xs.all flatV && inV x xs) = true) (q : Q (.bl true) H) : rIn K false x (.ref p) H Q := by
  simp only [Bool.and_eq_true] at hx
  exact ⟨p, xs, rfl, .inr h, hx.1.1, hx.1.2, by rw [if_neg Bool.false_ne_true, hx.2]; exact q⟩
theorem q_inTN {p : Addr} {xs : List V} (h : SqT K H p xs) (hx : (flatV x && xs.all flatV && !inV x xs) = true) (q : Q (.bl false) H) : rIn K false x (.ref p) H Q := by
  simp only [Bool.and_eq_true, Bool.not_eq_true'] at hx
  exact ⟨p, xs, rfl, .inr h, hx.1.1, hx.1.2, by rw [if_neg Bool.false_ne_true, hx.2]; exact q⟩
theorem q_inLY {p : Addr} {xs : List V} (h : SqL K H p xs) (hx : (flatV x && xs.all flatV && inV x xs) = true) (q : Q (.bl true) H) : rIn K false x (.ref p) H Q := by
  simp only [Bool.and_eq_true] at hx
  exact ⟨p, xs, rfl, .inl h, hx.1.1, hx.1.2, by rw [if_neg Bool.false_ne_true, hx.2]; exact q⟩
theorem q_inLN {p : Addr} {xs : List V} (h : SqL K H p xs) (hx : (flatV x && xs.all flatV && !inV x xs) = true) (q : Q (.bl false) H) : rIn K false x (.ref p) H Q := by
  simp only [Bool.and_eq_true, Bool.not_eq_true'] at hx
  exact ⟨p, xs, rfl, .inl h, hx.1.1, hx.1.2, by rw [if_neg Bool.false_ne_true, hx.2]; exact q⟩
theorem q_isi {t : Value} {T : String} {b : Bool} (ty : TyOf K H x t) (e : PySem.W.kitOne K t (.type T) = some b) (q : Q (.bl b) H) : rIsi K [x, .ty T] H Q := ⟨x, .ty T, t, .type T, b, rfl, .ty T, .base ty, e, q⟩
theorem q_isiBI {i : Int} (q : Q (.bl false) H) : rIsi K [.int i, .ty "bool"] H Q := q_isi (.int i) (kit_ty (by decide +kernel)) q
theorem q_isiBN (q : Q (.bl false) H) : rIsi K [.non, .ty "bool"] H Q := q_isi .non (kit_ty (by decide +kernel)) q
def dispK (Q : VK) (p : Addr) (ps : List (V × V)) (H : Hp) : Prop := H p = some (.dK []) ∧ ∃ kvs : List (Key × V), ps = kvs.map (fun kv => (kV kv.1, kv.2)) ∧ kvs.length ≤ 15 ∧ Q (.ref p) (upd H p (.dK (mergeK [] kvs)))
theorem r_disp {trs : List (TE × TE)} (q : ∀ p Hn, H p = none → Ex H Hn → Hn p = some (.dK []) → tPairs trs σ Hn fun ps H2 => dispK Q p ps H2) : tDisp trs σ H Q := fun p hp => q p _ hp (Ex.mk hp rfl) upd_same
theorem r_pnil {QP : List (V × V) → Hp → Prop} (q : QP [] H) : tPairs [] σ H QP := q
theorem r_pcons {QP : List (V × V) → Hp → Prop} {tk tv : TE} {r : List (TE × TE)} (q : tk σ H fun x H1 => tv σ H1 fun y H2 => tPairs r σ H2 fun ps H3 => QP ((x, y) :: ps) H3) : tPairs ((tk, tv) :: r) σ H QP := q
theorem merge_nd {kvs : List (Key × V)} (h : (kvs.map (·.1)).Nodup) : mergeK [] kvs = kvs := by
  have key : ∀ (more acc : List (Key × V)), ((acc ++ more).map (·.1)).Nodup → mergeK acc more = acc ++ more := by
    intro more
    induction more with
    | nil => intro acc _; rw [List.append_nil]; rfl
    | cons p r ih =>
      intro acc h
      have hp : valV acc p.1 = none := by
        cases hv : valV acc p.1 with
        | none => rfl
        | some x =>
          exfalso
          have hm := valV_in hv
          rw [List.map_append, List.nodup_append] at h
          exact h.2.2 _ hm _ (by simp) rfl
      show mergeK (putK acc p.1 p.2) r = acc ++ p :: r
      rw [putK_new _ hp, ih _ (by rw [List.append_assoc]; exact h), List.append_assoc]
      rfl
  exact key kvs [] h
theorem q_disp {p : Addr} {ps : List (V × V)} (kvs : List (Key × V)) (h : H p = some (.dK [])) (e : ps = kvs.map (fun kv => (kV kv.1, kv.2))) (nd : (kvs.map (·.1)).Nodup) (hl : kvs.length ≤ 15)
    (q : ∀ Hn, Kp [p] H Hn → Hn p = some (.dK kvs) → Q (.ref p) Hn) : dispK Q p ps H := ⟨h, kvs, e, hl, by
  rw [merge_nd nd]
  exact q _ (Kp.set (List.mem_singleton.mpr rfl) (fun xs z => by rw [h] at z; cases z) rfl) upd_same⟩
theorem q_inL {p : Addr} {xs : List V} (h : SqL K H p xs) (hx : flatV x = true) (ha : xs.all flatV = true) (q : Q (.bl (inV x xs)) H) : rIn K false x (.ref p) H Q := ⟨p, xs, rfl, .inl h, hx, ha, q⟩
theorem r_iL {tl : TE} {R : It → Hp → Prop} (q : tl σ H fun x H1 => ∃ a, x = .ref a ∧ (∃ xs, SqL K H1 a xs) ∧ R (Itl K a) H1) : iList K tl σ H R := q
theorem q_iL {a : Addr} {xs : List V} {B : Addr → Prop} (h : SqL K H a xs) (q : B a) : ∃ b, V.ref a = .ref b ∧ (∃ xs, SqL K H b xs) ∧ B b := ⟨a, rfl, ⟨xs, h⟩, q⟩
theorem r_iT {tl : TE} {R : It → Hp → Prop} (q : tl σ H fun x H1 => ∃ a, x = .ref a ∧ (∃ xs, SqT K H1 a xs) ∧ R (Itt K a) H1) : iTup K tl σ H R := q
theorem q_iT {a : Addr} {xs : List V} {B : Addr → Prop} (h : SqT K H a xs) (q : B a) : ∃ b, V.ref a = .ref b ∧ (∃ xs, SqT K H b xs) ∧ B b := ⟨a, rfl, ⟨xs, h⟩, q⟩
theorem r_rng1 {R : It → Hp → Prop} (q : tr σ H fun vs H1 => ∃ j : Int, vs = [.int j] ∧ -(2 ^ 62) ≤ j ∧ j < 2 ^ 62 ∧ R (Itr 0 j.toNat) H1) : iRng1 tr σ H R := q
theorem q_rng1 {j : Int} {B : Int → Prop} (h : 0 ≤ j ∧ j ≤ 1000000) (q : B j) : ∃ i : Int, [V.int j] = [.int i] ∧ -(2 ^ 62) ≤ i ∧ i < 2 ^ 62 ∧ B i := ⟨j, rfl, by omega, by omega, q⟩
theorem r_rng2 {R : It → Hp → Prop} (q : tr σ H fun vs H1 => ∃ i j : Int, vs = [.int i, .int j] ∧ (-(2 ^ 62) ≤ i ∧ i < 2 ^ 62 ∧ -(2 ^ 62) ≤ j ∧ j < 2 ^ 62) ∧ R (Itr i (j - i).toNat) H1) : iRng2 tr σ H R := q
theorem q_rng2 {i j : Int} {B : Int → Int → Prop} (h : 0 ≤ i ∧ i ≤ 1000000 ∧ 0 ≤ j ∧ j ≤ 1000000) (q : B i j) : ∃ a b : Int, [V.int i, V.int j] = [.int a, .int b] ∧ (-(2 ^ 62) ≤ a ∧ a < 2 ^ 62 ∧ -(2 ^ 62) ≤ b ∧ b < 2 ^ 62) ∧ B a b :=
  ⟨i, j, rfl, ⟨by omega, by omega, by omega, by omega⟩, q⟩
theorem r_lc {wi : TI} {vs : List Nat} (q : wi σ H fun J H1 => ∀ D, H1 D = none → ∃ W : Nat → Nat → Hp → Prop, (∃ m, W 0 m (upd H1 D (.lst []))) ∧ ∀ i m H, W i m H →
  (J.stop i H ∧ Q (.ref D) H) ∨ (J.go i H ∧ ∃ Nx : Hp → Prop, (∀ H', Nx H' → ∃ m', m' < m ∧ W (i + 1) m' H') ∧ ∀ x H', J.yld i H x H' → g x (wipe σ vs) H' fun σ2 H2 => wipe σ2 vs = wipe σ vs ∧ t σ2 H2 fun b H3 =>
    if b = true then te σ2 H3 fun y H4 => ∃ acc, H4 D = some (.lst acc) ∧ acc.length < sizeLine ∧ Nx (upd H4 D (.lst (acc ++ [y]))) else Nx H3)) : tLc wi g t te vs σ H Q := q
theorem r_yes (q : QT true H) : tYes σ H QT := q
theorem r_for {wi : TI} (q : wi σ H fun J H1 => ∃ W : Nat → Nat → L2.St → Hp → Prop, (∃ m, W 0 m σ H1) ∧ ∀ i m σ H, W i m σ H →
  (J.stop i H ∧ nx σ H) ∨ (J.go i H ∧ ∃ N : L2.St → Hp → Prop, (∀ σ' H', N σ' H' → ∃ m', m' < m ∧ W (i + 1) m' σ' H') ∧ ∀ x H', J.yld i H x H' → g x σ H' fun σ2 H2 => ts ⟨N, rt, nx, N⟩ σ2 H2)) : tFor wi g ts ⟨nx, rt, bk, ct⟩ σ H := q
/-- the loops' words -/
theorem w_list {a : Addr} {xs : List V} (Pv : Nat → L2.St → Hp → Prop) (h0 : Pv 0 σ H) (hl : ∀ i σ H, i ≤ xs.length → Pv i σ H → SqL K H a xs)
    (hs : ∀ i x σ H, xs[i]? = some x → Pv i σ H → g x σ H fun σ2 H2 => ts ⟨Pv (i + 1), rt, nx, Pv (i + 1)⟩ σ2 H2) (hd : ∀ σ H, Pv xs.length σ H → nx σ H) :
    ∃ W : Nat → Nat → L2.St → Hp → Prop, (∃ m, W 0 m σ H) ∧ ∀ i m σ H, W i m σ H →
      ((Itl K a).stop i H ∧ nx σ H) ∨ ((Itl K a).go i H ∧ ∃ N : L2.St → Hp → Prop, (∀ σ' H', N σ' H' → ∃ m', m' < m ∧ W (i + 1) m' σ' H') ∧ ∀ x H', (Itl K a).yld i H x H' → g x σ H' fun σ2 H2 => ts ⟨N, rt, nx, N⟩ σ2 H2) :=
  for_list (D := ⟨nx, rt, nx, nx⟩) Pv h0 hl hs hd
theorem w_tup {a : Addr} {xs : List V} (Pv : Nat → L2.St → Hp → Prop) (h0 : Pv 0 σ H) (hl : ∀ i σ H, i ≤ xs.length → Pv i σ H → SqT K H a xs)
    (hs : ∀ i x σ H, xs[i]? = some x → Pv i σ H → g x σ H fun σ2 H2 => ts ⟨Pv (i + 1), rt, nx, Pv (i + 1)⟩ σ2 H2) (hd : ∀ σ H, Pv xs.length σ H → nx σ H) :
    ∃ W : Nat → Nat → L2.St → Hp → Prop, (∃ m, W 0 m σ H) ∧ ∀ i m σ H, W i m σ H →
      ((Itt K a).stop i H ∧ nx σ H) ∨ ((Itt K a).go i H ∧ ∃ N : L2.St → Hp → Prop, (∀ σ' H', N σ' H' → ∃ m', m' < m ∧ W (i + 1) m' σ' H') ∧ ∀ x H', (Itt K a).yld i H x H' → g x σ H' fun σ2 H2 => ts ⟨N, rt, nx, N⟩ σ2 H2) :=
  for_tup (D := ⟨nx, rt, nx, nx⟩) Pv h0 hl hs hd
theorem w_rng {lo : Int} {n : Nat} (Pv : Nat → L2.St → Hp → Prop) (h0 : Pv 0 σ H)
    (hs : ∀ i σ H, i < n → Pv i σ H → g (.int (lo + i)) σ H fun σ2 H2 => ts ⟨Pv (i + 1), rt, nx, Pv (i + 1)⟩ σ2 H2) (hd : ∀ σ H, Pv n σ H → nx σ H) :
    ∃ W : Nat → Nat → L2.St → Hp → Prop, (∃ m, W 0 m σ H) ∧ ∀ i m σ H, W i m σ H →
      ((Itr lo n).stop i H ∧ nx σ H) ∨ ((Itr lo n).go i H ∧ ∃ N : L2.St → Hp → Prop, (∀ σ' H', N σ' H' → ∃ m', m' < m ∧ W (i + 1) m' σ' H') ∧ ∀ x H', (Itr lo n).yld i H x H' → g x σ H' fun σ2 H2 => ts ⟨N, rt, nx, N⟩ σ2 H2) :=
  for_range (D := ⟨nx, rt, nx, nx⟩) Pv h0 hs hd
theorem r_iS {tl : TE} {R : It → Hp → Prop} (q : tl σ H fun v H1 => ∃ x, v = .str x ∧ R (Its x) H1) : iStr tl σ H R := q
theorem q_iS {z : Str} {B : Str → Prop} (q : B z) : ∃ x, V.str z = .str x ∧ B x := ⟨z, rfl, q⟩
theorem w_str {x : Str} (Pv : Nat → L2.St → Hp → Prop) (h0 : Pv 0 σ H)
    (hs : ∀ i c σ H, x.cps.toList[i]? = some c → Pv i σ H → g (.str ⟨#[c]⟩) σ H fun σ2 H2 => ts ⟨Pv (i + 1), rt, nx, Pv (i + 1)⟩ σ2 H2) (hd : ∀ σ H, Pv x.cps.toList.length σ H → nx σ H) :
    ∃ W : Nat → Nat → L2.St → Hp → Prop, (∃ m, W 0 m σ H) ∧ ∀ i m σ H, W i m σ H →
      ((Its x).stop i H ∧ nx σ H) ∨ ((Its x).go i H ∧ ∃ N : L2.St → Hp → Prop, (∀ σ' H', N σ' H' → ∃ m', m' < m ∧ W (i + 1) m' σ' H') ∧ ∀ v H', (Its x).yld i H v H' → g v σ H' fun σ2 H2 => ts ⟨N, rt, nx, N⟩ σ2 H2) := by
  have hz : x.cps.toList.length = x.cps.size := Array.length_toList
  refine ⟨fun i m σ H => m = x.cps.size - i ∧ i ≤ x.cps.size ∧ Pv i σ H, ⟨x.cps.size, by simp, Nat.zero_le _, h0⟩, ?_⟩
  rintro i m σ H ⟨rfl, hi, p⟩
  by_cases hlt : i < x.cps.size
  · refine .inr ⟨hlt, Pv (i + 1), fun σ' H' p' => ⟨x.cps.size - (i + 1), by omega, rfl, hlt, p'⟩, fun v H' y => ?_⟩
    obtain ⟨e, c, hc, ev⟩ := y
    subst e
    subst ev
    exact hs i c _ _ (by rw [Array.getElem?_toList]; exact hc) p
  · have e : i = x.cps.toList.length := by omega
    subst e
    exact .inl ⟨by show x.cps.size ≤ _; omega, hd _ _ p⟩
theorem w_while (W : Nat → L2.St → Hp → Prop) (m0 : Nat) (h0 : W m0 σ H)
    (hs : ∀ m σ' H', W m σ' H' → c σ' H' fun b H1 => if b = true then ts ⟨fun σ2 H2 => ∃ m', m' < m ∧ W m' σ2 H2, rt, nx, fun σ2 H2 => ∃ m', m' < m ∧ W m' σ2 H2⟩ σ' H1 else nx σ' H1)
    (mono : ∀ σ H Q Q', (∀ b H1, Q b H1 → Q' b H1) → c σ H Q → c σ H Q') : tWhile c ts ⟨nx, rt, bk, ct⟩ σ H := by
  refine ⟨W, ⟨m0, h0⟩, fun m σ' H' hw => mono σ' H' _ _ (fun b H1 q => ?_) (hs m σ' H' hw)⟩
  cases b with
  | true => exact ⟨_, fun _ _ n => n, q⟩
  | false => exact q
theorem q_setL {p : Addr} {xs : List V} {k : Int} {j : Nat} {QH : Hp → Prop} (h : H p = some (.lst xs)) (hj : ixN xs.length k = some j) (q : QH (upd H p (.lst (xs.set j v)))) : rSetL (.ref p) (.int k) v H QH := ⟨p, xs, k, j, rfl, rfl, h, hj, q⟩
theorem q_append {l : Addr} {xs : List V} (h : H l = some (.lst xs)) (hz : xs.length < 100000) (q : Q .non (upd H l (.lst (xs ++ [y])))) : rAppend (.ref l) [y] H Q := ⟨l, xs, y, rfl, rfl, h, sl1000' hz, q⟩
theorem q_pop0 {l : Addr} {xs : List V} (h : H l = some (.lst (x :: xs))) (q : Q x (upd H l (.lst xs))) : rPopAt (.ref l) [.int 0] H Q := ⟨l, x :: xs, 0, 0, x, rfl, rfl, h, by decide, by decide, by simp [seqIndex?], rfl, q⟩
theorem q_abs {i : Int} (q : Q (.int (if i < 0 then -i else i)) H) : rAbs [.int i] H Q := ⟨i, rfl, q⟩
theorem q_int {i : Int} (q : Q (.int i) H) : rInt [.int i] H Q := .inl ⟨i, rfl, q⟩
theorem q_intT (q : Q (.int 1) H) : rInt [.bl true] H Q := .inr ⟨true, rfl, q⟩
theorem q_intF (q : Q (.int 0) H) : rInt [.bl false] H Q := .inr ⟨false, rfl, q⟩
theorem q_intNT (q : Q (.int 1) H) : rInt [.bl (!false)] H Q := .inr ⟨true, rfl, q⟩
theorem q_intNF (q : Q (.int 0) H) : rInt [.bl (!true)] H Q := .inr ⟨false, rfl, q⟩
theorem iteNT {A B : Prop} (h : A) : if (!false) = true then A else B := by simpa using h
theorem iteNF {A B : Prop} (h : B) : if (!true) = true then A else B := by simpa using h
theorem q_listL {p : Addr} {ys : List V} (h : SqL K H p ys) (q : ∀ p Hn, H p = none → Ex H Hn → Hn p = some (.lst ys) → Q (.ref p) Hn) : rListOf K [.ref p] H Q := ⟨p, ys, rfl, .inl h, fun p hp => q p _ hp (Ex.mk hp rfl) upd_same⟩
theorem q_listT {p : Addr} {ys : List V} (h : SqT K H p ys) (q : ∀ p Hn, H p = none → Ex H Hn → Hn p = some (.lst ys) → Q (.ref p) Hn) : rListOf K [.ref p] H Q := ⟨p, ys, rfl, .inr h, fun p hp => q p _ hp (Ex.mk hp rfl) upd_same⟩
end

/-! ### tests that hand on more where more is wished (for while) -/
section
variable {K : PySem.W.Frag}
def MoE (t : TE) : Prop := ∀ σ H (Q Q' : VK), (∀ v H1, Q v H1 → Q' v H1) → t σ H Q → t σ H Q'
def MoT (t : TT) : Prop := ∀ σ H (Q Q' : Bool → Hp → Prop), (∀ v H1, Q v H1 → Q' v H1) → t σ H Q → t σ H Q'
def MoA (t : TA) : Prop := ∀ σ H (Q Q' : List V → Hp → Prop), (∀ v H1, Q v H1 → Q' v H1) → t σ H Q → t σ H Q'
def MoR (r : R2) : Prop := ∀ x y H (Q Q' : VK), (∀ v H1, Q v H1 → Q' v H1) → r x y H Q → r x y H Q'
def MoC (r : List V → Hp → VK → Prop) : Prop := ∀ x H (Q Q' : VK), (∀ v H1, Q v H1 → Q' v H1) → r x H Q → r x H Q'
theorem mo_var {i : Nat} : MoE (tVar i) := fun _ _ _ _ k ⟨v, h, q⟩ => ⟨v, h, k _ _ q⟩
theorem mo_c {v : V} : MoE (tC v) := fun _ _ _ _ k q => k _ _ q
theorem mo_op {r : R2} {a b : TE} (hr : MoR r) (ha : MoE a) (hb : MoE b) : MoE (tOp r a b) := fun σ H Q Q' k h => ha _ _ _ _ (fun x H1 q => hb _ _ _ _ (fun y H2 q => hr _ _ _ _ _ k q) q) h
theorem mo_test {a : TE} (ha : MoE a) : MoT (tTest a) := fun σ H Q Q' k h => ha _ _ _ _ (fun x H1 ⟨c, e, q⟩ => ⟨c, e, k _ _ q⟩) h
theorem mo_and {a b : TT} (ha : MoT a) (hb : MoT b) : MoT (tAnd a b) := fun σ H Q Q' k h => ha _ _ _ _ (fun c H1 q => by
  cases c
  · exact k _ _ q
  · exact hb _ _ _ _ k q) h
theorem mo_or {a b : TT} (ha : MoT a) (hb : MoT b) : MoT (tOr a b) := fun σ H Q Q' k h => ha _ _ _ _ (fun c H1 q => by
  cases c
  · exact hb _ _ _ _ k q
  · exact k _ _ q) h
theorem mo_not {a : TT} (ha : MoT a) : MoT (tNot a) := fun σ H Q Q' k h => ha _ _ _ _ (fun c H1 q => k _ _ q) h
theorem mo_nil : MoA tNil := fun _ _ _ _ k q => k _ _ q
theorem mo_cons {a : TE} {r : TA} (ha : MoE a) (hr : MoA r) : MoA (tCons a r) := fun σ H Q Q' k h => ha _ _ _ _ (fun x H1 q => hr _ _ _ _ (fun xs H2 q => k _ _ q) q) h
theorem mo_cb {r : List V → Hp → VK → Prop} {a : TA} (hr : MoC r) (ha : MoA a) : MoE (tCB r a) := fun σ H Q Q' k h => ha _ _ _ _ (fun x H1 q => hr _ _ _ _ k q) h
theorem mo_I0 {f : Int → Int → V} : MoR (rI0 f) := fun _ _ _ _ _ k ⟨i, j, a, b, q⟩ => ⟨i, j, a, b, k _ _ q⟩
theorem mo_I {C : Int → Int → Prop} {f : Int → Int → V} : MoR (rI C f) := fun _ _ _ _ _ k ⟨i, j, a, b, c, q⟩ => ⟨i, j, a, b, c, k _ _ q⟩
theorem mo_eqA : MoR (rEqA K) := fun _ _ _ _ _ k h => h.elim (fun ⟨a, q⟩ => .inl ⟨a, k _ _ q⟩) fun ⟨d, e, a, b, c, f, q⟩ => .inr ⟨d, e, a, b, c, f, k _ _ q⟩
theorem mo_neA : MoR (rNeA K) := fun _ _ _ _ _ k h => h.elim (fun ⟨a, q⟩ => .inl ⟨a, k _ _ q⟩) fun ⟨d, e, a, b, c, f, q⟩ => .inr ⟨d, e, a, b, c, f, k _ _ q⟩
theorem mo_ix : MoR (rIx K) := fun _ _ _ _ _ k h => by
  rcases h with ⟨p, xs, i, v, a, b, c, d, q⟩ | ⟨p, xs, i, v, a, b, c, d, q⟩ | ⟨z, i, c, a, b, d, e, q⟩
  · exact .inl ⟨p, xs, i, v, a, b, c, d, k _ _ q⟩
  · exact .inr (.inl ⟨p, xs, i, v, a, b, c, d, k _ _ q⟩)
  · exact .inr (.inr ⟨z, i, c, a, b, d, e, k _ _ q⟩)
theorem mo_lenA : MoC (rLenA K) := fun _ _ _ _ k h => by
  rcases h with ⟨p, ys, a, b, q⟩ | ⟨z, a, b, q⟩
  · exact .inl ⟨p, ys, a, b, k _ _ q⟩
  · exact .inr ⟨z, a, b, k _ _ q⟩
theorem ix0 {n : Nat} : ixN (n + 1) 0 = some 0 := by
  unfold ixN
  rw [if_pos (by decide), if_pos (by omega)]
  rfl
end
end Y
namespace Y
open PySem L2
def topS (i : Nat) : Stmt := PySem.Challenge.pw_placedanyhow_k40_networks_and_hops.main.body.getD i (.Pass ⟨0, 0, 0, 0⟩)
local macro_rules | `(tactic| walk_at "lift") => `(tactic| first
  | assumption
  | (refine at_ex (by assumption) ?_; walk_at "lift")
  | (refine tup_kp (by assumption) ?_; walk_at "lift")
  | (refine at_kp (by assumption) (by walk_at "nin") ?_; walk_at "lift"))
local macro_rules | `(tactic| walk_at "sq") => `(tactic| first
  | assumption
  | (refine sqt ?_; walk_at "lift")
  | (refine sql ?_; walk_at "lift"))
local macro_rules | `(tactic| walk_at "ar") => `(tactic| first
  | assumption
  | omega
  | (refine And.intro ?_ ?_ <;> omega)
  | (refine cdiv ⟨?_, ?_⟩ <;> omega)
  | (refine cmulL ⟨?_, ?_⟩ <;> omega)
  | (refine cmulR ⟨?_, ?_⟩ <;> omega)
  | decide)
set_option hygiene false in
local macro_rules | `(tactic| walk_at "i_disp") => `(tactic| intro dp Hn hdp ke hdn)
set_option hygiene false in
local macro_rules | `(tactic| walk_at "i_new") => `(tactic| intro p Hn hp ke hn)
local macro_rules | `(tactic| walk_at "len") => `(tactic| first | decide | (simp only [List.length_cons, List.length_nil, List.length_append, List.length_map]; omega))
local macro_rules | `(tactic| walk_at "new") => `(tactic| first
  | ((with_reducible refine q_newT ?h ?_); (case h => walk_at "len"); walk_at "i_new")
  | ((with_reducible refine q_newL ?h ?_); (case h => walk_at "len"); walk_at "i_new")
  | ((with_reducible refine q_sl1T (x := ?x) (xs := ?xs) ?h ?_); (case h => walk_at "sq"); walk_at "i_new")
  | ((with_reducible refine q_sl1L (x := ?x) (xs := ?xs) ?h ?_); (case h => walk_at "sq"); walk_at "i_new")
  | ((with_reducible refine q_listL (ys := ?ys) ?h ?_); (case h => walk_at "sq"); walk_at "i_new")
  | ((with_reducible refine q_listT (ys := ?ys) ?h ?_); (case h => walk_at "sq"); walk_at "i_new"))
local macro_rules | `(tactic| walk_at "arx") => `(tactic| first
  | omega
  | decide
  | (simp only [List.length_cons, List.length_nil, List.length_map]; omega))
set_option hygiene false in
local macro_rules | `(tactic| walk_at "q") => `(tactic| exact q)
local macro_rules | `(tactic| walk_at "st") => `(tactic| first
  | with_reducible refine r_seq ?_
  | with_reducible refine r_ifS ?_
  | with_reducible refine r_asg ?_
  | with_reducible refine r_ret ?_
  | with_reducible refine r_retN ?_
  | with_reducible refine r_next ?_
  | with_reducible refine r_drop ?_
  | ((with_reducible refine r_aug (v := ?v) ?h ?_); (case h => exact rfl))
  | with_reducible refine q_ip ?_
  | ((with_reducible refine r_var (v := ?v) ?h ?_); (case h => exact rfl))
  | with_reducible refine r_c ?_
  | with_reducible refine r_op ?_
  | with_reducible refine r_un ?_
  | with_reducible refine r_test ?_
  | with_reducible refine r_tB ?_
  | with_reducible refine q_exb ?_
  | with_reducible refine r_and ?_
  | with_reducible refine r_or ?_
  | with_reducible refine r_not ?_
  | with_reducible refine r_andV ?_
  | with_reducible refine r_orV ?_
  | with_reducible refine r_notV ?_
  | with_reducible refine r_ifE ?_
  | with_reducible refine iteT ?_
  | with_reducible refine iteF ?_
  | with_reducible refine iteNT ?_
  | with_reducible refine iteNF ?_
  | with_reducible refine q_intNT ?_
  | with_reducible refine q_intNF ?_
  | with_reducible refine r_cons ?_
  | with_reducible refine r_nil ?_
  | with_reducible refine r_cb ?_
  | with_reducible refine r_call ?_
  | with_reducible refine r_tup ?_
  | with_reducible refine r_lst ?_
  | with_reducible refine r_gname ?_
  | with_reducible refine r_gnil ?_
  | with_reducible refine r_gcons ?_
  | with_reducible refine r_gsub ?_
  | ((with_reducible refine r_gtup (xs := ?xs) ?h ?l ?_); (case h => walk_at "sq"); (case l => rfl))
  | with_reducible refine r_sl ?_
  | with_reducible refine r_part ?_
  | with_reducible refine r_nopart ?_
  | with_reducible refine q_part ?_
  | with_reducible refine r_dget ?_
  | ((with_reducible refine q_dget (kvs := ?kvs) (v := ?v) ?h ?l ?_); (case h => walk_at "lift"); (case l => first | assumption | rfl))
  | with_reducible refine r_bm ?_
  | with_reducible refine r_bm0 ?_
  | with_reducible refine q_addI ?_
  | ((with_reducible refine q_eqY ?s ?e ?_); (case e => first | exact rfl | decide +kernel); (case s => rfl))
  | ((with_reducible refine q_eqN ?s ?e ?_); (case e => decide +kernel); (case s => rfl))
  | ((with_reducible refine q_eqN ?s ?e ?_); (case e => walk_at "ne"); (case s => rfl))
  | (with_reducible refine q_eqI (fun c => ?_) (fun c => ?_))
  | (with_reducible refine q_eqS (fun c => ?_) (fun c => ?_))
  | ((with_reducible refine q_neY ?s ?e ?_); (case e => decide +kernel); (case s => rfl))
  | ((with_reducible refine q_neN ?s ?e ?_); (case e => first | exact rfl | decide +kernel); (case s => rfl))
  | (with_reducible refine q_neI (fun c => ?_) (fun c => ?_))
  | (with_reducible refine q_neS (fun c => ?_) (fun c => ?_))
  | ((with_reducible refine q_cmpY ?h ?_); (case h => walk_at "arx"))
  | ((with_reducible refine q_cmpN ?h ?_); (case h => walk_at "arx"))
  | (with_reducible refine q_cmp (fun c => ?_) (fun c => ?_))
  | ((with_reducible refine q_I ?c ?_); (case c => walk_at "ar"))
  | with_reducible refine q_I0 ?_
  | with_reducible refine q_U ?_
  | ((with_reducible refine q_ixT (xs := ?xs) (v := ?v) ?h ?a ?_); (case h => walk_at "sq"); (case a => exact rfl))
  | ((with_reducible refine q_lenL (xs := ?xs) ?h ?_); (case h => walk_at "sq"))
  | ((with_reducible refine q_lenT (xs := ?xs) ?h ?_); (case h => walk_at "sq"))
  | with_reducible refine q_isiBI ?_
  | with_reducible refine q_isiBN ?_
  | ((with_reducible refine q_inTY (xs := ?xs) ?h ?e ?_); (case h => walk_at "sq"); (case e => first | decide +kernel | rfl))
  | ((with_reducible refine q_inTN (xs := ?xs) ?h ?e ?_); (case h => walk_at "sq"); (case e => first | decide +kernel | rfl))
  | ((with_reducible refine q_inLY (xs := ?xs) ?h ?e ?_); (case h => walk_at "sq"); (case e => first | decide +kernel | rfl))
  | ((with_reducible refine q_inLN (xs := ?xs) ?h ?e ?_); (case h => walk_at "sq"); (case e => first | decide +kernel | rfl))
  | with_reducible refine q_int ?_
  | with_reducible refine q_intT ?_
  | with_reducible refine q_intF ?_
  | with_reducible refine q_abs ?_
  | with_reducible refine r_yes ?_
  | with_reducible refine r_lc ?_
  | (with_reducible refine r_disp ?_; walk_at "i_disp")
  | with_reducible refine r_pcons ?_
  | with_reducible refine r_pnil ?_
  | with_reducible refine r_for ?_
  | with_reducible refine r_iL ?_
  | with_reducible refine r_iT ?_
  | with_reducible refine r_iS ?_
  | with_reducible refine q_iS ?_
  | with_reducible refine r_rng1 ?_
  | with_reducible refine r_rng2 ?_
  | ((with_reducible refine q_iL (xs := ?xs) ?h ?_); (case h => walk_at "sq"))
  | ((with_reducible refine q_iT (xs := ?xs) ?h ?_); (case h => walk_at "sq"))
  | ((with_reducible refine q_rng1 ?h ?_); (case h => walk_at "ar"))
  | ((with_reducible refine q_rng2 ?h ?_); (case h => refine And.intro ?_ (And.intro ?_ (And.intro ?_ ?_)) <;> omega))
  | walk_at "q"
  | with_reducible refine q_isNY rfl ?_
  | ((with_reducible refine q_isNN ?h ?_); (case h => intro z; cases z))
  | with_reducible refine q_notNY rfl ?_
  | ((with_reducible refine q_notNN ?h ?_); (case h => intro z; cases z))
  | ((with_reducible refine q_ixL (xs := ?xs) (v := ?v) ?h ?a ?_); (case h => walk_at "sq"); (case a => first | exact rfl | exact at0 | assumption | walk_at "ax"))
  | walk_at "new"
  | walk_at "own"
  | fail)
local macro_rules | `(tactic| walk_at "own") => `(tactic| fail)
local macro_rules | `(tactic| walk_at "ne") => `(tactic| fail)
local macro_rules | `(tactic| walk_at "ax") => `(tactic| fail)
local macro_rules | `(tactic| walk_at "ex") => `(tactic| first
  | assumption
  | exact Ex.refl _
  | (refine Ex.trans ?_ (by assumption); walk_at "ex"))
structure Glo (mg : Str → Option Value) : Prop where
  n_len : mg "len" = none
  n_int : mg "int" = none
  n_abs : mg "abs" = none
  n_range : mg "range" = none
  n_min : mg "min" = none
  n_max : mg "max" = none
  n_enumerate : mg "enumerate" = none
  n_isinstance : mg "isinstance" = none
  c_MOST_PROCESSORS : ∃ t, mg "MOST_PROCESSORS" = some (.int 6 t)
local macro_rules | `(tactic| walk_at "lev") => `(tactic| first | decide | omega)
variable {P : Program} {w : World} {K : PySem.W.Frag} {mg : Str → Option Value} {base : Heap}
abbrev s__law_state : Stmt := topS 11
theorem sc__law_state : FnScope ["script", "seed", "cell"] ["script"] (defScope s__law_state) := ⟨rfl, rfl, rfl, by decide +kernel, rfl, by decide +kernel, by decide +kernel⟩
abbrev p__law_state : List Str := ["script"]
abbrev s__law_draw : Stmt := topS 12
theorem sc__law_draw : FnScope ["state", "many", "cells", "mixed", "number"] ["state", "many"] (defScope s__law_draw) := ⟨rfl, rfl, rfl, by decide +kernel, rfl, by decide +kernel, by decide +kernel⟩
abbrev p__law_draw : List Str := ["state", "many"]
abbrev s__law_pick : Stmt := topS 13
theorem sc__law_pick : FnScope ["state", "row"] ["state", "row"] (defScope s__law_pick) := ⟨rfl, rfl, rfl, by decide +kernel, rfl, by decide +kernel, by decide +kernel⟩
abbrev p__law_pick : List Str := ["state", "row"]
/-! ### the draws' state -/
structure StOk (st c : Addr) (H : Hp) : Prop where
  ex : ∃ (ns : List Int) (s : Int), H st = some (.lst [.ref c, .int s]) ∧ H c = some (.lst (ns.map V.int)) ∧ (∀ n ∈ ns, 0 ≤ n) ∧ 0 ≤ s ∧ s < 2147483648
  ne : c ≠ st
theorem st_ex {st c : Addr} {H H' : Hp} (e : Ex H H') (h : StOk st c H) : StOk st c H' := by
  obtain ⟨⟨ns, s, a, b, d⟩, n⟩ := h
  exact ⟨⟨ns, s, e _ _ a, e _ _ b, d⟩, n⟩
/-- a fresh address is neither -/
theorem st_fresh {st c p : Addr} {H : Hp} (h : StOk st c H) (hp : H p = none) : p ∉ [st, c] := by
  obtain ⟨⟨ns, s, a, b, d⟩, n⟩ := h
  simp only [List.mem_cons, List.not_mem_nil, or_false, not_or]
  exact ⟨(ne_of_none a hp).symm, (ne_of_none b hp).symm⟩
local macro_rules | `(tactic| walk_at "st_ok") => `(tactic| first
  | assumption
  | (refine st_ex (by assumption) ?_; walk_at "st_ok"))
local macro_rules | `(tactic| walk_at "nin") => `(tactic| first
  | assumption
  | (refine st_fresh (H := ?H) ?a ?b; (case b => assumption); (case a => walk_at "st_ok")))
local macro_rules | `(tactic| walk_at "kp") => `(tactic| first
  | assumption
  | exact Kp.refl _
  | (refine Kp.trans ?_ (by assumption); walk_at "kp")
  | (refine Kp.trans ?_ (Ex.kp (by assumption)); walk_at "kp"))
theorem int_mod (a : Int) {m : Int} (h : 0 < m) : 0 ≤ a % m ∧ a % m < m := ⟨Int.emod_nonneg _ (by omega), Int.emod_lt_of_pos _ h⟩
def sp_state (K : PySem.W.Frag) : Sp := fun vs H Q _ => ∃ (a : Addr) (ns : List Int), vs = [.ref a] ∧ SqL K H a (ns.map V.int) ∧ ns.length ≤ 63 ∧ ∀ st c H', Ex H H' → H st = none → H c = none → StOk st c H' → Q (.ref st) H'
theorem ex_sql {H H' : Hp} {a : Addr} {xs : List V} (e : Ex H H') (h : SqL K H a xs) : SqL K H' a xs := e.same.seq h
theorem abs_nn (i : Int) : 0 ≤ (if i < 0 then -i else i) := by split <;> omega
theorem ok_state (T : Glo mg) (D : Dn K mg "_law_state" s__law_state p__law_state) : Cal P w K mg base "_law_state" 1 p__law_state (sp_state K) := by
  refine D.ok sc__law_state (fun vs H Q E h => ?_) (fun f cdv A outer s H vs Q E hr h => ?_)
  · obtain ⟨_, _, rfl, _⟩ := h
    rfl
  obtain ⟨a, ns, rfl, hs, hl, q⟩ := h
  refine ⟨_, (pss_cons (ps_set (i := 1) sc__law_state.nd rfl (by first | exact Or.inl rfl | exact Or.inr rfl) pe_int) (pss_cons (ps_for PassesOwn.never rfl (pi_list (pv 0)) (pg_name (i := 2) sc__law_state.nd rfl (by first | exact Or.inl rfl | exact Or.inr rfl)) (pss_one (ps_set (i := 1) sc__law_state.nd rfl (by first | exact Or.inl rfl | exact Or.inr rfl) (pe_op op_mod (pe_callTy call_intA rfl T.n_int (by decide +kernel) (pa_cons (pe_op op_addA (pe_op op_mul (pv 1) pe_int) (pv 2)) pa_nil)) pe_int)))) (pss_one (ps_ret (pe_lst (pa_cons (pe_lc (own := [("cell", 2)]) (tt := tYes) rfl sc__law_state.nd (pi_list (pv 0)) (blkOk_by (N := ["script", "seed", "cell"]) (sc := defScope s__law_state) (by decide +kernel)) (fun _ _ _ _ _ => (pg_name (i := 2) sc__law_state.nd rfl (by first | exact Or.inl rfl | exact Or.inr rfl))) (fun _ _ _ _ _ => pts_nil) (fun _ _ _ _ _ => (pe_callB call_absA rfl T.n_abs (by decide +kernel) (pa_cons (pv 2) pa_nil)))) (pa_cons (pe_op op_addA (pv 1) pe_int) pa_nil))))))), ?_⟩
  try dsimp only [cxOf, Cx.nox]
  repeat' walk_at "st"
  refine w_list (xs := ns.map V.int) (fun i σ H' => H' = H ∧ ∃ (z : Int) (y : Option V), σ = [some (.ref a), some (.int z), y] ∧ 0 ≤ z ∧ z < 1000003) ?_ ?_ ?_ ?_
  · exact ⟨rfl, 7, none, rfl, by decide, by decide⟩
  · rintro i σ H' _ ⟨rfl, _⟩
    exact hs
  · rintro i x σ H' hx ⟨rfl, z, y, rfl, z0, z1⟩
    rw [List.getElem?_map] at hx
    obtain ⟨n, hn, rfl⟩ := Option.map_eq_some_iff.mp hx
    repeat' walk_at "st"
    refine ⟨rfl, _, some (.int n), rfl, ?_⟩
    exact int_mod _ (by decide)
  · rintro σ H' ⟨rfl, z, y, rfl, z0, z1⟩
    repeat' walk_at "st"
    intro L hL
    refine lc_list (xs := ns.map V.int) (fun i H2 => Ex H' H2 ∧ H2 L = some (.lst ((ns.take i).map fun n => V.int (if n < 0 then -n else n)))) ?_ ?_ ?_ ?_
    · exact ⟨Ex.mk hL rfl, upd_same⟩
    · rintro i H2 _ ⟨e, _⟩
      exact ex_sql e hs
    · rintro i x H2 hx ⟨e, h2⟩
      rw [List.getElem?_map] at hx
      obtain ⟨n, hn, rfl⟩ := Option.map_eq_some_iff.mp hx
      refine ⟨rfl, ?_⟩
      repeat' walk_at "st"
      refine ⟨_, h2, sl1000' ?_, ?_, ?_⟩
      · rw [List.length_map, List.length_take]
        omega
      · intro b u hb
        rw [upd_ne (ne_of_none hb hL)]
        exact e _ _ hb
      · rw [upd_same, List.take_add_one, hn, List.map_append]
        rfl
    · rintro H2 ⟨e, h2⟩
      repeat' walk_at "st"
      rw [List.take_of_length_le (by rw [List.length_map]; exact Nat.le_refl _)] at h2
      refine q p L _ (e.trans ke) (free_back e hp) hL ⟨⟨ns.map fun n => (if n < 0 then -n else n), z + 1, hn, ?_, ?_, by omega, by omega⟩, ?_⟩
      · rw [List.map_map]
        exact ke _ _ h2
      · intro n hn
        obtain ⟨m, _, rfl⟩ := List.mem_map.mp hn
        exact abs_nn m
      · exact ne_of_none h2 hp
def sp_draw : Sp := fun vs H Q _ => ∃ (st c : Addr) (many : Int), vs = [.ref st, .int many] ∧ StOk st c H ∧ 0 < many ∧ many < 1073741824 ∧ ∀ (n : Int) (H' : Hp), 0 ≤ n → n < many → Kp [st, c] H H' → StOk st c H' → Q (.int n) H'
theorem ok_draw (T : Glo mg) (D : Dn K mg "_law_draw" s__law_draw p__law_draw) : Cal P w K mg base "_law_draw" 1 p__law_draw sp_draw := by
  refine D.ok sc__law_draw (fun vs H Q E h => ?_) (fun f cdv A outer s H vs Q E hr h => ?_)
  · obtain ⟨_, _, _, rfl, _⟩ := h
    rfl
  obtain ⟨st, c, many, rfl, ⟨⟨ns, z, hst, hc, hn, z0, z1⟩, hne⟩, m0, m1, q⟩ := h
  refine ⟨_, (pss_cons (ps_set (i := 2) sc__law_draw.nd rfl (by first | exact Or.inl rfl | exact Or.inr rfl) (pe_ix ix_seq (pv 0) pe_int (fun _ _ => rfl))) (pss_cons (ps_while PassesOwn.never (PW.pt (pw_and (pt_cmpR op_gt (pe_callB call_lenA rfl T.n_len (by decide +kernel) (pa_cons (pv 2) pa_nil)) pe_int (nomark _)) (pw_and1 (pt_cmpR (op_eqA (hu64 hr)) (pe_ix ix_seq (pv 2) pe_int (fun _ _ => rfl)) pe_int (nomark _))))) (pss_one (ps_expr (pe_bm PySem.F.plainAttrs_list PySem.F.slot_list_pop PySem.F.type_list_pop mt_popAt (pv 2) (pa_cons pe_int pa_nil))))) (pss_cons (ps_if (pt_cmpR op_gt (pe_callB call_lenA rfl T.n_len (by decide +kernel) (pa_cons (pv 2) pa_nil)) pe_int (nomark _)) (pss_cons (ps_set (i := 4) sc__law_draw.nd rfl (by first | exact Or.inl rfl | exact Or.inr rfl) (pe_ix ix_seq (pv 2) pe_int (fun _ _ => rfl))) (pss_cons (ps_asg (pe_op op_fdiv (pv 4) (pv 1)) (pg_sub (pv 2) pe_int set_list)) (pss_one (ps_ret (pe_op op_mod (pe_callTy call_intA rfl T.n_int (by decide +kernel) (pa_cons (pv 4) pa_nil)) (pv 1)))))) pss_nil) (pss_cons (ps_set (i := 3) sc__law_draw.nd rfl (by first | exact Or.inl rfl | exact Or.inr rfl) (pe_op op_mod (pe_callTy call_intA rfl T.n_int (by decide +kernel) (pa_cons (pe_op op_addA (pe_op op_mul (pe_ix ix_seq (pv 0) pe_int (fun _ _ => rfl)) pe_int) pe_int) pa_nil)) pe_int)) (pss_cons (ps_asg (pv 3) (pg_sub (pv 0) pe_int set_list)) (pss_one (ps_ret (pe_op op_mod (pe_callTy call_intA rfl T.n_int (by decide +kernel) (pa_cons (pe_op op_fdiv (pv 3) pe_int) pa_nil)) (pv 1))))))))), ?_⟩
  try dsimp only [cxOf, Cx.nox]
  repeat' walk_at "st"
  refine w_while (fun m σ H' => ∃ ns' : List Int, m = ns'.length ∧ σ = [some (.ref st), some (.int many), some (.ref c), none, none] ∧ H' st = some (.lst [.ref c, .int z]) ∧ H' c = some (.lst (ns'.map V.int)) ∧ (∀ n ∈ ns', 0 ≤ n) ∧ Kp [st, c] H H') ns.length ⟨ns, rfl, rfl, hst, hc, hn, Kp.refl _⟩ ?_ ?_
  · rintro m σ H' ⟨ns', rfl, rfl, h1, h2, h3, h4⟩
    have mc : c ∈ [st, c] := by simp
    have mst : st ∈ [st, c] := by simp
    have ht : ∀ xs, H' st ≠ some (.tup xs) := fun xs e => by rw [h1] at e; cases e
    have hu : ∀ xs, H' c ≠ some (.tup xs) := fun xs e => by rw [h2] at e; cases e
    cases ns' with
    | nil =>
      repeat' walk_at "st"
      refine q_setL (j := 1) h1 rfl ?_
      generalize hq : upd H' st _ = H2
      repeat' walk_at "st"
      have hz := int_mod (z * 48271 + 12345) (m := 2147483647) (by decide)
      refine q _ H2 (int_mod _ m0).1 (int_mod _ m0).2 (h4.trans (Kp.set mst ht hq)) ⟨⟨[], _, at_new hq, ?_, h3, hz.1, Int.lt_trans hz.2 (by decide)⟩, hne⟩
      rw [← hq, upd_ne hne]
      exact h2
    | cons n r =>
      rw [List.map_cons] at h2
      have hn0 := h3 n (List.mem_cons_self ..)
      have hr0 : ∀ n ∈ r, 0 ≤ n := fun k hk => h3 k (List.mem_cons_of_mem _ hk)
      repeat' walk_at "st"
      · refine q_tyL h2 ?_
        repeat' walk_at "st"
        refine q_pop0 h2 ?_
        refine ⟨r.length, Nat.lt_succ_self _, r, rfl, rfl, ?_, upd_same, hr0, h4.trans (Kp.set mc hu rfl)⟩
        rw [upd_ne (Ne.symm hne)]
        exact h1
      · refine q_setL (j := 0) h2 ix0 ?_
        generalize hq : upd H' c _ = H2
        repeat' walk_at "st"
        refine q _ H2 (int_mod _ m0).1 (int_mod _ m0).2 (h4.trans (Kp.set mc hu hq)) ⟨⟨n / many :: r, z, ?_, at_new hq, ?_, z0, z1⟩, hne⟩
        · rw [← hq, upd_ne (Ne.symm hne)]
          exact h1
        · intro k hk
          rcases List.mem_cons.mp hk with rfl | hk
          · exact Int.ediv_nonneg hn0 (by omega)
          · exact hr0 _ hk
  · intro σ H Q Q' hQ h
    exact mo_and (mo_test (mo_op mo_I0 (mo_cb mo_lenA (mo_cons mo_var mo_nil)) mo_c)) (mo_test (mo_op mo_eqA (mo_op mo_ix mo_var mo_c) mo_c)) _ _ _ _ hQ h
theorem c_draw {st c : Addr} {many : Int} {H : Hp} {Q : VK} {E : XK} (h1 : StOk st c H) (h2 : 0 < many ∧ many < 1073741824) (q : ∀ (n : Int) (H' : Hp), 0 ≤ n → n < many → Kp [st, c] H H' → StOk st c H' → Q (.int n) H') :
    sp_draw [.ref st, .int many] H Q E := ⟨st, c, many, rfl, h1, h2.1, h2.2, q⟩
set_option hygiene false in
local macro_rules | `(tactic| walk_at "i_c_draw") => `(tactic| intro dn Hn n0 n1 ke so)
local macro_rules | `(tactic| walk_at "own") => `(tactic| (refine c_draw (c := ?c) ?a ?b ?_; (case a => walk_at "st_ok"); (case b => walk_at "arx2"); walk_at "i_c_draw"))
local macro_rules | `(tactic| walk_at "arx2") => `(tactic| first
  | (refine And.intro ?_ ?_ <;> omega)
  | (simp only [List.length_cons, List.length_nil, List.length_map]; refine And.intro ?_ ?_ <;> omega)
  | (refine And.intro ?_ ?_ <;> decide +kernel))
def sp_pick (K : PySem.W.Frag) : Sp := fun vs H Q _ => ∃ (st c a : Addr) (xs : List V), vs = [.ref st, .ref a] ∧ StOk st c H ∧ H a = some (.lst xs) ∧ a ∉ [st, c] ∧ 0 < xs.length ∧ xs.length < 1000000 ∧ ∀ (i : Nat) (v : V) (H' : Hp), xs[i]? = some v → Kp [st, c] H H' → StOk st c H' → Q v H'
theorem ok_pick (T : Glo mg) (D : Dn K mg "_law_pick" s__law_pick p__law_pick) (G__law_draw : Cal P w K mg base "_law_draw" 1 p__law_draw sp_draw) : Cal P w K mg base "_law_pick" 2 p__law_pick (sp_pick K) := by
  refine D.ok sc__law_pick (fun vs H Q E h => ?_) (fun f cdv A outer s H vs Q E hr h => ?_)
  · obtain ⟨_, _, _, _, rfl, _⟩ := h
    rfl
  obtain ⟨st, c, a, xs, rfl, so, ha, hn, l0, l1, q⟩ := h
  refine ⟨_, (pss_one (ps_ret (pe_ix ix_seq (pv 1) (pe_cal G__law_draw (hr.mono (by walk_at "lev")) rfl (pa_cons (pv 0) (pa_cons (pe_callB call_lenA rfl T.n_len (by decide +kernel) (pa_cons (pv 1) pa_nil)) pa_nil))) (fun _ _ => rfl)))), ?_⟩
  try dsimp only [cxOf, Cx.nox]
  repeat' walk_at "st"
  obtain ⟨v, e1, e2⟩ := at_i (n := dn) n0 n1
  exact q_ixL (sql (ke.out _ _ hn ha)) e2 (q _ v Hn e1 ke so)
theorem c_pick {st c a : Addr} {xs : List V} {H : Hp} {Q : VK} {E : XK} (h1 : StOk st c H) (h2 : H a = some (.lst xs)) (h3 : a ∉ [st, c]) (h4 : 0 < xs.length ∧ xs.length < 1000000) (q : ∀ (i : Nat) (v : V) (H' : Hp), xs[i]? = some v → Kp [st, c] H H' → StOk st c H' → Q v H') :
    sp_pick K [.ref st, .ref a] H Q E := ⟨st, c, a, xs, rfl, h1, h2, h3, h4.1, h4.2, q⟩
set_option hygiene false in
local macro_rules | `(tactic| walk_at "i_c_pick") => `(tactic| intro j v Hn ej ke so)
local macro_rules | `(tactic| walk_at "own") => `(tactic| (refine c_pick (c := ?c) (xs := ?xs) ?a ?b ?e ?d ?_; (case b => walk_at "lift"); (case a => walk_at "st_ok"); (case e => walk_at "nin"); (case d => walk_at "arx2"); walk_at "i_c_pick"))
/-! ### own errors -/
section
variable (P : Program) (w : World) (K : PySem.W.Frag) (mg : Str → Option Value) (base : Heap)
/-- an own error class with one field, as it stands behind the top -/
structure ErrC (x : Str) (C : Addr) (fl : Str) : Prop where
  gC : mg x = some (.ref C)
  ox : OexC K C
  xf : XfC K C
  no : PySem.W.findIn K (.ref C) fl = some none
  cl : (PySem.W.clsIn K C).isSome = true
  ca : PySem.W.findIn K (.ref C) "__class__" = some (some (.builtin "object.__class__"))
  gn : PySem.W.specialIn K (.builtin "object.__class__") "__get__" = some (some (.builtin "getset_descriptor.__get__"))
  tk : PySem.W.takesIn K (.builtin "object.__class__") = some true
  mo : PySem.W.mroIn K C (.type "object") = some true
/-- .. its __init__ -/
def DnE (q : Str) (C : Addr) (st : Stmt) (ps : List Str) : Prop := ∃ f fd, PySem.W.findIn K (.ref C) "__init__" = some (some (.ref f)) ∧ PySem.W.typeIn K (.ref f) = some (.type "function") ∧ Fun K "__init__" q st f fd ∧ Binds K fd ps []
def MakE (C : Addr) (k : Nat) (ps : List Str) (sp : Sp) : Prop := ∃ f fd, PySem.W.findIn K (.ref C) "__init__" = some (some (.ref f)) ∧ PySem.W.typeIn K (.ref f) = some (.type "function") ∧ FnOk P w K mg base CX0 k f fd ps sp ∧ Binds K fd ps []
/-- a def that may raise and keeps its promise -/
def CalX (x : Str) (k : Nat) (ps : List Str) (sp : Sp) : Prop := ∃ f fd, FnOk P w K mg base (L2.CX P w) k f fd ps sp ∧ mg x = some (.ref f) ∧ PySem.W.keepIn K (.ref f) = true ∧ Binds K fd ps []
end
section
variable {P : Program} {w : World} {K : PySem.W.Frag} {mg : Str → Option Value} {base : Heap}
theorem DnE.ok {q : Str} {C : Addr} {st : Stmt} {N ps : List Str} {k : Nat} {sp : Sp} (D : DnE K q C st ps) (S : FnScope N ps (defScope st)) (len : ∀ vs H Q E, sp vs H Q E → vs.length = ps.length)
    (hbody : ∀ (f : Addr) (cdv : Value) (A : Around) (outer : List Env) (s : Shared) (H : Hp) (vs : List V) (Q : VK) (E : XK), Room k (A.deeper (PyProof.Rows.envOfC q (defScope st) s.heap.objs.size f cdv)) → sp vs H Q E →
      ∃ t, PSs (cxOf CX0 P w K mg base N q (defScope st) f cdv A outer s H E).nox (defBody st) t ∧ t { nx := fun _ H' => Q .non H', rt := Q } (start N vs) H) : MakE P w K mg base C (k + 1) ps sp := by
  obtain ⟨f, fd, i, t, F, b⟩ := D
  exact ⟨f, fd, i, t, F.ok S len (hbody f), b⟩
theorem Dn.okX {x : Str} {st : Stmt} {N ps : List Str} {k : Nat} {sp : Sp} (D : Dn K mg x st ps) (S : FnScope N ps (defScope st)) (len : ∀ vs H Q E, sp vs H Q E → vs.length = ps.length)
    (hbody : ∀ (f : Addr) (cdv : Value) (A : Around) (outer : List Env) (s : Shared) (H : Hp) (vs : List V) (Q : VK) (E : XK), Room k (A.deeper (PyProof.Rows.envOfC x (defScope st) s.heap.objs.size f cdv)) → sp vs H Q E →
      ∃ t, PSs (cxOf (L2.CX P w) P w K mg base N x (defScope st) f cdv A outer s H E) (defBody st) t ∧ t { nx := fun _ H' => Q .non H', rt := Q } (start N vs) H) : CalX P w K mg base x (k + 1) ps sp := by
  obtain ⟨f, fd, F, m, b⟩ := D
  exact ⟨f, fd, F.okX S len (hbody f), m, F.kp, b⟩
theorem pe_calX {X : Cx} {x : Str} {k : Nat} {ps : List Str} {sp : Sp} {W : WX} {e : Expr} {es : List Expr} {t : TA} {p pos : Pos} (G : CalX X.prog X.w X.K X.mg X.base x k ps sp) (hr : Room k X.A) (hg : Gl X x) (tk : Takes X W) (ha : PA X (e :: es) t)
    (hdb : (x == ("__debug__" : Str)) = false := by decide) (he : starEach (e :: es) X.env = (false, eval e X.env) :: starEach es X.env := by rfl) (hpl : (backTo pos (starEach es X.env)).any (·.1) = false := by rfl) : PE X (.Call (.Name x p) (e :: es) [] pos) (tCallS sp (WE W) t) := by
  obtain ⟨f, fd, F, m, kp, b⟩ := G
  exact pe_callS F hr hg m kp b (fun σ => passAt tk σ) ha hdb he hpl
theorem takes_def {N : List Str} {x : Str} {sc : Scope} {f : Addr} {cdv : Value} {A : Around} {outer : List Env} {s : Shared} {H : Hp} {E : XK} : Takes (cxOf (L2.CX P w) P w K mg base N x sc f cdv A outer s H E) (fun cls d _ H => E cls d H) := takes_of rfl rfl rfl rfl
theorem passes_def {N : List Str} {x : Str} {sc : Scope} {f : Addr} {cdv : Value} {A : Around} {outer : List Env} {s : Shared} {H : Hp} {E : XK} : PassesOwn (model P w) (cxOf (L2.CX P w) P w K mg base N x sc f cdv A outer s H E).A (cxOf (L2.CX P w) P w K mg base N x sc f cdv A outer s H E).env (cxOf (L2.CX P w) P w K mg base N x sc f cdv A outer s H E).xe := passes_of rfl
theorem hum {A : Around} {k : Nat} {x : Option Value} (hr : Room k A) : (A.mark x).units + 64 < cLine := by
  have h := hu64 hr
  exact h
/-- arguments, with what follows weakened -/
def clo (ta : TA) : TA := fun σ H Q => ∃ Q1 : List V → Hp → Prop, ta σ H Q1 ∧ ∀ vs H1, Q1 vs H1 → Q vs H1
theorem pa_clo {X : Cx} {es : List Expr} {ta : TA} (h : PA X es ta) : PA X es (clo ta) := ⟨fun pos pins s σ H Q I ⟨Q1, h1, k⟩ => thn (h.run pos pins s σ H Q1 I h1) fun us s1 ⟨vs, H1, I1, r, q⟩ => ⟨vs, H1, I1, r, k _ _ q⟩⟩
/-- what the making of an own error hands on -/
def errK (C : Addr) (fl : Str) (Q : XK) (vs : List V) (H : Hp) : Prop := ∃ v, vs = [v] ∧ ∀ d H2, H d = none → Ex H H2 → H2 d = some (.xd [(fl, v)]) → Q (.ref C) (some d) H2
def tErr (C : Addr) (fl : Str) (ta : TA) : L2.St → Hp → XK → Prop := fun σ H Q => ta σ H fun vs H1 => errK C fl Q vs H1
def sp_einit (C : Addr) (fl : Str) : Sp := fun vs H Q _ => ∃ (a : Addr) (v : V), vs = [.ref a, v] ∧ H a = some (exo a C none) ∧ ∀ dx, H dx = none → dx ≠ a → Q .non (upd (upd H dx (exd dx [(fl, v)])) a (exo a C (some dx)))
theorem pmk_err {X : Cx} {x fl : Str} {C : Addr} {k : Nat} {ps : List Str} {e : Expr} {es : List Expr} {ta : TA} {p pos : Pos} (T : ErrC X.K X.mg x C fl) (G : MakE X.prog X.w X.K X.mg X.base C k ps (sp_einit C fl)) (hr : Room (k + 1) X.A) (hg : Gl X x) (ha : PA X (e :: es) ta)
    (hdb : (x == ("__debug__" : Str)) = false := by decide) (he : starEach (e :: es) X.env = (false, eval e X.env) :: starEach es X.env := by rfl) (hpl : (backTo pos (starEach es X.env)).any (·.1) = false := by rfl) : PMk X (.Call (.Name x p) (e :: es) [] pos) (tErr C fl ta) := by
  obtain ⟨f, fd, i, t, F, b⟩ := G
  intro pins s σ H Q I h
  refine pmk_oex T.ox i t F hr b .nil pass0 hg T.gC (pa_clo ha) hdb he hpl pins s σ H Q I ⟨_, h, ?_⟩
  rintro vs H1 ⟨v, rfl, q⟩
  refine ⟨(by show 1 ≤ 1000; decide), fun a ha => ⟨a, v, rfl, upd_same, fun dx n ne => ⟨rfl, dx, [(fl, v)], upd_same, ?_, ?_, ?_⟩⟩⟩
  · rw [upd_ne ne]
    exact upd_same
  · rw [upd_ne ne] at n
    exact n
  · rw [upd_ne ne] at n
    refine q dx _ n (fun b o hb => ?_) upd_same
    rw [upd_ne (ne_of_none hb n), del_ne (ne_of_none hb ha), upd_ne (ne_of_none hb ha), upd_ne (ne_of_none hb n), upd_ne (ne_of_none hb ha)]
    exact hb
/-- raise C(e) -/
def tRaiseE (C : Addr) (fl : Str) (W : WX) (ta : TA) : TS := fun _ σ H => tErr C fl ta σ H fun cls d H' => W cls d σ H'
theorem ps_err {X : Cx} {x fl : Str} {C : Addr} {k : Nat} {ps : List Str} {W : WX} {e : Expr} {ta : TA} {p pos pos' : Pos} (hc : X.calm = true) (tk : Takes X W) (T : ErrC X.K X.mg x C fl) (G : MakE X.prog X.w X.K X.mg X.base C k ps (sp_einit C fl)) (hr : Room (k + 1) X.A) (hg : Gl X x) (ha : PA X [e] ta)
    (hdb : (x == ("__debug__" : Str)) = false := by decide) (he : starEach [e] X.env = (false, eval e X.env) :: starEach [] X.env := by rfl) (hpl : (backTo pos (starEach [] X.env)).any (·.1) = false := by rfl) :
    PS X (.Raise (some (.Call (.Name x p) [e] [] pos)) none pos') (tRaiseE C fl W ta) := ps_raise hc tk (pmk_err T G hr hg ha hdb he hpl)
/-- e.f, e the error that the suite holds -/
def tXfE (K : PySem.W.Frag) (a : Addr) (cls : Value) (d : Option Addr) (f : Str) (te : TE) : TE := fun σ H Q => ∃ C, XfC K C ∧ PySem.W.findIn K (.ref C) f = some none ∧ tXf a cls d C f te σ H Q
theorem pe_xfE {X : Cx} {a : Addr} {oe : Obj} {cls : Value} {d : Option Addr} {pn : List (Addr × Obj)} {e : Expr} {te : TE} {pos : Pos} {n : Str} (hz : Zc cls d oe) (hf : ∃ vs, oe.data = .fields vs) (he : PE (X.suite a ((a, oe) :: pn)) e te)
    (hb : attributeBase e n X.env (eval e X.env) = eval e X.env := by rfl) : PE (X.suite a ((a, oe) :: pn)) (.Attribute e n pos) (tXfE X.K a cls d n te) :=
  ⟨fun pins s σ H Q I ⟨_, x, no, h⟩ => (pe_xf x no hz hf he hb).run pins s σ H Q I h⟩
/-- isinstance(e, c) of it -/
def rIsX (K : PySem.W.Frag) (a : Addr) (cls : Value) (d : Option Addr) : List V → Hp → VK → Prop := fun xs H Q => ∃ (D dd : Addr) (x fl : Str) (mg : Str → Option Value) (fs : List (Str × V)) (c : V) (cv : Value) (b : Bool), cls = .ref D ∧ d = some dd ∧ ErrC K mg x D fl ∧ H dd = some (.xd fs) ∧ xs = [.ref a, c] ∧ (∀ u, RelV c u → u = cv) ∧
  PySem.W.kitOne K (.ref D) cv = some b ∧ Q (.bl b) H
theorem call_isX {X : Cx} {a : Addr} {oe : Obj} {cls : Value} {d : Option Addr} {pn : List (Addr × Obj)} (hz : Zc cls d oe) (hf : ∃ vs, oe.data = .fields vs) : CallR (X.suite a ((a, oe) :: pn)) (.builtin "isinstance") (rIsX X.K a cls d) := by
  intro pins s σ H xs us Q I r h
  obtain ⟨D, dd, x, fl, mg, fs, c, cv, b, rfl, rfl, T, hdd, rfl, hcv, e, q⟩ := h
  cases r with
  | cons rx rr =>
    cases rr with
    | cons rt rr =>
      cases rr
      cases rx
      obtain rfl := hcv _ rt
      have hp := (I.pin (a, oe) (List.mem_append_left _ List.mem_cons_self)).1
      obtain ⟨vs, hv⟩ := hf
      have hx : ObjOk X.prog X.w H s.heap dd (.xd fs) := I.hok dd _ hdd
      obtain ⟨mA, hns, _⟩ := hx
      obtain ⟨od, ho, _⟩ := lookIn_ns hns
      have J : PySem.W.InstAt s.heap a oe D (some od) := ⟨hp, hz.1, by unfold PySem.W.notCls; rw [hv], by rw [hz.2]; exact ho⟩
      exact PySem.W.kia_one (PySem.W.kitx_exc T.cl T.xf.ga T.xf.gg T.xf.exC T.ca T.gn T.tk T.mo) I.kIn J e (fun z => nomatch z) fun tk => ⟨.bl b, H, I.kept (t' := tk) fun _ _ z => z, rfl, q⟩
theorem exm_own {C D : Addr} (hs : PySem.W.subIn K (.ref D) (.type "BaseException") = some true) (hi : PySem.W.isClsIn K D = true) (ht : PySem.W.typeIn K (.ref D) = some (.type "type")) {b : Bool} (h : PySem.W.subIn K (.ref C) (.ref D) = some b) : PySem.W.exmOne K (.ref C) (.ref D) = some b := by
  have e1 : (PySem.W.subIn K (.ref D) (.type "BaseException") == some true) = true := by rw [hs]; rfl
  have h2 : (PySem.W.clsIn K D).isSome = true := hi
  have e2 : ((PySem.W.clsIn K D).isSome && PySem.W.typeIn K (.ref D) == some (.type "type")) = true := by rw [h2, ht]; rfl
  show (if _ then (if _ then _ else none) else none) = some b
  rw [if_pos e1, if_pos e2]
  exact h
end
section
variable {K : PySem.W.Frag} {σ : L2.St} {H : Hp} {Q : VK} {te : TE} {tr : TA} {C : Addr} {fl : Str} {W : WX} {D : Ends}
theorem r_callS {sp : Sp} (q : tr σ H fun vs H1 => sp vs H1 Q (WE W σ)) : tCallS sp (WE W) tr σ H Q := q
def raiK (C : Addr) (fl : Str) (W : WX) (σ : L2.St) (vs : List V) (H : Hp) : Prop := errK C fl (fun cls d H' => W cls d σ H') vs H
theorem r_raise (q : tr σ H fun vs H1 => raiK C fl W σ vs H1) : tRaiseE C fl W tr D σ H := q
theorem q_raise {v : V} (q : ∀ d H2, H d = none → Ex H H2 → H2 d = some (.xd [(fl, v)]) → W (.ref C) (some d) σ H2) : raiK C fl W σ [v] H := ⟨v, rfl, q⟩
theorem r_try {tb : WX → TS} {W : Ends → WX} (q : tb (W D) D σ H) : (fun D σ H => tb (W D) D σ H) D σ H := q
def xfK (K : PySem.W.Frag) (a : Addr) (cls : Value) (d : Option Addr) (f : Str) (Q : VK) (x : V) (H : Hp) : Prop := x = .ref a ∧ ∃ (C dd : Addr) (fs : List (Str × V)) (v : V), cls = .ref C ∧ XfC K C ∧ PySem.W.findIn K (.ref C) f = some none ∧ d = some dd ∧ H dd = some (.xd fs) ∧ fs.lookup f = some v ∧ Q v H
theorem q_isX {a D dd : Addr} {x fl : Str} {mg : Str → Option Value} {fs : List (Str × V)} {c : V} {cv : Value} {b : Bool} (T : ErrC K mg x D fl) (h : H dd = some (.xd fs)) (hc : ∀ u, RelV c u → u = cv) (e : PySem.W.kitOne K (.ref D) cv = some b) (q : Q (.bl b) H) :
    rIsX K a (.ref D) (some dd) [.ref a, c] H Q := ⟨D, dd, x, fl, mg, fs, c, cv, b, rfl, rfl, T, h, rfl, hc, e, q⟩
/-- e.f where e stands in a slot -/
theorem q_xfE {a C dd : Addr} {f : Str} {fs : List (Str × V)} {v : V} {i : Nat} (hi : σ[i]? = some (some (.ref a))) (x : XfC K C) (no : PySem.W.findIn K (.ref C) f = some none) (h : H dd = some (.xd fs)) (l : fs.lookup f = some v) (q : Q v H) : tXfE K a (.ref C) (some dd) f (tVar i) σ H Q :=
  ⟨C, x, no, .ref a, hi, rfl, rfl, dd, fs, v, rfl, h, l, q⟩
end
local macro_rules | `(tactic| walk_at "own") => `(tactic| first
  | with_reducible refine r_callS ?_
  | with_reducible refine r_raise ?_
  | with_reducible refine q_raise ?_)
/-! ### min of a list of pairs of ints (tuples): the comparison looks at the heap, so the loop is walked here with what stands there -/
def ltP (p q : Int × Int) : Bool := if p.1 = q.1 then decide (p.2 < q.2) else decide (p.1 < q.1)
theorem ltP_tr {p q r : Int × Int} (h1 : ltP p q = true) (h2 : ltP r q = false) : ltP r p = false := by
  unfold ltP at *
  split at h1 <;> split at h2 <;> split <;> simp only [decide_eq_true_eq, decide_eq_false_iff_not] at * <;> omega
theorem ltP_irr (p : Int × Int) : ltP p p = false := by simp [ltP]
theorem best_ltP (f : Nat → Int × Int) : ∀ k, PySem.argBest (fun i j => ltP (f i) (f j)) k ≤ k ∧ ∀ j, j ≤ k → ltP (f j) (f (PySem.argBest (fun i j => ltP (f i) (f j)) k)) = false
  | 0 => ⟨Nat.le_refl _, fun j hj => by rw [Nat.le_zero.mp hj]; exact ltP_irr _⟩
  | k + 1 => by
    obtain ⟨h1, h2⟩ := best_ltP f k
    unfold PySem.argBest
    cases hb : ltP (f (k + 1)) (f (PySem.argBest (fun i j => ltP (f i) (f j)) k)) with
    | true =>
      rw [if_pos rfl]
      refine ⟨Nat.le_refl _, fun j hj => ?_⟩
      by_cases e : j = k + 1
      · rw [e]; exact ltP_irr _
      · exact ltP_tr hb (h2 j (by omega))
    | false =>
      rw [if_neg Bool.false_ne_true]
      refine ⟨by omega, fun j hj => ?_⟩
      by_cases e : j = k + 1
      · rw [e]; exact hb
      · exact h2 j (by omega)
section
open PySem
variable {prog : Program} {w : World} {A : Around} {E : Value → Shared → Prop} {R : Result → Shared → Prop} {I S : Addr} {fp wr : List Addr} {n : Nat} {P : Nat → Value → Prop} {St G : Nat → Heap → Prop} {bt : Nat → Nat → Bool}
/-- what must stay of the heap for the comparison -/
structure Gd (prog : Program) (w : World) (A : Around) (wr : List Addr) (S : Addr) (P : Nat → Value → Prop) (bt : Nat → Nat → Bool) (G : Heap → Prop) : Prop where
  keep : ∀ h h', G h → (∀ b o, b ∉ wr → b ≠ S → h.get? b = some o → h'.get? b = some o) → G h'
  cmp : ∀ i j vi vj (s : Shared) (Q : Value → Shared → Prop) (E : Value → Shared → Prop), G s.heap → P i vi → P j vj → Q (.bool (bt i j)) s → wpAny (model prog w) A (richCompare .Lt vi vj) Q E s
theorem minT_loop {G : Heap → Prop} (W : Walks prog w A.in1 I fp wr n P St) (g : Gd prog w A.in1 wr S P bt G) (nf : S ∉ fp) : ∀ (k j : Nat) (s : Shared) (vb : Value) (c : Nat), n = j + 1 + k → St (j + 1) s.heap → G s.heap → P (argBest bt j) vb →
    s.heap.get? S = some (⟨.type "list", none, .seq #[vb, vb] c, #[]⟩ : Obj) → (∀ v h' tk, P (argBest bt (n - 1)) v → (∀ b o, b ∉ wr → b ≠ S → s.heap.get? b = some o → h'.get? b = some o) → R (.ok (.ret v)) { s with heap := h', toks := tk }) →
    codeAny (model prog w) A (.builtin "min.loop" ⟨[.ref I, .none, .ref S], []⟩) R s := by
  have nw : S ∉ wr := fun z => nf (W.sub _ z)
  have nm : (toString "min" ++ toString ".loop" : String) = "min.loop" := by decide
  have oth : ∀ {h : Heap} {f : Obj → Obj} {b : Addr}, b ≠ S → (h.update S f).get? b = h.get? b := fun {h f b} z => Heap.get?_update_other _ _ (Ne.symm z)
  intro k; induction k with
  | zero =>
    intro j s vb c en st hg pb hS hR
    refine codeAny_builtin F.entry_min_loop ?_; rw [Around.under_plainId F.plain_min_loop _]; show wpAny _ A.in1 (seqItems? (.ref S) >>= _) _ _ s
    refine wpAny_bind (wpAny_seqItems hS rfl ?_); show wpAny _ A.in1 (tryCatch (pyNext (.ref I)) _ >>= _) _ _ s
    refine wpAny_bind (wpAny_tryCatch (W.done s _ _ (by rw [en]; exact st) fun h1 t1 k1 => ?_)); show wpAny _ A.in1 (updateSeq S (fun _ => #[]) >>= _) _ _ _
    refine wpAny_bind (wpAny_updateSeq (k1 S _ nw hS) rfl (wpAny_bind (wpAny_letGo (wpAny_pure (hR vb _ t1 ?_ fun b o hb hs e => (oth hs).trans (k1 b o hb e))))))
    rw [en]; exact pb
  | succ k ih =>
    intro j s vb c en st hg pb hS hR
    refine codeAny_builtin F.entry_min_loop ?_; rw [Around.under_plainId F.plain_min_loop _]; show wpAny _ A.in1 (seqItems? (.ref S) >>= _) _ _ s
    refine wpAny_bind (wpAny_seqItems hS rfl ?_); show wpAny _ A.in1 (tryCatch (pyNext (.ref I)) _ >>= _) _ _ s
    refine wpAny_bind (wpAny_tryCatch (W.item (j + 1) s _ _ (by omega) st fun v h1 t1 pv st1 k1 => ?_))
    have hS1 := k1 S _ nw hS
    have hg1 : G h1 := g.keep _ _ hg fun b o hb _ e => k1 b o hb e
    show wpAny _ A.in1 (tryCatch (holding [v, v] (richCompare .Lt v vb >>= _)) _ >>= _) _ _ _; refine wpAny_bind (wpAny_tryCatch (wpAny_holding (wpAny_bind (g.cmp (j + 1) (argBest bt j) v vb _ _ _ hg1 pv pb ?_))))
    refine wpAny_bind (wpAny_holding (wpAny_truthy_bool (wpAny_bind (wpAny_letGo (wpAny_pure ?_)))))
    have ab : ∀ b, bt (j + 1) (argBest bt j) = b → argBest bt (j + 1) = if b = true then j + 1 else argBest bt j := fun b e => by simp only [argBest, e]
    cases hb : bt (j + 1) (argBest bt j) with
    | true =>
      simp only [if_true]; refine wpAny_bind (wpAny_updateSeq hS1 rfl (wpAny_bind (wpAny_letGo ?_)))
      rw [nm]; refine wpAny_pure ⟨plainId_quiet F.plain_min_loop _, ih (j + 1) _ v _ (by omega) (W.frame _ _ _ st1 fun b hf o e => (oth fun z => nf (z ▸ hf)).trans e) (g.keep _ _ hg1 fun b o _ hs e => (oth hs).trans e) (by rw [ab _ hb]; exact pv) (Heap.get?_update_self _ hS1 rfl) fun v2 h2 t2 p2 k2 => ?_⟩
      exact hR v2 h2 t2 p2 fun b o hbw hs e => k2 b o hbw hs ((oth hs).trans (k1 b o hbw e))
    | false =>
      simp only [Bool.false_eq_true, if_false]; refine wpAny_bind (wpAny_letGo ?_)
      rw [nm]; refine wpAny_pure ⟨plainId_quiet F.plain_min_loop _, ih (j + 1) _ vb c (by omega) st1 hg1 (by rw [ab _ hb]; exact pb) hS1 fun v2 h2 t2 p2 k2 => ?_⟩
      exact hR v2 h2 t2 p2 fun b o hbw hs e => k2 b o hbw hs (k1 b o hbw e)
theorem minT_first {G : Heap → Prop} (W : Walks prog w A.in1 I fp wr n P St) (g : Gd prog w A.in1 wr S P bt G) (nf : S ∉ fp) (n0 : 0 < n) {s : Shared} {c : Nat} (st : St 0 s.heap) (hg : G s.heap) (hS : s.heap.get? S = some (⟨.type "list", none, .seq #[] c, #[]⟩ : Obj))
    (hR : ∀ v h' tk, P (argBest bt (n - 1)) v → (∀ b o, b ∉ wr → b ≠ S → s.heap.get? b = some o → h'.get? b = some o) → R (.ok (.ret v)) { s with heap := h', toks := tk }) : codeAny (model prog w) A (.builtin "min.loop" ⟨[.ref I, .none, .ref S], []⟩) R s := by
  have nw : S ∉ wr := fun z => nf (W.sub _ z)
  have nm : (toString "min" ++ toString ".loop" : String) = "min.loop" := by decide
  have oth : ∀ {h : Heap} {f : Obj → Obj} {b : Addr}, b ≠ S → (h.update S f).get? b = h.get? b := fun {h f b} z => Heap.get?_update_other _ _ (Ne.symm z)
  refine codeAny_builtin F.entry_min_loop ?_; rw [Around.under_plainId F.plain_min_loop _]; show wpAny _ A.in1 (seqItems? (.ref S) >>= _) _ _ s
  refine wpAny_bind (wpAny_seqItems hS rfl ?_); show wpAny _ A.in1 (tryCatch (pyNext (.ref I)) _ >>= _) _ _ s
  refine wpAny_bind (wpAny_tryCatch (W.item 0 s _ _ n0 st fun v h1 t1 pv st1 k1 => ?_))
  have hS1 := k1 S _ nw hS
  show wpAny _ A.in1 (updateSeq S (fun _ => #[v, v]) >>= _) _ _ _; refine wpAny_bind (wpAny_updateSeq hS1 rfl ?_)
  rw [nm]; refine wpAny_pure ⟨plainId_quiet F.plain_min_loop _, minT_loop W g nf (n - 1) 0 _ v _ (by omega) (W.frame _ _ _ st1 fun b hf o e => (oth fun z => nf (z ▸ hf)).trans e) (g.keep _ _ (g.keep _ _ hg fun b o hb _ e => k1 b o hb e) fun b o _ hs e => (oth hs).trans e) pv (Heap.get?_update_self _ hS1 rfl) fun v2 h2 t2 p2 k2 => ?_⟩
  exact hR v2 h2 t2 p2 fun b o hbw hs e => k2 b o hbw hs ((oth hs).trans (k1 b o hbw e))
end
/-- a pair of ints at v -/
def TupII (H : Hp) (v : V) (p : Int × Int) : Prop := ∃ q, v = .ref q ∧ H q = some (.tup [.int p.1, .int p.2])
def rMinT : List V → Hp → VK → Prop := fun vs H Q => ∃ (a : Addr) (xs : List V) (ps : List (Int × Int)), vs = [.ref a] ∧ H a = some (.lst xs) ∧ Paired (TupII H) xs ps ∧ 0 < ps.length ∧ ∀ (i : Nat) v p, xs[i]? = some v → ps[i]? = some p → (∀ r ∈ ps, ltP r p = false) → Q v H
theorem lt_pair {A : Around} {s : Shared} {l b : Addr} {p q : Int × Int} {t1 t2 t3 t4 : PySem.Tok} (hl : s.heap.IsTuple l #[.int p.1 t1, .int p.2 t2]) (hb : s.heap.IsTuple b #[.int q.1 t3, .int q.2 t4]) (hu : A.units < cLine) : Ob.RcOp .Lt A s (.ref l) (.ref b) (ltP p q) := by
  have h := Ob.RcOp.tuples_lt (e := fun j => if j = 0 then p.1 == q.1 else p.2 == q.2) (r := fun j => if j = 0 then decide (p.1 < q.1) else decide (p.2 < q.2)) hl hb hu (fun j h1 h2 => ?_) (fun j h1 h2 _ => ?_)
  · have e : Ob.lexAt (fun j => if j = 0 then p.1 == q.1 else p.2 == q.2) (fun j => if j = 0 then decide (p.1 < q.1) else decide (p.2 < q.2)) (decide ((#[Value.int p.1 t1, Value.int p.2 t2] : Array Value).size < (#[Value.int q.1 t3, Value.int q.2 t4] : Array Value).size)) 0 (min (#[Value.int p.1 t1, Value.int p.2 t2] : Array Value).size (#[Value.int q.1 t3, Value.int q.2 t4] : Array Value).size) = ltP p q := by
      show Ob.lexAt _ _ _ 0 2 = _
      simp only [Ob.lexAt, ltP]
      by_cases c : p.1 = q.1
      · by_cases d : p.2 = q.2
        · simp [c, d]
        · simp [c, d]
      · simp [c]
    rw [e] at h
    exact h
  · have : j = 0 ∨ j = 1 := by simp at h1; omega
    rcases this with rfl | rfl
    · exact PySem.SeqAt.EqAt.int_int _ _ _ _
    · exact PySem.SeqAt.EqAt.int_int _ _ _ _
  · have : j = 0 ∨ j = 1 := by simp at h1; omega
    rcases this with rfl | rfl
    · exact Ob.RcOp.lt_int _ _ _ _
    · exact Ob.RcOp.lt_int _ _ _ _
theorem paired_at {α β : Type} {F : α → β → Prop} : ∀ {xs : List α} {ys : List β} {i : Nat} {x : α}, Paired F xs ys → xs[i]? = some x → ∃ y, ys[i]? = some y ∧ F x y
  | _, _, _, _, .nil, h => by simp at h
  | _, _, 0, _, .cons a t, h => by
    simp at h
    subst h
    exact ⟨_, rfl, a⟩
  | _, _, i + 1, _, .cons a t, h => by
    obtain ⟨y, h1, h2⟩ := paired_at (i := i) t (by simpa using h)
    exact ⟨y, by simpa using h1, h2⟩
theorem paired_len {α β : Type} {F : α → β → Prop} : ∀ {xs : List α} {ys : List β}, Paired F xs ys → xs.length = ys.length
  | _, _, .nil => rfl
  | _, _, .cons _ t => by rw [List.length_cons, List.length_cons, paired_len t]
theorem cr_minT {X : Cx} (hc : X.calm = true) (hu : X.A.units + 64 < cLine) : CallR X (.builtin "min") rMinT := by
  intro pins s σ H vs us Q I r h
  obtain ⟨a, xs, ps, rfl, hH, hp, n0, q⟩ := h
  rw [Vals.ref1 r]
  obtain ⟨z, its, nn, rv, hl, e⟩ := I.lstM hH
  have hlx := paired_len hp
  have hli := rv.length
  -- the objects of the pairs
  have ob : ∀ (i : Nat) (v : V) (p : Int × Int), xs[i]? = some v → ps[i]? = some p → ∃ (q : Addr) (t u : PySem.Tok), its[i]? = some (Value.ref q) ∧ s.heap.IsTuple q #[Value.int p.1 t, Value.int p.2 u] := by
    intro i v p hv hpi
    obtain ⟨p', hp', ht⟩ := paired_at hp hv
    have ep : p' = p := Option.some.inj (hp'.symm.trans hpi)
    subst ep
    obtain ⟨q, eq, hq⟩ := ht
    subst eq
    obtain ⟨u, hu, ru⟩ := paired_at (F := RelV) rv hv
    have eu : u = Value.ref q := ru
    subst eu
    obtain ⟨its2, r2, ht2, z2⟩ := I.tuple (SqT.of hq)
    cases r2 with
    | cons h1 r3 =>
      cases r3 with
      | cons h2 r4 =>
        cases r4
        obtain ⟨t1, e1⟩ := h1
        obtain ⟨t2, e2⟩ := h2
        subst e1
        subst e2
        exact ⟨q, t1, t2, hu, ht2⟩
  let f : Nat → Int × Int := fun i => ps.getD i (0, 0)
  let P : Nat → Value → Prop := fun i v => its.toArray[i]? = some v
  have hsz : its.toArray.size = ps.length := by rw [List.size_toArray]; omega
  have nmn : (toString "min" ++ toString ".loop" : String) = "min.loop" := by decide
  have ilt : ∀ (i : Nat) (v : Value), its.toArray[i]? = some v → i < ps.length := fun i v hv => by
    have := (Array.getElem?_eq_some_iff.mp hv).1
    omega
  let G : Heap → Prop := fun h => ∀ (i : Nat) (p : Int × Int), ps[i]? = some p → ∃ (q : Addr) (t u : PySem.Tok), its[i]? = some (Value.ref q) ∧ q < s.heap.objs.size ∧ h.IsTuple q #[Value.int p.1 t, Value.int p.2 u]
  have g0 : G s.heap := fun i p hpi => by
    have hx : i < xs.length := by rw [hlx]; exact (List.getElem?_eq_some_iff.mp hpi).1
    obtain ⟨q, t, u, h1, h2⟩ := ob i _ p (List.getElem?_eq_getElem hx) hpi
    obtain ⟨o, ho, h3⟩ := h2
    exact ⟨q, t, u, h1, Heap.lt_size ho, o, ho, h3⟩
  have gd : ∀ (I S : Addr) (wr : List Addr), (∀ b ∈ wr, s.heap.objs.size ≤ b) → s.heap.objs.size ≤ S → Gd X.prog X.w X.A.in1 wr S P (fun i j => ltP (f i) (f j)) G := fun I S wr hw hS => {
    keep := fun h h' g k i p hpi => by
      obtain ⟨q, t, u, h1, h2, o, ho, h3⟩ := g i p hpi
      exact ⟨q, t, u, h1, h2, o, k q o (fun z => Nat.lt_irrefl _ (Nat.lt_of_lt_of_le h2 (hw q z))) (fun z => Nat.lt_irrefl _ (Nat.lt_of_lt_of_le h2 (z ▸ hS))) ho, h3⟩
    cmp := fun i j vi vj s1 Q1 E1 g hi hj hq => by
      have li := ilt i vi hi
      have lj := ilt j vj hj
      obtain ⟨qi, t1, t2, h1, _, h3⟩ := g i ps[i] (List.getElem?_eq_getElem li)
      obtain ⟨qj, t3, t4, h4, _, h6⟩ := g j ps[j] (List.getElem?_eq_getElem lj)
      have ei : vi = Value.ref qi := Option.some.inj (hi.symm.trans ((List.getElem?_toArray ..).trans h1))
      have ej : vj = Value.ref qj := Option.some.inj (hj.symm.trans ((List.getElem?_toArray ..).trans h4))
      subst ei
      subst ej
      refine lt_pair h3 h6 (by show X.A.units + 1 < cLine; omega) X.prog X.w E1 Q1 ?_
      have fi : f i = ps[i] := by show ps.getD i (0, 0) = _; rw [List.getD_eq_getElem?_getD, List.getElem?_eq_getElem li]; rfl
      have fj : f j = ps[j] := by show ps.getD j (0, 0) = _; rw [List.getD_eq_getElem?_getD, List.getElem?_eq_getElem lj]; rfl
      rw [← fi, ← fj]
      exact hq }
  have hL : s.heap.IsList a its.toArray := ⟨_, e, rfl, nn, rfl⟩
  refine PySem.call_function_tree PySem.F.kind_min PySem.F.plain_min PySem.F.entry_min (PySem.F.args_min1 _) ?_; show wpAny _ X.A.in1 (Builtin.Builtins.bindParams "min" ["key", "default"] 0 ⟨[], []⟩ >>= _) _ _ s
  refine PySem.wpAny_bind (PySem.wpAny_of_eq (show Builtin.Builtins.bindParams "min" ["key", "default"] 0 ⟨[], []⟩ = pure [none, none] from rfl) (PySem.wpAny_bind (PySem.wpAny_pure (PySem.wpAny_bind (PySem.wpAny_pyIter_list hL ?_)))))
  refine PySem.wpAny_bind (PySem.wpAny_newObj_type ?_)
  have al : a < s.heap.objs.size := Heap.lt_size e
  have hs1 : ((s.heap.push (⟨.type "list_iterator", none, .fields #[.ref a, .int 0 0], #[]⟩ : Obj)).objs.size) = s.heap.objs.size + 1 := by rw [Heap.size_push]
  rw [nmn]
  refine PySem.wpAny_pure ⟨PySem.plainId_quiet PySem.F.plain_min_loop _, minT_first (Walks.list (A := X.A.in1) (I.ok.hd hc) s.heap.objs.size a (Nat.ne_of_lt al) its.toArray) (gd s.heap.objs.size _ [s.heap.objs.size] (fun b hb => by rw [List.mem_singleton.mp hb]; exact Nat.le_refl _) (by rw [hs1]; exact Nat.le_succ _)) ?_ (by rw [hsz]; exact n0) ?_ ?_ (Heap.get?_push_size _ rfl) fun v h' tk pv k => ?_⟩
  · intro hm
    rw [hs1] at hm
    rcases List.mem_cons.mp hm with z | z
    · exact Nat.succ_ne_self _ z
    · have e2 := List.mem_singleton.mp z
      rw [← e2] at al
      exact Nat.lt_irrefl _ (Nat.lt_of_succ_lt al)
  · exact ⟨⟨_, Heap.get?_push_of_some _ (Heap.get?_push_size _ rfl), rfl, rfl⟩, (hL.push _).push _⟩
  · intro i p hpi
    obtain ⟨q, t, u, h1, h2, o, ho, h3⟩ := g0 i p hpi
    exact ⟨q, t, u, h1, h2, o, Heap.get?_push_of_some _ (Heap.get?_push_of_some _ ho), h3⟩
  · have bst := best_ltP f (its.toArray.size - 1)
    generalize PySem.argBest (fun i j => ltP (f i) (f j)) (its.toArray.size - 1) = m at pv bst
    have lm := ilt m v pv
    have lx : m < xs.length := by rw [hlx]; exact lm
    obtain ⟨u, hu, ru⟩ := paired_at (F := RelV) rv (List.getElem?_eq_getElem lx)
    have eu : u = v := Option.some.inj ((hu.symm.trans (List.getElem?_toArray ..).symm).trans pv)
    subst eu
    refine ⟨xs[m], H, I.kept (t' := tk) fun b o hb => ?_, ru, q m xs[m] ps[m] (List.getElem?_eq_getElem lx) (List.getElem?_eq_getElem lm) fun r hr => ?_⟩
    · have lb := Heap.lt_size hb
      refine k b o (fun z => ?_) (fun z => ?_) (Heap.get?_push_of_some _ (Heap.get?_push_of_some _ hb))
      · rw [List.mem_singleton.mp z] at lb
        exact Nat.lt_irrefl _ lb
      · rw [z, hs1] at lb
        exact Nat.lt_irrefl _ (Nat.lt_of_succ_lt lb)
    · obtain ⟨j, hj, e2⟩ := List.mem_iff_getElem.mp hr
      have := bst.2 j (by omega)
      have fj : f j = ps[j] := by show ps.getD j (0, 0) = _; rw [List.getD_eq_getElem?_getD, List.getElem?_eq_getElem hj]; rfl
      have fm : f m = ps[m] := by show ps.getD m (0, 0) = _; rw [List.getD_eq_getElem?_getD, List.getElem?_eq_getElem lm]; rfl
      rw [fj, fm, e2] at this
      exact this
/-! ### links between vertices, told as natural numbers; a row of distances -/
abbrev Es := List (Nat × Nat)
def Adj (es : Es) (u v : Nat) : Prop := (u, v) ∈ es ∨ (v, u) ∈ es
theorem Adj.sym {es : Es} {u v : Nat} (h : Adj es u v) : Adj es v u := h.elim .inr .inl
def Val (es : Es) (n : Nat) : Prop := ∀ e ∈ es, e.1 < e.2 ∧ e.2 < n
theorem Val.adj {es : Es} {n u v : Nat} (h : Val es n) (a : Adj es u v) : u < n ∧ v < n ∧ u ≠ v := by
  rcases a with a | a
  · have := h _ a
    simp only at this
    omega
  · have := h _ a
    simp only at this
    omega
def dAt (f : List Int) (v : Nat) : Int := f.getD v (-1)
theorem dAt_in {f : List Int} {v : Nat} (h : 0 ≤ dAt f v) : v < f.length := by
  by_cases hv : v < f.length
  · exact hv
  · unfold dAt at h
    rw [List.getD_eq_getElem?_getD, List.getElem?_eq_none (by omega)] at h
    simp at h
theorem dAt_some {f : List Int} {v : Nat} (h : v < f.length) : f[v]? = some (dAt f v) := by
  unfold dAt
  rw [List.getD_eq_getElem?_getD, List.getElem?_eq_getElem h]
  rfl
theorem dAt_set {f : List Int} {v w : Nat} {x : Int} (h : w < f.length) : dAt (f.set w x) v = if v = w then x else dAt f v := by
  unfold dAt
  rw [List.getD_eq_getElem?_getD, List.getD_eq_getElem?_getD]
  by_cases e : v = w
  · subst e
    rw [if_pos rfl, List.getElem?_set_self h]
    rfl
  · rw [if_neg e, List.getElem?_set_ne (Ne.symm e)]
structure IsD (es : Es) (n g : Nat) (f : List Int) : Prop where
  len : f.length = n
  go : dAt f g = 0
  zero : ∀ v, dAt f v = 0 → v = g
  low : ∀ v, -1 ≤ dAt f v
  edge : ∀ a b, Adj es a b → 0 ≤ dAt f a → 0 ≤ dAt f b ∧ dAt f b ≤ dAt f a + 1
  pre : ∀ v, 0 < dAt f v → ∃ u, Adj es u v ∧ dAt f u = dAt f v - 1
theorem isD_step {es : Es} {n g : Nat} {f h : List Int} (F : IsD es n g f) (G : IsD es n g h) : ∀ (k : Nat) (v : Nat), (dAt f v = k → dAt h v = k) ∧ (dAt h v = k → dAt f v = k) := by
  have one : ∀ {f h : List Int}, IsD es n g f → IsD es n g h → ∀ k : Nat, (∀ j, j < k → ∀ v, (dAt f v = (j : Nat) → dAt h v = (j : Nat)) ∧ (dAt h v = (j : Nat) → dAt f v = (j : Nat))) → ∀ v, dAt f v = (k : Nat) → dAt h v = (k : Nat) := by
    intro f h F G k ih v hv
    by_cases h0 : k = 0
    · subst h0
      have := F.zero v (by simpa using hv)
      subst this
      simpa using G.go
    · obtain ⟨u, a, hu⟩ := F.pre v (by omega)
      have hu' : dAt f u = ((k - 1 : Nat) : Int) := by omega
      have gu := (ih (k - 1) (by omega) u).1 hu'
      have ge := G.edge u v a (by omega)
      by_cases e : dAt h v = k
      · exact e
      · exfalso
        have hj : dAt h v = (((dAt h v).toNat : Nat) : Int) := by omega
        have := (ih (dAt h v).toNat (by omega) v).2 hj
        omega
  intro k
  induction k using Nat.strongRecOn with
  | _ k ih => exact fun v => ⟨one F G k ih v, one G F k (fun j hj v => ⟨(ih j hj v).2, (ih j hj v).1⟩) v⟩
theorem isD_eq {es : Es} {n g : Nat} {f h : List Int} (F : IsD es n g f) (G : IsD es n g h) : f = h := by
  have at_ : ∀ v, dAt f v = dAt h v := fun v => by
    have l1 := F.low v
    have l2 := G.low v
    by_cases c : 0 ≤ dAt f v
    · have := ((isD_step F G) (dAt f v).toNat v).1 (by omega)
      omega
    · by_cases d : 0 ≤ dAt h v
      · have := ((isD_step F G) (dAt h v).toNat v).2 (by omega)
        omega
      · omega
  refine List.ext_getElem (by rw [F.len, G.len]) fun i h1 h2 => ?_
  have := at_ i
  unfold dAt at this
  rw [List.getD_eq_getElem?_getD, List.getD_eq_getElem?_getD, List.getElem?_eq_getElem h1, List.getElem?_eq_getElem h2] at this
  exact this
theorem filt_lt {α : Type} {p q : α → Bool} {w : α} : ∀ {l : List α}, (∀ x, p x = true → q x = true) → w ∈ l → q w = true → p w = false → (l.filter p).length < (l.filter q).length
  | [], _, h, _, _ => absurd h List.not_mem_nil
  | x :: l, hi, h, hq, hp => by
    have le : ∀ l : List α, (l.filter p).length ≤ (l.filter q).length := by
      intro l
      induction l with
      | nil => simp
      | cons y l ih =>
        rw [List.filter_cons, List.filter_cons]
        cases e : p y with
        | true => rw [if_pos rfl, if_pos (hi y e), List.length_cons, List.length_cons]; omega
        | false =>
          rw [if_neg Bool.false_ne_true]
          split
          · rw [List.length_cons]; omega
          · exact ih
    rw [List.filter_cons, List.filter_cons]
    rcases List.mem_cons.mp h with e | hm
    · subst e
      rw [hp, hq, if_neg Bool.false_ne_true, if_pos rfl, List.length_cons]
      have := le l
      omega
    · have ih := filt_lt hi hm hq hp
      cases e : p x with
      | true => rw [if_pos rfl, if_pos (hi x e), List.length_cons, List.length_cons]; omega
      | false =>
        rw [if_neg Bool.false_ne_true]
        split
        · rw [List.length_cons]; omega
        · exact ih
theorem isD_desc {es : Es} {n g : Nat} {f : List Int} (F : IsD es n g f) : ∀ (j : Nat) (v : Nat) (m : Nat), dAt f v = (m + j : Nat) → ∃ u, dAt f u = (m : Nat)
  | 0, v, m, h => ⟨v, by simpa using h⟩
  | j + 1, v, m, h => by
    obtain ⟨u, _, hu⟩ := F.pre v (by omega)
    exact isD_desc F j u m (by omega)
theorem isD_cnt {es : Es} {n g : Nat} {f : List Int} (F : IsD es n g f) : ∀ (k : Nat) (v : Nat), (k : Int) ≤ dAt f v → k ≤ ((List.range n).filter fun u => decide (0 ≤ dAt f u ∧ dAt f u < k)).length
  | 0, _, _ => Nat.zero_le _
  | k + 1, v, h => by
    have ih := isD_cnt F k v (by omega)
    obtain ⟨u, hu⟩ := isD_desc F ((dAt f v).toNat - k) v k (by omega)
    have ul : u < n := by
      have := dAt_in (f := f) (v := u) (by omega)
      rw [F.len] at this
      exact this
    have := filt_lt (l := List.range n) (p := fun u => decide (0 ≤ dAt f u ∧ dAt f u < k)) (q := fun u => decide (0 ≤ dAt f u ∧ dAt f u < (k + 1 : Nat))) (w := u)
      (fun x hx => by simp only [decide_eq_true_eq] at hx ⊢; omega) (List.mem_range.mpr ul) (by simp only [decide_eq_true_eq]; omega) (by simp only [decide_eq_false_iff_not]; omega)
    omega
theorem isD_lt {es : Es} {n g : Nat} {f : List Int} (F : IsD es n g f) (v : Nat) : dAt f v < n := by
  by_cases c : 0 ≤ dAt f v
  · have h1 := isD_cnt F (dAt f v).toNat v (by omega)
    have vl : v < n := by
      have := dAt_in c
      rw [F.len] at this
      exact this
    have := filt_lt (l := List.range n) (p := fun u => decide (0 ≤ dAt f u ∧ dAt f u < ((dAt f v).toNat : Nat))) (q := fun _ => true) (w := v) (fun _ _ => rfl) (List.mem_range.mpr vl) rfl (by simp only [decide_eq_false_iff_not]; omega)
    rw [List.filter_eq_self.mpr (fun _ _ => rfl), List.length_range] at this
    omega
  · omega
/-! ### the search -/
structure Srch (es : Es) (n g : Nat) (f : List Int) (q : List Nat) : Prop where
  len : f.length = n
  go : dAt f g = 0
  zero : ∀ v, dAt f v = 0 → v = g
  low : ∀ v, -1 ≤ dAt f v
  pre : ∀ v, 0 < dAt f v → ∃ u, Adj es u v ∧ dAt f u = dAt f v - 1
  dn : ∀ v, 0 ≤ dAt f v → v ∈ q ∨ ∀ w, Adj es v w → 0 ≤ dAt f w ∧ dAt f w ≤ dAt f v + 1
  qs : ∀ v ∈ q, 0 ≤ dAt f v
  so : q.Pairwise fun x y => dAt f x ≤ dAt f y
  hi : ∀ h r, q = h :: r → ∀ v, dAt f v ≤ dAt f h + 1
def cntN (f : List Int) : Nat := (f.filter fun x => decide (x < 0)).length
theorem srch_end {es : Es} {n g : Nat} {f : List Int} (S : Srch es n g f []) : IsD es n g f :=
  ⟨S.len, S.go, S.zero, S.low, fun a b h ha => (S.dn a ha).elim (fun z => absurd z List.not_mem_nil) fun k => k b h, S.pre⟩
/-- the turn of p, with the neighbours done so far -/
structure Turn (es : Es) (n g : Nat) (p : Nat) (dn : List Nat) (f : List Int) (q : List Nat) : Prop where
  len : f.length = n
  go : dAt f g = 0
  zero : ∀ v, dAt f v = 0 → v = g
  low : ∀ v, -1 ≤ dAt f v
  pre : ∀ v, 0 < dAt f v → ∃ u, Adj es u v ∧ dAt f u = dAt f v - 1
  at_p : 0 ≤ dAt f p
  rest : ∀ v, 0 ≤ dAt f v → v ∈ q ∨ v = p ∨ ∀ w, Adj es v w → 0 ≤ dAt f w ∧ dAt f w ≤ dAt f v + 1
  seen : ∀ w ∈ dn, 0 ≤ dAt f w
  qs : ∀ v ∈ q, dAt f p ≤ dAt f v
  so : q.Pairwise fun x y => dAt f x ≤ dAt f y
  hi : ∀ v, dAt f v ≤ dAt f p + 1
theorem turn_start {es : Es} {n g p : Nat} {f : List Int} {q : List Nat} (S : Srch es n g f (p :: q)) : Turn es n g p [] f q := by
  obtain ⟨len, go, zero, low, pre, dn, qs, so, hi⟩ := S
  rw [List.pairwise_cons] at so
  refine ⟨len, go, zero, low, pre, qs p (List.mem_cons_self ..), fun v hv => ?_, fun _ z => absurd z List.not_mem_nil, so.1, so.2, hi p q rfl⟩
  rcases dn v hv with h | h
  · rcases List.mem_cons.mp h with h | h
    · exact .inr (.inl h)
    · exact .inl h
  · exact .inr (.inr h)
theorem turn_old {es : Es} {n g p w : Nat} {dn : List Nat} {f : List Int} {q : List Nat} (T : Turn es n g p dn f q) (h : 0 ≤ dAt f w) : Turn es n g p (dn ++ [w]) f q := by
  obtain ⟨len, go, zero, low, pre, at_p, rest, seen, qs, so, hi⟩ := T
  refine ⟨len, go, zero, low, pre, at_p, rest, fun v hv => ?_, qs, so, hi⟩
  rcases List.mem_append.mp hv with hv | hv
  · exact seen v hv
  · rw [List.mem_singleton.mp hv]; exact h
theorem turn_new {es : Es} {n g p w : Nat} {dn : List Nat} {f : List Int} {q : List Nat} (T : Turn es n g p dn f q) (a : Adj es p w) (hw : w < n) (h : dAt f w < 0) : Turn es n g p (dn ++ [w]) (f.set w (dAt f p + 1)) (q ++ [w]) := by
  obtain ⟨len, go, zero, low, pre, at_p, rest, seen, qs, so, hi⟩ := T
  have hl : w < f.length := by rw [len]; exact hw
  have lw := low w
  have wp : p ≠ w := fun e => by rw [e] at at_p; omega
  have st : ∀ v, dAt (f.set w (dAt f p + 1)) v = if v = w then dAt f p + 1 else dAt f v := fun v => dAt_set hl
  have eq : ∀ v, v ≠ w → dAt (f.set w (dAt f p + 1)) v = dAt f v := fun v e => by rw [st, if_neg e]
  have ew : dAt (f.set w (dAt f p + 1)) w = dAt f p + 1 := by rw [st, if_pos rfl]
  have nw : ∀ {v}, 0 ≤ dAt f v → v ≠ w := fun {v} hv e => by rw [e] at hv; omega
  have qn : ∀ v ∈ q, v ≠ w := fun v hv => nw (by have := qs v hv; omega)
  refine ⟨by rw [List.length_set]; exact len, by rw [eq g (nw (by omega))]; exact go, fun v hv => ?_, fun v => ?_, fun v hv => ?_, by rw [eq p wp]; exact at_p, fun v hv => ?_, fun v hv => ?_, fun v hv => ?_, ?_, fun v => ?_⟩
  · by_cases e : v = w
    · rw [e, ew] at hv; omega
    · rw [eq v e] at hv; exact zero v hv
  · by_cases e : v = w
    · rw [e, ew]; omega
    · rw [eq v e]; exact low v
  · by_cases e : v = w
    · subst e
      exact ⟨p, a, by rw [eq p wp, ew]; omega⟩
    · rw [eq v e] at hv ⊢
      obtain ⟨u, hu, hd⟩ := pre v hv
      exact ⟨u, hu, by rw [eq u (nw (by omega))]; exact hd⟩
  · by_cases e : v = w
    · exact .inl (by rw [e]; exact List.mem_append_right _ (List.mem_singleton.mpr rfl))
    · rw [eq v e] at hv ⊢
      rcases rest v hv with h1 | h1 | h1
      · exact .inl (List.mem_append_left _ h1)
      · exact .inr (.inl h1)
      · refine .inr (.inr fun x hx => ?_)
        have := h1 x hx
        rw [eq x (nw this.1)]
        exact this
  · rcases List.mem_append.mp hv with hv | hv
    · have := seen v hv
      rw [eq v (nw this)]
      exact this
    · rw [List.mem_singleton.mp hv, ew]; omega
  · rw [eq p wp]
    rcases List.mem_append.mp hv with hv | hv
    · rw [eq v (qn v hv)]; exact qs v hv
    · rw [List.mem_singleton.mp hv, ew]; omega
  · rw [List.pairwise_append]
    refine ⟨?_, List.pairwise_singleton .., fun x hx y hy => ?_⟩
    · refine List.Pairwise.imp_of_mem (fun {x y} hx hy hxy => ?_) so
      rw [eq x (qn x hx), eq y (qn y hy)]
      exact hxy
    · rw [List.mem_singleton.mp hy, ew, eq x (qn x hx)]
      exact hi x
  · rw [eq p wp]
    by_cases e : v = w
    · rw [e, ew]; omega
    · rw [eq v e]; exact hi v
theorem cnt_set : ∀ {f : List Int} {w : Nat} {x : Int}, w < f.length → dAt f w < 0 → 0 ≤ x → cntN (f.set w x) + 1 = cntN f
  | [], _, _, h, _, _ => by simp at h
  | y :: f, 0, x, _, h, hx => by
    have hy : y < 0 := h
    unfold cntN
    rw [List.set_cons_zero, List.filter_cons, List.filter_cons, if_neg (by simpa using hx), if_pos (by simpa using hy), List.length_cons]
  | y :: f, w + 1, x, hl, h, hx => by
    have ih := cnt_set (f := f) (w := w) (x := x) (by simpa using hl) (by simpa [dAt] using h) hx
    unfold cntN at ih ⊢
    rw [List.set_cons_succ, List.filter_cons, List.filter_cons]
    split
    · rw [List.length_cons, List.length_cons]; omega
    · exact ih
theorem turn_end {es : Es} {n g p : Nat} {dn : List Nat} {f : List Int} {q : List Nat} (T : Turn es n g p dn f q) (hd : ∀ w, Adj es p w → w ∈ dn) : Srch es n g f q := by
  obtain ⟨len, go, zero, low, pre, at_p, rest, seen, qs, so, hi⟩ := T
  refine ⟨len, go, zero, low, pre, fun v hv => ?_, fun v hv => by have := qs v hv; omega, so, fun h r e v => ?_⟩
  · rcases rest v hv with h1 | h1 | h1
    · exact .inl h1
    · subst h1
      exact .inr fun w hw => ⟨seen w (hd w hw), hi w⟩
    · exact .inr h1
  · have := qs h (by rw [e]; exact List.mem_cons_self ..)
    have := hi v
    omega
theorem rep_at (n : Nat) (v : Nat) : dAt (List.replicate n (-1 : Int)) v = -1 := by
  unfold dAt
  rw [List.getD_eq_getElem?_getD]
  by_cases h : v < n
  · rw [List.getElem?_replicate, if_pos h]; rfl
  · rw [List.getElem?_replicate, if_neg h]; rfl
theorem srch_start {es : Es} {n g : Nat} (hg : g < n) : Srch es n g ((List.replicate n (-1 : Int)).set g 0) [g] := by
  have st : ∀ v, dAt ((List.replicate n (-1 : Int)).set g 0) v = if v = g then 0 else -1 := fun v => by
    rw [dAt_set (by rw [List.length_replicate]; exact hg), rep_at]
  refine ⟨by rw [List.length_set, List.length_replicate], by rw [st, if_pos rfl], fun v hv => ?_, fun v => ?_, fun v hv => ?_, fun v hv => ?_, fun v hv => ?_, List.pairwise_singleton .., fun h r e v => ?_⟩
  · rw [st] at hv
    split at hv
    · assumption
    · cases hv
  · rw [st]; split <;> omega
  · rw [st] at hv
    split at hv <;> omega
  · rw [st] at hv
    split at hv
    · rename_i e
      exact .inl (by rw [e]; exact List.mem_singleton.mpr rfl)
    · omega
  · rw [List.mem_singleton.mp hv, st, if_pos rfl]; omega
  · cases e
    rw [st, st, if_pos rfl]
    split <;> omega
/-! ### the law's way: each link again and again -/
def fAt (F : List Int) (v : Nat) : Int := F.getD v 0
theorem fAt_set {F : List Int} {v w : Nat} {x : Int} (h : w < F.length) : fAt (F.set w x) v = if v = w then x else fAt F v := by
  unfold fAt
  rw [List.getD_eq_getElem?_getD, List.getD_eq_getElem?_getD]
  by_cases e : v = w
  · subst e
    rw [if_pos rfl, List.getElem?_set_self h]
    rfl
  · rw [if_neg e, List.getElem?_set_ne (Ne.symm e)]
/-- not below the distances; 99 where there is no way -/
structure Lo (n : Nat) (f F : List Int) : Prop where
  len : F.length = n
  lo : ∀ v, v < n → (0 ≤ dAt f v → dAt f v ≤ fAt F v ∧ fAt F v ≤ 99) ∧ (dAt f v < 0 → fAt F v = 99)
def Kn (f F : List Int) (k : Nat) : Prop := ∀ v, 0 ≤ dAt f v → dAt f v ≤ k → fAt F v ≤ dAt f v
def mn (a b : Int) : Int := if b < a then b else a
def relax (F : List Int) (a b : Nat) : List Int := F.set a (mn (fAt F a) (fAt F b + 1))
theorem relax_le {F : List Int} {a b : Nat} (h : a < F.length) (v : Nat) : fAt (relax F a b) v ≤ fAt F v := by
  unfold relax
  rw [fAt_set h]
  split
  · rename_i e
    rw [e]
    unfold mn
    split <;> omega
  · exact Int.le_refl _
theorem relax_at {F : List Int} {a b : Nat} (h : a < F.length) : fAt (relax F a b) a ≤ fAt F b + 1 := by
  unfold relax
  rw [fAt_set h, if_pos rfl]
  unfold mn
  split <;> omega
theorem relax_lo {es : Es} {n g : Nat} {f F : List Int} {a b : Nat} (D : IsD es n g f) (L : Lo n f F) (e : Adj es a b) (ha : a < n) (hb : b < n) : Lo n f (relax F a b) := by
  have hl : a < F.length := by rw [L.len]; exact ha
  refine ⟨by unfold relax; rw [List.length_set]; exact L.len, fun v hv => ?_⟩
  unfold relax
  rw [fAt_set hl]
  by_cases c : v = a
  · subst c
    rw [if_pos rfl]
    have l1 := L.lo v hv
    have l2 := L.lo b hb
    have d1 := D.low v
    have d2 := D.low b
    refine ⟨fun h => ?_, fun h => ?_⟩
    · have e1 := D.edge v b e h
      have e2 := D.edge b v e.sym e1.1
      have x1 := l1.1 h
      have x2 := l2.1 e1.1
      unfold mn
      split <;> omega
    · have hb' : dAt f b < 0 := by
        rcases Int.lt_or_le (dAt f b) 0 with z | z
        · exact z
        · have := D.edge b v e.sym z
          omega
      have x1 := l1.2 h
      have x2 := l2.2 hb'
      unfold mn
      split <;> omega
  · rw [if_neg c]
    exact L.lo v hv
/-- what a link has brought in this round -/
def Rd (f F : List Int) (k : Nat) (e : Nat × Nat) : Prop := (dAt f e.1 = (k + 1 : Nat) → dAt f e.2 = (k : Nat) → fAt F e.1 ≤ (k + 1 : Nat)) ∧ (dAt f e.2 = (k + 1 : Nat) → dAt f e.1 = (k : Nat) → fAt F e.2 ≤ (k + 1 : Nat))
theorem rd_le {f F G : List Int} {k : Nat} {e : Nat × Nat} (h : ∀ v, fAt G v ≤ fAt F v) (r : Rd f F k e) : Rd f G k e := ⟨fun a b => Int.le_trans (h _) (r.1 a b), fun a b => Int.le_trans (h _) (r.2 a b)⟩
theorem kn_le {f F G : List Int} {k : Nat} (h : ∀ v, fAt G v ≤ fAt F v) (r : Kn f F k) : Kn f G k := fun v a b => Int.le_trans (h _) (r v a b)
/-- one link, both ways -/
def both (F : List Int) (e : Nat × Nat) : List Int := relax (relax F e.1 e.2) e.2 e.1
theorem both_ok {es : Es} {n g k : Nat} {f F : List Int} {e : Nat × Nat} (D : IsD es n g f) (L : Lo n f F) (h : e ∈ es) (he : e.1 < n ∧ e.2 < n) (K : Kn f F k) : Lo n f (both F e) ∧ (∀ v, fAt (both F e) v ≤ fAt F v) ∧ Rd f (both F e) k e := by
  have a : Adj es e.1 e.2 := .inl h
  have l1 : e.1 < F.length := by rw [L.len]; exact he.1
  have L1 := relax_lo D L a he.1 he.2
  have l2 : e.2 < (relax F e.1 e.2).length := by rw [L1.len]; exact he.2
  have L2 := relax_lo D L1 a.sym he.2 he.1
  have m1 := relax_le (F := F) (a := e.1) (b := e.2) l1
  have m2 := relax_le (F := relax F e.1 e.2) (a := e.2) (b := e.1) l2
  refine ⟨L2, fun v => Int.le_trans (m2 v) (m1 v), fun h1 h2 => ?_, fun h1 h2 => ?_⟩
  · have r := relax_at (F := F) (a := e.1) (b := e.2) l1
    have := K e.2 (by omega) (by omega)
    have := m2 e.1
    unfold both
    omega
  · have r := relax_at (F := relax F e.1 e.2) (a := e.2) (b := e.1) l2
    have := K e.1 (by omega) (by omega)
    have := m1 e.1
    unfold both
    omega
theorem round_end {es : Es} {n g k : Nat} {f F : List Int} (D : IsD es n g f) (K : Kn f F k) (R : ∀ e ∈ es, Rd f F k e) : Kn f F (k + 1) := fun v h0 hk => by
  by_cases c : dAt f v ≤ k
  · exact K v h0 c
  · have hv : dAt f v = (k + 1 : Nat) := by omega
    obtain ⟨u, a, hu⟩ := D.pre v (by omega)
    have hu' : dAt f u = (k : Nat) := by omega
    rw [hv]
    rcases a with a | a
    · exact (R _ a).2 hv hu'
    · exact (R _ a).1 hv hu'
def cut99 (F : List Int) : List Int := F.map fun x => if 99 ≤ x then -1 else x
theorem far_end {es : Es} {n g : Nat} {f F : List Int} (D : IsD es n g f) (hn : n ≤ 90) (L : Lo n f F) (K : Kn f F n) : cut99 F = f := by
  refine List.ext_getElem (by unfold cut99; rw [List.length_map, L.len, D.len]) fun i h1 h2 => ?_
  have hi : i < n := by rw [D.len] at h2; exact h2
  have hF : i < F.length := by rw [L.len]; exact hi
  have e1 : fAt F i = F[i] := by unfold fAt; rw [List.getD_eq_getElem?_getD, List.getElem?_eq_getElem hF]; rfl
  have e2 : dAt f i = f[i] := by unfold dAt; rw [List.getD_eq_getElem?_getD, List.getElem?_eq_getElem h2]; rfl
  have e3 : (cut99 F)[i] = if 99 ≤ F[i] then -1 else F[i] := by simp [cut99]
  rw [e3, ← e1, ← e2]
  have lt := isD_lt D i
  have lw := D.low i
  rcases Int.lt_or_le (dAt f i) 0 with c | c
  · have := (L.lo i hi).2 c
    rw [this, if_pos (by decide)]
    omega
  · have x1 := (L.lo i hi).1 c
    have x2 := K i c (by omega)
    have : fAt F i = dAt f i := by omega
    rw [this, if_neg (by omega)]
def far0 (n g : Nat) : List Int := (List.range n).map fun v => if v = g then 0 else 99
theorem far0_at {n g v : Nat} (h : v < n) : fAt (far0 n g) v = if v = g then 0 else 99 := by
  unfold fAt far0
  rw [List.getD_eq_getElem?_getD, List.getElem?_map, List.getElem?_range h]
  rfl
theorem far_start {es : Es} {n g : Nat} {f : List Int} (D : IsD es n g f) (hn : n ≤ 90) (hg : g < n) : Lo n f (far0 n g) ∧ Kn f (far0 n g) 0 := by
  refine ⟨⟨by unfold far0; rw [List.length_map, List.length_range], fun v hv => ?_⟩, fun v h0 h1 => ?_⟩
  · rw [far0_at hv]
    have lt := isD_lt D v
    by_cases e : v = g
    · subst e
      rw [if_pos rfl, D.go]
      exact ⟨fun _ => by omega, fun h => by omega⟩
    · rw [if_neg e]
      exact ⟨fun _ => by omega, fun _ => rfl⟩
  · have e := D.zero v (by omega)
    subst e
    rw [far0_at hg, if_pos rfl]
    omega
/-! ### neighbours and hops -/
def nbs (es : Es) (v : Nat) : List Nat := es.flatMap fun e => (if e.1 = v then [e.2] else []) ++ (if e.2 = v then [e.1] else [])
theorem mem_nbs {es : Es} {u v : Nat} : u ∈ nbs es v ↔ Adj es v u := by
  unfold nbs Adj
  rw [List.mem_flatMap]
  constructor
  · rintro ⟨⟨a, b⟩, he, h⟩
    rcases List.mem_append.mp h with h | h
    · split at h
      · rename_i e
        have := List.mem_singleton.mp h
        simp only at e this
        subst e this
        exact .inl he
      · exact absurd h List.not_mem_nil
    · split at h
      · rename_i e
        have := List.mem_singleton.mp h
        simp only at e this
        subst e this
        exact .inr he
      · exact absurd h List.not_mem_nil
  · rintro (h | h)
    · exact ⟨_, h, List.mem_append_left _ (by simp)⟩
    · exact ⟨_, h, List.mem_append_right _ (by simp)⟩
/-- the neighbours that are nearer, as the law lists them -/
def nearer (es : Es) (f : List Int) (v : Nat) : List Nat := (es.filter fun e => decide (e.1 = v ∧ dAt f e.2 < dAt f v)).map (·.2) ++ (es.filter fun e => decide (e.2 = v ∧ dAt f e.1 < dAt f v)).map (·.1)
theorem mem_nearer {es : Es} {f : List Int} {u v : Nat} : u ∈ nearer es f v ↔ Adj es v u ∧ dAt f u < dAt f v := by
  unfold nearer Adj
  rw [List.mem_append, List.mem_map, List.mem_map]
  constructor
  · rintro (⟨⟨a, b⟩, h, rfl⟩ | ⟨⟨a, b⟩, h, rfl⟩)
    · obtain ⟨h1, h2⟩ := List.mem_filter.mp h
      simp only [decide_eq_true_eq] at h2
      obtain ⟨rfl, h2⟩ := h2
      exact ⟨.inl h1, h2⟩
    · obtain ⟨h1, h2⟩ := List.mem_filter.mp h
      simp only [decide_eq_true_eq] at h2
      obtain ⟨rfl, h2⟩ := h2
      exact ⟨.inr h1, h2⟩
  · rintro ⟨h | h, h2⟩
    · exact .inl ⟨_, List.mem_filter.mpr ⟨h, by simpa using h2⟩, rfl⟩
    · exact .inr ⟨_, List.mem_filter.mpr ⟨h, by simpa using h2⟩, rfl⟩
/-- the least pair's vertex is the least of those nearer -/
theorem hop_least {es : Es} {n g v m : Nat} {f : List Int} (D : IsD es n g f) (hv : 0 < dAt f v) (hm : Adj es v m) (h : ∀ u, Adj es v u → dAt f m < dAt f u ∨ (dAt f m = dAt f u ∧ m ≤ u)) : m ∈ nearer es f v ∧ ∀ u ∈ nearer es f v, m ≤ u := by
  obtain ⟨p, hp, dp⟩ := D.pre v hv
  have em := (D.edge v m hm (by omega))
  have e2 := (D.edge m v hm.sym em.1)
  have hpm := h p hp.sym
  refine ⟨mem_nearer.mpr ⟨hm, by omega⟩, fun u hu => ?_⟩
  obtain ⟨a, b⟩ := mem_nearer.mp hu
  have eu := (D.edge v u a (by omega))
  have e3 := (D.edge u v a.sym eu.1)
  have := h u a
  omega
/-! ### rules by name -/
theorem hu65 {A : Around} {k : Nat} (hr : Room k A) : A.units + 65 < cLine := by have := hr.un; omega
theorem pg_tupK {X : Cx} {K : PySem.W.Frag} {es : List Expr} {k : Nat} {t : TGs} {n : Nat} {pos : Pos} (hk : X.K = K) (hc : X.calm = true) (h : PGs X es t) (hn : (assignEach es X.env).length = n := by rfl) (hst : (assignEach es X.env).findIdx? (·.1) = none := by rfl) : PG X (.Tuple es k pos) (gTup K n t) := by
  subst hk
  exact pg_tup hc h hn hst
def rRepN : R2 := rRep
theorem op_repA {X : Cx} : OpR X (binaryOp .Mult) rRepN := op_rep
theorem q_repN {H : Hp} {Q : VK} {l : Addr} {v : V} {n : Nat} (h : H l = some (.lst [v])) (hn : n ≤ 1000) (q : ∀ p Hn, H p = none → Ex H Hn → Hn p = some (.lst (List.replicate n v)) → Q (.ref p) Hn) : rRepN (.ref l) (.int n) H Q := by
  refine ⟨l, n, [v], rfl, rfl, h, by omega, by omega, ?_, fun p hp => ?_⟩
  · rw [Int.toNat_natCast]
    refine sl1000 ?_
    show 1 * n ≤ 100000
    omega
  · refine q p _ hp (Ex.mk hp rfl) ?_
    rw [upd_same, Int.toNat_natCast, List.flatten_replicate_singleton]
def rMinN (K : PySem.W.Frag) : List V → Hp → VK → Prop := rMin K
theorem cr_minA {X : Cx} (hc : X.calm = true) : CallR X (.builtin "min") (rMinN X.K) := cr_min hc
abbrev s_check_network : Stmt := topS 5
theorem sc_check_network : FnScope ["processors", "links", "index", "a", "b"] ["processors", "links"] (defScope s_check_network) := ⟨rfl, rfl, rfl, by decide +kernel, rfl, by decide +kernel, by decide +kernel⟩
abbrev p_check_network : List Str := ["processors", "links"]
abbrev s_neighbours : Stmt := topS 6
theorem sc_neighbours : FnScope ["processors", "links", "found", "a", "b", "_"] ["processors", "links"] (defScope s_neighbours) := ⟨rfl, rfl, rfl, by decide +kernel, rfl, by decide +kernel, by decide +kernel⟩
abbrev p_neighbours : List Str := ["processors", "links"]
abbrev s_distances : Stmt := topS 7
theorem sc_distances : FnScope ["processors", "links", "goal", "near", "found", "reached", "p", "other"] ["processors", "links", "goal"] (defScope s_distances) := ⟨rfl, rfl, rfl, by decide +kernel, rfl, by decide +kernel, by decide +kernel⟩
abbrev p_distances : List Str := ["processors", "links", "goal"]
abbrev s_next_hops : Stmt := topS 8
theorem sc_next_hops : FnScope ["processors", "links", "near", "ways", "goal", "p"] ["processors", "links"] (defScope s_next_hops) := ⟨rfl, rfl, rfl, by decide +kernel, rfl, by decide +kernel, by decide +kernel⟩
abbrev p_next_hops : List Str := ["processors", "links"]
abbrev s_next_hop : Stmt := topS 9
theorem sc_next_hop : FnScope ["near", "ways", "p", "goal", "other"] ["near", "ways", "p", "goal"] (defScope s_next_hop) := ⟨rfl, rfl, rfl, by decide +kernel, rfl, by decide +kernel, by decide +kernel⟩
abbrev p_next_hop : List Str := ["near", "ways", "p", "goal"]
abbrev s__law_links : Stmt := topS 14
theorem sc__law_links : FnScope ["state", "many", "links", "k", "a", "b"] ["state", "many"] (defScope s__law_links) := ⟨rfl, rfl, rfl, by decide +kernel, rfl, by decide +kernel, by decide +kernel⟩
abbrev p__law_links : List Str := ["state", "many"]
abbrev s__law_far : Stmt := topS 15
theorem sc__law_far : FnScope ["many", "links", "goal", "far", "k", "a", "b", "at", "n"] ["many", "links", "goal"] (defScope s__law_far) := ⟨rfl, rfl, rfl, by decide +kernel, rfl, by decide +kernel, by decide +kernel⟩
abbrev p__law_far : List Str := ["many", "links", "goal"]
abbrev s__law_due : Stmt := topS 16
theorem sc__law_due : FnScope ["many", "links", "k", "a", "b"] ["many", "links"] (defScope s__law_due) := ⟨rfl, rfl, rfl, by decide +kernel, rfl, by decide +kernel, by decide +kernel⟩
abbrev p__law_due : List Str := ["many", "links"]
abbrev s__law_told : Stmt := topS 17
theorem sc__law_told : FnScope ["many", "links", "e"] ["many", "links"] (defScope s__law_told) := ⟨rfl, rfl, rfl, by decide +kernel, rfl, by decide +kernel, by decide +kernel⟩
abbrev p__law_told : List Str := ["many", "links"]
abbrev s_law : Stmt := topS 18
theorem sc_law : FnScope ["script", "state", "many", "links", "due", "hops", "goal", "far", "at", "near", "a", "b"] ["script"] (defScope s_law) := ⟨rfl, rfl, rfl, by decide +kernel, rfl, by decide +kernel, by decide +kernel⟩
abbrev p_law : List Str := ["script"]
/-! ### links in the heap -/
def LkI (H : Hp) (a : Addr) (ls : List (Int × Int)) : Prop := ∃ vs, H a = some (.lst vs) ∧ Paired (TupII H) vs ls
def casts (es : Es) : List (Int × Int) := es.map fun e => ((e.1 : Int), (e.2 : Int))
theorem paired_imp {α β : Type} {F G : α → β → Prop} (k : ∀ a b, F a b → G a b) : ∀ {xs : List α} {ys : List β}, Paired F xs ys → Paired G xs ys
  | _, _, .nil => .nil
  | _, _, .cons a t => .cons (k _ _ a) (paired_imp k t)
theorem tup_ex {H H' : Hp} (e : Ex H H') {v : V} {p : Int × Int} (h : TupII H v p) : TupII H' v p := by
  obtain ⟨q, rfl, hq⟩ := h
  exact ⟨q, rfl, e _ _ hq⟩
theorem lk_ex {H H' : Hp} {a : Addr} {ls : List (Int × Int)} (e : Ex H H') (h : LkI H a ls) : LkI H' a ls := by
  obtain ⟨vs, h1, h2⟩ := h
  exact ⟨vs, e _ _ h1, paired_imp (fun _ _ => tup_ex e) h2⟩
theorem ex_updF {p : Addr} {o : HO} {H H' : Hp} (k : Ex H H') (hp : H p = none) : Ex H (upd H' p o) := fun a u h => by
  rw [upd_ne (ne_of_none h hp)]
  exact k a u h
def rg (rs : List Addr) (v : Nat) : Addr := rs.getD v 0
theorem rg_at {rs : List Addr} {v : Nat} (h : v < rs.length) : atI (rs.map V.ref) (v : Int) = some (.ref (rg rs v)) := atI_nat (by
  unfold rg
  rw [List.getElem?_map, List.getD_eq_getElem?_getD, List.getElem?_eq_getElem h]
  rfl)
theorem rg_app {rs : List Addr} {p : Addr} {v : Nat} (h : v < rs.length) : rg (rs ++ [p]) v = rg rs v := by
  unfold rg
  rw [List.getD_eq_getElem?_getD, List.getD_eq_getElem?_getD, List.getElem?_append_left h]
theorem rg_end {rs : List Addr} {p : Addr} : rg (rs ++ [p]) rs.length = p := by
  unfold rg
  rw [List.getD_eq_getElem?_getD, List.getElem?_append_right (Nat.le_refl _), Nat.sub_self]
  rfl
def nats (l : List Nat) : List V := l.map fun (u : Nat) => V.int (u : Int)
theorem nats_at {l : List Nat} {i : Nat} {u : Nat} (h : l[i]? = some u) : (nats l)[i]? = some (.int (u : Int)) := by
  unfold nats
  rw [List.getElem?_map, h]
  rfl
theorem casts_at {es : Es} {i : Nat} {v : V} {H : Hp} {vs : List V} (h : Paired (TupII H) vs (casts es)) (hi : vs[i]? = some v) : ∃ x y q, es[i]? = some (x, y) ∧ v = .ref q ∧ H q = some (.tup [.int (x : Int), .int (y : Int)]) := by
  obtain ⟨p, hp, q, hq, hh⟩ := paired_at h hi
  unfold casts at hp
  rw [List.getElem?_map] at hp
  obtain ⟨⟨x, y⟩, he, rfl⟩ := Option.map_eq_some_iff.mp hp
  exact ⟨x, y, q, he, hq, hh⟩
theorem nbs_take {es : Es} {i x y v : Nat} (h : es[i]? = some (x, y)) : nbs (es.take (i + 1)) v = nbs (es.take i) v ++ ((if x = v then [y] else []) ++ (if y = v then [x] else [])) := by
  unfold nbs
  rw [List.take_add_one, h, List.flatMap_append]
  simp
/-- the rows of the neighbours: r, its rows rs -/
structure Near (es : Es) (n : Nat) (H : Hp) (r : Addr) (rs : List Addr) : Prop where
  ob : H r = some (.lst (rs.map V.ref))
  len : rs.length = n
  row : ∀ v, v < n → H (rg rs v) = some (.lst (nats (nbs es v)))
theorem near_ex {es : Es} {n : Nat} {H H' : Hp} {r : Addr} {rs : List Addr} (e : Ex H H') (h : Near es n H r rs) : Near es n H' r rs := ⟨e _ _ h.ob, h.len, fun v hv => e _ _ (h.row v hv)⟩
theorem val_at {es : Es} {n i x y : Nat} (hv : Val es n) (h : es[i]? = some (x, y)) : x < y ∧ y < n := hv _ (List.mem_of_getElem? h)
def sp_nbs : Sp := fun vs H Q _ => ∃ (n : Nat) (a : Addr) (es : Es), vs = [.int n, .ref a] ∧ LkI H a (casts es) ∧ Val es n ∧ n ≤ 100 ∧ es.length ≤ 1000 ∧ ∀ H' r rs, Ex H H' → H r = none → Near es n H' r rs → Q (.ref r) H'
theorem c_nbs {n : Nat} {a : Addr} {es : Es} {H : Hp} {Q : VK} {E : XK} (h1 : LkI H a (casts es)) (h2 : Val es n) (h3 : n ≤ 100) (h4 : es.length ≤ 1000) (q : ∀ H' r rs, Ex H H' → H r = none → Near es n H' r rs → Q (.ref r) H') : sp_nbs [.int n, .ref a] H Q E := ⟨n, a, es, rfl, h1, h2, h3, h4, q⟩
theorem nbs_le (es : Es) (v : Nat) : (nbs es v).length ≤ 2 * es.length := by
  unfold nbs
  induction es with
  | nil => simp
  | cons e r ih =>
    rw [List.flatMap_cons, List.length_append, List.length_append, List.length_cons]
    have h1 : (if e.1 = v then [e.2] else []).length ≤ 1 := by split <;> simp
    have h2 : (if e.2 = v then [e.1] else []).length ≤ 1 := by split <;> simp
    omega
theorem ok_nbs (T : Glo mg) (D : Dn K mg "neighbours" s_neighbours p_neighbours) : Cal P w K mg base "neighbours" 1 p_neighbours sp_nbs := by
  refine D.ok sc_neighbours (fun vs H Q E h => ?_) (fun f cdv A outer s H vs Q E hr h => ?_)
  · obtain ⟨_, _, _, rfl, _⟩ := h
    rfl
  obtain ⟨n, a, es, rfl, hlk, hval, hn, hes, q⟩ := h
  refine ⟨_, (pss_cons (ps_setLc (i := 2) (own := [("_", 5)]) (tt := tYes) rfl sc_neighbours.nd rfl rfl (sw_true rfl rfl rfl (by decide +kernel)) (pi_range1 rfl T.n_range (pa_cons (pv 0) pa_nil)) (blkOk_by (N := ["processors", "links", "found", "a", "b", "_"]) (sc := defScope s_neighbours) (by decide +kernel)) (fun _ _ _ _ _ => (pg_name (i := 5) sc_neighbours.nd rfl (by first | exact Or.inl rfl | exact Or.inr rfl))) (fun _ _ _ _ _ => pts_nil) (fun _ _ _ _ _ => (pe_lst pa_nil))) (pss_cons (ps_for PassesOwn.never rfl (pi_list (pv 1)) (pg_tup rfl (pgs_cons (pg_name (i := 3) sc_neighbours.nd rfl (by first | exact Or.inl rfl | exact Or.inr rfl)) (pgs_cons (pg_name (i := 4) sc_neighbours.nd rfl (by first | exact Or.inl rfl | exact Or.inr rfl)) pgs_nil))) (pss_cons (ps_expr (pe_bm PySem.F.plainAttrs_list PySem.F.slot_list_append PySem.F.type_list_append mt_append (pe_ix ix_seq (pv 2) (pv 3) (fun _ _ => rfl)) (pa_cons (pv 4) pa_nil))) (pss_one (ps_expr (pe_bm PySem.F.plainAttrs_list PySem.F.slot_list_append PySem.F.type_list_append mt_append (pe_ix ix_seq (pv 2) (pv 4) (fun _ _ => rfl)) (pa_cons (pv 3) pa_nil)))))) (pss_one (ps_ret (pv 2))))), ?_⟩
  try dsimp only [cxOf, Cx.nox]
  repeat' walk_at "st"
  intro L hL
  refine lc_range (lo := 0) (n := ((n : Nat) : Int).toNat) (fun i H2 => Ex H H2 ∧ ∃ rs : List Addr, rs.length = i ∧ H2 L = some (.lst (rs.map V.ref)) ∧ (∀ v, v < i → H2 (rg rs v) = some (.lst []) ∧ H (rg rs v) = none ∧ rg rs v ≠ L) ∧ ∀ u v, u < i → v < i → rg rs u = rg rs v → u = v) ?_ ?_ ?_
  · exact ⟨ex_updF (Ex.refl _) hL, [], rfl, upd_same, fun v hv => absurd hv (Nat.not_lt_zero v), fun u v hu => absurd hu (Nat.not_lt_zero u)⟩
  · rintro i H2 hi ⟨e2, rs, lr, h2, hv2, inj⟩
    rw [Int.toNat_natCast] at hi
    refine ⟨rfl, ?_⟩
    repeat' walk_at "st"
    have pL : p ≠ L := (ne_of_none h2 hp).symm
    have pr : ∀ v, v < i → rg rs v ≠ p := fun v hv => ne_of_none (hv2 v hv).1 hp
    refine ⟨rs.map V.ref, ke _ _ h2, sl1000' (by rw [List.length_map]; omega), ex_updF (e2.trans ke) hL, rs ++ [p], by simp [lr], ?_, fun v hv => ?_, fun u v hu hv e => ?_⟩
    · rw [upd_same, List.map_append]
      rfl
    · by_cases c : v < i
      · rw [rg_app (by omega)]
        obtain ⟨x1, x2, x3⟩ := hv2 v c
        exact ⟨by rw [upd_ne x3]; exact ke _ _ x1, x2, x3⟩
      · have ev : v = rs.length := by omega
        rw [ev, rg_end]
        exact ⟨by rw [upd_ne pL]; exact hn, free_back e2 hp, pL⟩
    · by_cases c : u < i
      · by_cases d : v < i
        · rw [rg_app (by omega), rg_app (by omega)] at e
          exact inj u v c d e
        · have ev : v = rs.length := by omega
          rw [rg_app (by omega), ev, rg_end] at e
          exact absurd e (pr u c)
      · have eu : u = rs.length := by omega
        by_cases d : v < i
        · rw [rg_app (v := v) (by omega), eu, rg_end] at e
          exact absurd e.symm (pr v d)
        · omega
  · rintro H2 ⟨e2, rs, lr, h2, hv2, inj⟩
    rw [Int.toNat_natCast] at lr hv2 inj
    obtain ⟨vs, hvs, hpr⟩ := lk_ex e2 hlk
    have lvs : vs.length = es.length := by rw [paired_len hpr]; unfold casts; rw [List.length_map]
    repeat' walk_at "st"
    refine w_list (xs := vs) (fun i σ H' => ∃ y3 y4 : Option V, σ = [some (.int n), some (.ref a), some (.ref L), y3, y4, none] ∧ Ex H H' ∧ H' L = some (.lst (rs.map V.ref)) ∧ (∀ v, v < n → H' (rg rs v) = some (.lst (nats (nbs (es.take i) v)))) ∧ ∀ b u, H2 b = some u → b ≠ L → (∀ v, v < n → b ≠ rg rs v) → H' b = some u) ?_ ?_ ?_ ?_
    · exact ⟨none, none, rfl, e2, h2, fun v hv => (hv2 v hv).1, fun b u h _ _ => h⟩
    · rintro i σ H' _ ⟨y3, y4, rfl, e3, h3, hv3, k3⟩
      obtain ⟨vs', hvs', _⟩ := hlk
      have := e2 _ _ hvs'
      rw [hvs] at this
      cases this
      exact sql (e3 _ _ hvs')
    · rintro i v σ H' hi ⟨y3, y4, rfl, e3, h3, hv3, k3⟩
      obtain ⟨vs', hvs', hpr'⟩ := hlk
      have ev := e2 _ _ hvs'
      rw [hvs] at ev
      cases ev
      obtain ⟨x, y, t, hxy, rfl, ht⟩ := casts_at hpr' hi
      have ht3 := e3 _ _ ht
      obtain ⟨hx, hy⟩ := val_at hval hxy
      have li : i < es.length := (List.getElem?_eq_some_iff.mp hxy).1
      have hlx : x < rs.length := by omega
      have hly : y < rs.length := by omega
      repeat' walk_at "st"
      refine q_ixL (sql h3) (rg_at hlx) ?_
      have hrx := hv3 x (by omega)
      have hry := hv3 y (by omega)
      have nxy : rg rs x ≠ rg rs y := fun z => by have := inj x y (by omega) (by omega) z; omega
      have b1 := nbs_le (es.take i) x
      have b2 := nbs_le (es.take i) y
      rw [List.length_take] at b1 b2
      refine q_tyL hrx ?_
      repeat' walk_at "st"
      refine q_append hrx (by unfold nats; rw [List.length_map]; omega) ?_
      have nL : ∀ v, v < n → rg rs v ≠ L := fun v hv => (hv2 v hv).2.2
      generalize hq : upd H' (rg rs x) _ = H5
      have at5 : ∀ b u, b ≠ rg rs x → H' b = some u → H5 b = some u := fun b u hb hu => by rw [← hq, upd_ne hb]; exact hu
      have x5 := at_new hq
      have L5 := at5 L _ (nL x (by omega)).symm h3
      have y5 := at5 _ _ nxy.symm hry
      repeat' walk_at "st"
      refine q_ixL (sql L5) (rg_at hly) ?_
      refine q_tyL y5 ?_
      repeat' walk_at "st"
      refine q_append y5 (by unfold nats; rw [List.length_map]; omega) ?_
      have ex5 : Ex H (upd H5 (rg rs y) (.lst (nats (nbs (es.take i) y) ++ [V.int (x : Int)]))) := by
        rw [← hq]
        exact ex_updF (ex_updF e3 (hv2 x (by omega)).2.1) (hv2 y (by omega)).2.1
      repeat' walk_at "st"
      refine ⟨_, _, rfl, ex5, ?_, fun v hv => ?_, fun b u hb hn1 hn2 => ?_⟩
      · rw [upd_ne (nL y (by omega)).symm]
        exact L5
      · rw [nbs_take hxy]
        by_cases cy : v = y
        · subst cy
          rw [upd_same, if_neg (by omega), if_pos rfl]
          unfold nats
          simp
        · have ny : rg rs v ≠ rg rs y := fun z => cy (inj v y hv (by omega) z)
          rw [upd_ne ny, if_neg (show ¬ y = v from fun z => cy z.symm), List.append_nil]
          by_cases cx : v = x
          · subst cx
            rw [x5, if_pos rfl]
            unfold nats
            simp
          · have nx : rg rs v ≠ rg rs x := fun z => cx (inj v x hv (by omega) z)
            rw [if_neg (show ¬ x = v from fun z => cx z.symm), List.append_nil]
            exact at5 _ _ nx (hv3 v hv)
      · rw [upd_ne (hn2 y (by omega))]
        exact at5 _ _ (hn2 x (by omega)) (k3 b u hb hn1 hn2)
    · rintro σ H' ⟨y3, y4, rfl, e3, h3, hv3, k3⟩
      rw [lvs, List.take_length] at hv3
      repeat' walk_at "st"
      exact q _ _ rs e3 hL ⟨h3, lr, hv3⟩
/-! ### distances -/
def iv (f : List Int) : List V := f.map V.int
theorem iv_at {f : List Int} {v : Nat} (h : v < f.length) : atI (iv f) (v : Int) = some (.int (dAt f v)) := atI_nat (by
  unfold iv
  rw [List.getElem?_map, dAt_some h]
  rfl)
theorem iv_set {f : List Int} {v : Nat} {x : Int} : (iv f).set v (.int x) = iv (f.set v x) := by
  unfold iv
  rw [List.map_set]
theorem ixN_nat {n k : Nat} (h : k < n) : ixN n (k : Int) = some k := by
  unfold ixN
  rw [if_pos (by omega), if_pos (by omega)]
  rfl
theorem q_truL {H : Hp} {QT : Bool → Hp → Prop} {a : Addr} {xs : List V} (h : SqL K H a xs) (q : QT (!xs.isEmpty) H) : ∃ k, TruV K (.ref a) H k ∧ QT k H := ⟨_, .inl ⟨xs, h, rfl⟩, q⟩
def sp_dist : Sp := fun vs H Q _ => ∃ (n g : Nat) (a : Addr) (es : Es), vs = [.int n, .ref a, .int g] ∧ LkI H a (casts es) ∧ Val es n ∧ n ≤ 100 ∧ es.length ≤ 1000 ∧ g < n ∧ ∀ H' p f, Ex H H' → H p = none → H' p = some (.lst (iv f)) → IsD es n g f → Q (.ref p) H'
theorem c_dist {n g : Nat} {a : Addr} {es : Es} {H : Hp} {Q : VK} {E : XK} (h1 : LkI H a (casts es)) (h2 : Val es n) (h3 : n ≤ 100) (h4 : es.length ≤ 1000) (h5 : g < n) (q : ∀ H' p f, Ex H H' → H p = none → H' p = some (.lst (iv f)) → IsD es n g f → Q (.ref p) H') : sp_dist [.int n, .ref a, .int g] H Q E :=
  ⟨n, g, a, es, rfl, h1, h2, h3, h4, h5, q⟩
theorem ok_dist (T : Glo mg) (D : Dn K mg "distances" s_distances p_distances) (G_neighbours : Cal P w K mg base "neighbours" 1 p_neighbours sp_nbs) : Cal P w K mg base "distances" 2 p_distances sp_dist := by
  refine D.ok sc_distances (fun vs H Q E h => ?_) (fun f cdv A outer s H vs Q E hr h => ?_)
  · obtain ⟨_, _, _, _, rfl, _⟩ := h
    rfl
  obtain ⟨n, g, a, es, rfl, hlk, hval, hn, hes, hg, q⟩ := h
  refine ⟨_, (pss_cons (ps_set (i := 3) sc_distances.nd rfl (by first | exact Or.inl rfl | exact Or.inr rfl) (pe_cal G_neighbours (hr.mono (by walk_at "lev")) rfl (pa_cons (pv 0) (pa_cons (pv 1) pa_nil)))) (pss_cons (ps_set (i := 4) sc_distances.nd rfl (by first | exact Or.inl rfl | exact Or.inr rfl) (pe_op op_repA (pe_lst (pa_cons (pe_un un_neg pe_int) pa_nil)) (pv 0))) (pss_cons (ps_asg pe_int (pg_sub (pv 4) (pv 2) set_list)) (pss_cons (ps_set (i := 5) sc_distances.nd rfl (by first | exact Or.inl rfl | exact Or.inr rfl) (pe_lst (pa_cons (pv 2) pa_nil))) (pss_cons (ps_while PassesOwn.never (pt_truth (pv 5) (by intro _; rfl)) (pss_cons (ps_set (i := 6) sc_distances.nd rfl (by first | exact Or.inl rfl | exact Or.inr rfl) (pe_bm PySem.F.plainAttrs_list PySem.F.slot_list_pop PySem.F.type_list_pop mt_popAt (pv 5) (pa_cons pe_int pa_nil))) (pss_one (ps_for PassesOwn.never rfl (pi_list (pe_ix ix_seq (pv 3) (pv 6) (fun _ _ => rfl))) (pg_name (i := 7) sc_distances.nd rfl (by first | exact Or.inl rfl | exact Or.inr rfl)) (pss_one (ps_if (pt_cmpR op_lt (pe_ix ix_seq (pv 4) (pv 7) (fun _ _ => rfl)) pe_int (nomark _)) (pss_cons (ps_asg (pe_op op_addA (pe_ix ix_seq (pv 4) (pv 6) (fun _ _ => rfl)) pe_int) (pg_sub (pv 4) (pv 7) set_list)) (pss_one (ps_expr (pe_bm PySem.F.plainAttrs_list PySem.F.slot_list_append PySem.F.type_list_append mt_append (pv 5) (pa_cons (pv 7) pa_nil))))) pss_nil)))))) (pss_one (ps_ret (pv 4)))))))), ?_⟩
  try dsimp only [cxOf, Cx.nox]
  repeat' walk_at "st"
  refine c_nbs hlk hval hn hes (fun H1 r rs e1 hr1 N1 => ?_)
  repeat' walk_at "st"
  refine q_repN hn (by omega) ?_
  intro pf H2 hpf k2 h2
  repeat' walk_at "st"
  refine q_setL h2 (ixN_nat (by rw [List.length_replicate]; exact hg)) ?_
  have ef : (List.replicate n (V.int (-1))).set g (.int 0) = iv ((List.replicate n (-1)).set g 0) := by
    rw [← iv_set]
    unfold iv
    rw [List.map_replicate]
  rw [ef]
  generalize hq : upd H2 pf _ = H3
  have hpf1 : H1 pf = none := free_back ke hpf
  have e3 : Ex H1 H3 := by
    rw [← hq]
    exact ex_updF (ke.trans k2) hpf1
  have f3 := at_new hq
  repeat' walk_at "st"
  rename Addr => pl
  have hpl1 : H1 pl = none := free_back e3 hp
  have e4 : Ex H1 Hn := e3.trans ke
  have f4 := ke _ _ f3
  have h4 := hn
  have nfl : pf ≠ pl := ne_of_none f3 hp
  have c0 : cntN ((List.replicate n (-1 : Int)).set g 0) + 1 ≤ n := by
    rw [cnt_set (by rw [List.length_replicate]; exact hg) (by rw [rep_at]; decide) (by decide)]
    unfold cntN
    refine Nat.le_trans (List.length_filter_le ..) ?_
    rw [List.length_replicate]
    exact Nat.le_refl _
  refine w_while (fun m σ H' => ∃ (f : List Int) (q : List Nat) (y6 y7 : Option V), σ = [some (.int n), some (.ref a), some (.int g), some (.ref r), some (.ref pf), some (.ref pl), y6, y7] ∧ m = cntN f + q.length ∧ m ≤ n ∧ Srch es n g f q ∧ Ex H1 H' ∧ H' pf = some (.lst (iv f)) ∧ H' pl = some (.lst (nats q))) (cntN ((List.replicate n (-1 : Int)).set g 0) + 1) ⟨_, [g], none, none, rfl, rfl, c0, srch_start hg, e4, f4, h4⟩ ?_ ?_
  · rintro m σ H' ⟨f, qq, y6, y7, rfl, em, lm, S, e5, f5, l5⟩
    cases qq with
    | nil =>
      repeat' walk_at "st"
      refine ⟨false, .inl ⟨_, sql l5, rfl⟩, ?_⟩
      repeat' walk_at "st"
      exact q _ _ f (e1.trans e5) (free_back e1 hpf1) f5 (srch_end S)
    | cons p rest =>
      have hp0 : p < n := by
        have := dAt_in (S.qs p (List.mem_cons_self ..))
        rw [S.len] at this
        exact this
      have l6 : H' pl = some (.lst (.int (p : Int) :: nats rest)) := l5
      rw [List.length_cons] at em
      repeat' walk_at "st"
      refine ⟨true, .inl ⟨_, sql l5, rfl⟩, ?_⟩
      repeat' walk_at "st"
      refine q_tyL l6 ?_
      repeat' walk_at "st"
      refine q_pop0 l6 ?_
      generalize hq6 : upd H' pl _ = H6
      have x6 : Ex H1 H6 := by
        rw [← hq6]
        exact ex_updF e5 hpl1
      have l7 := at_new hq6
      have f6 : H6 pf = some (.lst (iv f)) := by
        rw [← hq6, upd_ne nfl]
        exact f5
      repeat' walk_at "st"
      refine q_ixL (sql (x6 _ _ N1.ob)) (rg_at (by rw [N1.len]; exact hp0)) ?_
      refine q_iL (sql (x6 _ _ (N1.row p hp0))) ?_
      refine w_list (xs := nats (nbs es p)) (fun i σ H' => ∃ (f : List Int) (q : List Nat) (y7 : Option V), σ = [some (.int n), some (.ref a), some (.int g), some (.ref r), some (.ref pf), some (.ref pl), some (.int p), y7] ∧ m = cntN f + (q.length + 1) ∧ Turn es n g p ((nbs es p).take i) f q ∧ Ex H1 H' ∧ H' pf = some (.lst (iv f)) ∧ H' pl = some (.lst (nats q))) ?_ ?_ ?_ ?_
      · exact ⟨f, rest, y7, rfl, em, turn_start S, x6, f6, l7⟩
      · rintro i σ H' _ ⟨_, _, _, _, _, _, e7, _, _⟩
        exact sql (e7 _ _ (N1.row p hp0))
      · rintro i x σ H' hi ⟨f, qq, y7, rfl, em, T7, e7, f7, l7⟩
        obtain ⟨u, hu, rfl⟩ : ∃ u, (nbs es p)[i]? = some u ∧ x = .int (u : Nat) := by
          unfold nats at hi
          rw [List.getElem?_map] at hi
          obtain ⟨u, h1, h2⟩ := Option.map_eq_some_iff.mp hi
          exact ⟨u, h1, h2.symm⟩
        have au : Adj es p u := mem_nbs.mp (List.mem_of_getElem? hu)
        have ul := (hval.adj au).2.1
        have tk : (nbs es p).take (i + 1) = (nbs es p).take i ++ [u] := by
          rw [List.take_add_one, hu]
          rfl
        have luf : u < f.length := by rw [T7.len]; exact ul
        have lpf : p < f.length := by rw [T7.len]; exact hp0
        repeat' walk_at "st"
        refine q_ixL (sql f7) (iv_at luf) ?_
        repeat' walk_at "st"
        · have c : dAt f u < 0 := by assumption
          refine q_ixL (sql f7) (iv_at lpf) ?_
          repeat' walk_at "st"
          refine q_setL f7 (ixN_nat (by unfold iv; rw [List.length_map]; exact luf)) ?_
          rw [iv_set]
          generalize hq8 : upd H' pf _ = H8
          have f8 := at_new hq8
          have l8 : H8 pl = some (.lst (nats qq)) := by
            rw [← hq8, upd_ne nfl.symm]
            exact l7
          have e8 : Ex H1 H8 := by
            rw [← hq8]
            exact ex_updF e7 hpf1
          have ct := cnt_set (x := dAt f p + 1) luf c (by have := T7.at_p; omega)
          repeat' walk_at "st"
          refine q_tyL l8 ?_
          repeat' walk_at "st"
          refine q_append l8 (by unfold nats; rw [List.length_map]; omega) ?_
          repeat' walk_at "st"
          refine ⟨f.set u (dAt f p + 1), qq ++ [u], _, rfl, ?_, ?_, ex_updF e8 hpl1, ?_, ?_⟩
          · rw [List.length_append, List.length_singleton]
            omega
          · rw [tk]
            exact turn_new T7 au ul c
          · rw [upd_ne nfl]
            exact f8
          · rw [upd_same]
            unfold nats
            simp
        · refine ⟨f, qq, _, rfl, em, ?_, e7, f7, l7⟩
          rw [tk]
          exact turn_old T7 (by omega)
      · rintro σ H' ⟨f, qq, y7, rfl, em, T7, e7, f7, l7⟩
        rw [show (nats (nbs es p)).length = (nbs es p).length by unfold nats; rw [List.length_map], List.take_length] at T7
        exact ⟨cntN f + qq.length, by omega, f, qq, _, _, rfl, rfl, by omega, turn_end T7 (fun w hw => mem_nbs.mpr hw), e7, f7, l7⟩
  · intro σ H Q Q' hQ h
    obtain ⟨v, hv, k, hk, hh⟩ := h
    exact ⟨v, hv, k, hk, hQ _ _ hh⟩
/-! ### next hops -/
theorem paired_snoc {α β : Type} {F : α → β → Prop} {x : α} {y : β} (h : F x y) : ∀ {xs : List α} {ys : List β}, Paired F xs ys → Paired F (xs ++ [x]) (ys ++ [y])
  | _, _, .nil => .cons h .nil
  | _, _, .cons a t => .cons a (paired_snoc h t)
theorem nats_in {l : List Nat} {i : Nat} {x : V} (h : (nats l)[i]? = some x) : ∃ u, l[i]? = some u ∧ x = .int (u : Nat) := by
  unfold nats at h
  rw [List.getElem?_map] at h
  obtain ⟨u, h1, h2⟩ := Option.map_eq_some_iff.mp h
  exact ⟨u, h1, h2.symm⟩
structure Ways (es : Es) (n : Nat) (H : Hp) (b : Addr) (ds : List Addr) : Prop where
  ob : H b = some (.lst (ds.map V.ref))
  len : ds.length = n
  row : ∀ g, g < n → ∃ f, H (rg ds g) = some (.lst (iv f)) ∧ IsD es n g f
theorem ways_ex {es : Es} {n : Nat} {H H' : Hp} {r : Addr} {rs : List Addr} (e : Ex H H') (h : Ways es n H r rs) : Ways es n H' r rs := ⟨e _ _ h.ob, h.len, fun v hv => by
  obtain ⟨f, h1, h2⟩ := h.row v hv
  exact ⟨f, e _ _ h1, h2⟩⟩
def Hop (es : Es) (n p g m : Nat) : Prop := (p = g → m = p) ∧ (p ≠ g → ∀ f, IsD es n g f → m ∈ nearer es f p ∧ ∀ u ∈ nearer es f p, m ≤ u)
def Conn (es : Es) (n : Nat) : Prop := ∀ g f v, IsD es n g f → v < n → 0 ≤ dAt f v
def sp_hop : Sp := fun vs H Q _ => ∃ (n p g : Nat) (r b : Addr) (rs ds : List Addr) (es : Es), vs = [.ref r, .ref b, .int p, .int g] ∧ Near es n H r rs ∧ Ways es n H b ds ∧ Val es n ∧ Conn es n ∧ n ≤ 100 ∧ es.length ≤ 1000 ∧ p < n ∧ g < n ∧ ∀ H' m, Ex H H' → Hop es n p g m → Q (.int (m : Nat)) H'
theorem c_hop {n p g : Nat} {r b : Addr} {rs ds : List Addr} {es : Es} {H : Hp} {Q : VK} {E : XK} (h1 : Near es n H r rs) (h2 : Ways es n H b ds) (h3 : Val es n) (h4 : Conn es n) (h5 : n ≤ 100 ∧ es.length ≤ 1000) (h6 : p < n) (h7 : g < n) (q : ∀ H' m, Ex H H' → Hop es n p g m → Q (.int (m : Nat)) H') : sp_hop [.ref r, .ref b, .int p, .int g] H Q E :=
  ⟨n, p, g, r, b, rs, ds, es, rfl, h1, h2, h3, h4, h5.1, h5.2, h6, h7, q⟩
theorem dAt_isD {es : Es} {n g : Nat} {f : List Int} (F : IsD es n g f) {v : Nat} (h : v < n) : v < f.length := by rw [F.len]; exact h
theorem ok_hop (T : Glo mg) (D : Dn K mg "next_hop" s_next_hop p_next_hop) : Cal P w K mg base "next_hop" 1 p_next_hop sp_hop := by
  refine D.ok sc_next_hop (fun vs H Q E h => ?_) (fun f cdv A outer s H vs Q E hr h => ?_)
  · obtain ⟨_, _, _, _, _, _, _, _, rfl, _⟩ := h
    rfl
  obtain ⟨n, p, g, r, b, rs, ds, es, rfl, N1, W1, hval, hcon, hn, hes, hp, hg, q⟩ := h
  refine ⟨_, (pss_cons (ps_if (pt_cmpR (op_eqA (hu64 hr)) (pv 2) (pv 3) (nomark _)) (pss_one (ps_ret (pv 2))) pss_nil) (pss_one (ps_ret (pe_ix ix_seq (pe_callB (cr_minT rfl (hu64 hr)) rfl T.n_min (by decide +kernel) (pa_cons (pe_lc (own := [("other", 4)]) (tt := tYes) rfl sc_next_hop.nd (pi_list (pe_ix ix_seq (pv 0) (pv 2) (fun _ _ => rfl))) (blkOk_by (N := ["near", "ways", "p", "goal", "other"]) (sc := defScope s_next_hop) (by decide +kernel)) (fun _ _ _ _ _ => (pg_name (i := 4) sc_next_hop.nd rfl (by first | exact Or.inl rfl | exact Or.inr rfl))) (fun _ _ _ _ _ => pts_nil) (fun _ _ _ _ _ => (pe_tup (pa_cons (pe_ix (ix_seqK (K := K) rfl) (pe_ix (ix_seqK (K := K) rfl) (pv 1) (pv 3) (fun _ _ => rfl)) (pv 4) (fun _ _ => rfl)) (pa_cons (pv 4) pa_nil))))) pa_nil)) pe_int (fun _ _ => rfl))))), ?_⟩
  try dsimp only [cxOf, Cx.nox]
  repeat' walk_at "st"
  · have e : p = g := Int.ofNat_inj.mp (by assumption)
    exact q H p (Ex.refl _) ⟨fun _ => rfl, fun z => absurd e z⟩
  have npg : p ≠ g := fun z => absurd (congrArg Int.ofNat z) (by assumption)
  obtain ⟨f, hf, F⟩ := W1.row g hg
  refine q_ixL (sql N1.ob) (rg_at (by rw [N1.len]; exact hp)) ?_
  refine q_iL (sql (N1.row p hp)) ?_
  intro L hL
  refine lc_list (xs := nats (nbs es p)) (fun i H2 => Ex H H2 ∧ ∃ ts, H2 L = some (.lst ts) ∧ Paired (TupII H2) ts (((nbs es p).take i).map fun u => (dAt f u, (u : Int)))) ?_ ?_ ?_ ?_
  · exact ⟨ex_updF (Ex.refl _) hL, [], upd_same, .nil⟩
  · rintro i H2 _ ⟨e2, _⟩
    exact sql (e2 _ _ (N1.row p hp))
  · rintro i x H2 hi ⟨e2, ts, h2, hp2⟩
    obtain ⟨u, hu, rfl⟩ := nats_in hi
    have au : Adj es p u := mem_nbs.mp (List.mem_of_getElem? hu)
    have ul := (hval.adj au).2.1
    have b9 := nbs_le es p
    refine ⟨rfl, ?_⟩
    repeat' walk_at "st"
    refine q_ixL (sql (e2 _ _ W1.ob)) (rg_at (by rw [W1.len]; exact hg)) ?_
    repeat' walk_at "st"
    refine q_ixL (sql (e2 _ _ hf)) (iv_at (dAt_isD F ul)) ?_
    repeat' walk_at "st"
    have tl : ts.length ≤ 2000 := by
      rw [paired_len hp2, List.length_map, List.length_take]
      omega
    have tL : p ≠ L := (ne_of_none h2 (by assumption)).symm
    refine ⟨ts, ke _ _ h2, sl1000' (by omega), ex_updF (e2.trans ke) hL, _, upd_same, ?_⟩
    rw [List.take_add_one, hu]
    rw [show (some u).toList = [u] from rfl]
    rw [List.map_append]
    refine paired_snoc ?_ (paired_imp (fun v w k => ?_) hp2)
    · exact ⟨p, rfl, by rw [upd_ne tL]; assumption⟩
    · obtain ⟨t2, rfl, ht2⟩ := k
      refine ⟨t2, rfl, ?_⟩
      rw [upd_ne (fun z => by rw [z, h2] at ht2; cases ht2)]
      exact ke _ _ ht2
  · rintro H2 ⟨e2, ts, h2, hp2⟩
    rw [show (nats (nbs es p)).length = (nbs es p).length by unfold nats; rw [List.length_map], List.take_length] at hp2
    have dpos : 0 < dAt f p := by
      have h0 := hcon g f p F hp
      by_cases c : dAt f p = 0
      · exact absurd (F.zero p c) npg
      · omega
    repeat' walk_at "st"
    refine ⟨L, ts, _, rfl, h2, hp2, ?_, ?_⟩
    · obtain ⟨u, hu, _⟩ := F.pre p dpos
      rw [List.length_map]
      exact List.length_pos_of_mem (mem_nbs.mpr hu.sym)
    · intro i v y hv hy hall
      obtain ⟨y', hy', t, rfl, ht⟩ := paired_at hp2 hv
      rw [hy] at hy'
      cases hy'
      rw [List.getElem?_map] at hy
      obtain ⟨u, hu, rfl⟩ := Option.map_eq_some_iff.mp hy
      have mu := mem_nbs.mp (List.mem_of_getElem? hu)
      repeat' walk_at "st"
      refine q H2 u e2 ⟨fun z => absurd z npg, fun _ f' F' => ?_⟩
      rw [isD_eq F' F]
      refine hop_least F dpos mu (fun z hz => ?_)
      have := hall _ (List.mem_map.mpr ⟨z, mem_nbs.mpr hz, rfl⟩)
      unfold ltP at this
      simp only at this
      split at this
      · rename_i c
        simp only [decide_eq_false_iff_not] at this
        exact .inr ⟨c.symm, by omega⟩
      · simp only [decide_eq_false_iff_not] at this
        exact .inl (by omega)
structure Hops (es : Es) (n : Nat) (H : Hp) (b : Addr) (hs : List Addr) : Prop where
  ob : H b = some (.lst (hs.map V.ref))
  len : hs.length = n
  row : ∀ p, p < n → ∃ ms : List Nat, H (rg hs p) = some (.lst (nats ms)) ∧ ms.length = n ∧ ∀ g m, ms[g]? = some m → Hop es n p g m
theorem hops_ex {es : Es} {n : Nat} {H H' : Hp} {r : Addr} {rs : List Addr} (e : Ex H H') (h : Hops es n H r rs) : Hops es n H' r rs := ⟨e _ _ h.ob, h.len, fun v hv => by
  obtain ⟨f, h1, h2⟩ := h.row v hv
  exact ⟨f, e _ _ h1, h2⟩⟩
def sp_hops : Sp := fun vs H Q _ => ∃ (n : Nat) (a : Addr) (es : Es), vs = [.int n, .ref a] ∧ LkI H a (casts es) ∧ Val es n ∧ Conn es n ∧ n ≤ 100 ∧ es.length ≤ 1000 ∧ ∀ H' p hs, Ex H H' → Hops es n H' p hs → Q (.ref p) H'
theorem c_hops {n : Nat} {a : Addr} {es : Es} {H : Hp} {Q : VK} {E : XK} (h1 : LkI H a (casts es)) (h2 : Val es n) (h3 : Conn es n) (h4 : n ≤ 100 ∧ es.length ≤ 1000) (q : ∀ H' p hs, Ex H H' → Hops es n H' p hs → Q (.ref p) H') : sp_hops [.int n, .ref a] H Q E :=
  ⟨n, a, es, rfl, h1, h2, h3, h4.1, h4.2, q⟩
theorem ok_hops (T : Glo mg) (D : Dn K mg "next_hops" s_next_hops p_next_hops) (G_neighbours : Cal P w K mg base "neighbours" 1 p_neighbours sp_nbs) (G_distances : Cal P w K mg base "distances" 2 p_distances sp_dist) (G_next_hop : Cal P w K mg base "next_hop" 1 p_next_hop sp_hop) : Cal P w K mg base "next_hops" 3 p_next_hops sp_hops := by
  refine D.ok sc_next_hops (fun vs H Q E h => ?_) (fun f cdv A outer s H vs Q E hr h => ?_)
  · obtain ⟨_, _, _, rfl, _⟩ := h
    rfl
  obtain ⟨n, a, es, rfl, hlk, hval, hcon, hn, hes, q⟩ := h
  refine ⟨_, (pss_cons (ps_set (i := 2) sc_next_hops.nd rfl (by first | exact Or.inl rfl | exact Or.inr rfl) (pe_cal G_neighbours (hr.mono (by walk_at "lev")) rfl (pa_cons (pv 0) (pa_cons (pv 1) pa_nil)))) (pss_cons (ps_set (i := 3) sc_next_hops.nd rfl (by first | exact Or.inl rfl | exact Or.inr rfl) (pe_lc (own := [("goal", 4)]) (tt := tYes) rfl sc_next_hops.nd (pi_range1 rfl T.n_range (pa_cons (pv 0) pa_nil)) (blkOk_by (N := ["processors", "links", "near", "ways", "goal", "p"]) (sc := defScope s_next_hops) (by decide +kernel)) (fun _ _ _ _ _ => (pg_name (i := 4) sc_next_hops.nd rfl (by first | exact Or.inl rfl | exact Or.inr rfl))) (fun _ _ _ _ _ => pts_nil) (fun _ _ _ _ _ => (pe_cal G_distances (hr.mono (by walk_at "lev")) rfl (pa_cons (pv 0) (pa_cons (pv 1) (pa_cons (pv 4) pa_nil))))))) (pss_one (ps_ret (pe_lc (own := [("p", 5)]) (tt := tYes) rfl sc_next_hops.nd (pi_range1 rfl T.n_range (pa_cons (pv 0) pa_nil)) (blkOk_by (N := ["processors", "links", "near", "ways", "goal", "p"]) (sc := defScope s_next_hops) (by decide +kernel)) (fun _ _ _ _ _ => (pg_name (i := 5) sc_next_hops.nd rfl (by first | exact Or.inl rfl | exact Or.inr rfl))) (fun _ _ _ _ _ => pts_nil) (fun _ _ _ _ _ => (pe_lc (own := [("goal", 4)]) (tt := tYes) rfl sc_next_hops.nd (pi_range1 rfl T.n_range (pa_cons (pv 0) pa_nil)) (blkOk_by (N := ["processors", "links", "near", "ways", "goal", "p"]) (by kernel_rfl)) (fun _ _ _ _ _ => (pg_name (i := 4) sc_next_hops.nd rfl (by first | exact Or.inl rfl | exact Or.inr rfl))) (fun _ _ _ _ _ => pts_nil) (fun _ _ _ _ _ => (pe_cal G_next_hop (hr.mono (by walk_at "lev")) rfl (pa_cons (pv 2) (pa_cons (pv 3) (pa_cons (pv 5) (pa_cons (pv 4) pa_nil))))))))))))), ?_⟩
  try dsimp only [cxOf, Cx.nox]
  repeat' walk_at "st"
  refine c_nbs hlk hval hn hes (fun H1 r rs e1 hr1 N1 => ?_)
  repeat' walk_at "st"
  intro L hL
  refine lc_range (lo := 0) (n := ((n : Nat) : Int).toNat) (fun i H2 => Ex H1 H2 ∧ ∃ ds : List Addr, ds.length = i ∧ H2 L = some (.lst (ds.map V.ref)) ∧ ∀ g, g < i → rg ds g ≠ L ∧ ∃ f, H2 (rg ds g) = some (.lst (iv f)) ∧ IsD es n g f) ?_ ?_ ?_
  · exact ⟨ex_updF (Ex.refl _) hL, [], rfl, upd_same, fun v hv => absurd hv (Nat.not_lt_zero v)⟩
  · rintro i H2 hi ⟨e2, ds, ld, h2, hv2⟩
    rw [Int.toNat_natCast] at hi
    refine ⟨rfl, ?_⟩
    repeat' walk_at "st"
    rw [Int.zero_add]
    refine c_dist (lk_ex (e1.trans e2) hlk) hval hn hes hi (fun H3 t f k3 ht hf F => ?_)
    have tL : t ≠ L := (ne_of_none h2 ht).symm
    refine ⟨ds.map V.ref, k3 _ _ h2, sl1000' (by rw [List.length_map]; omega), ex_updF (e2.trans k3) hL, ds ++ [t], by simp [ld], ?_, fun g hg => ?_⟩
    · rw [upd_same, List.map_append]
      rfl
    · by_cases c : g < i
      · rw [rg_app (by omega)]
        obtain ⟨x1, f', x2, x3⟩ := hv2 g c
        exact ⟨x1, f', by rw [upd_ne x1]; exact k3 _ _ x2, x3⟩
      · have eg : g = ds.length := by omega
        rw [eg, rg_end]
        exact ⟨tL, f, by rw [upd_ne tL]; exact hf, by rw [ld]; exact F⟩
  · rintro H2 ⟨e2, ds, ld, h2, hv2⟩
    rw [Int.toNat_natCast] at ld hv2
    have W2 : Ways es n H2 L ds := ⟨h2, ld, fun g hg => (hv2 g hg).2⟩
    repeat' walk_at "st"
    intro M hM
    refine lc_range (lo := 0) (n := ((n : Nat) : Int).toNat) (fun i H3 => Ex H2 H3 ∧ ∃ hs : List Addr, hs.length = i ∧ H3 M = some (.lst (hs.map V.ref)) ∧ ∀ p, p < i → rg hs p ≠ M ∧ ∃ ms : List Nat, H3 (rg hs p) = some (.lst (nats ms)) ∧ ms.length = n ∧ ∀ g m, ms[g]? = some m → Hop es n p g m) ?_ ?_ ?_
    · exact ⟨ex_updF (Ex.refl _) hM, [], rfl, upd_same, fun v hv => absurd hv (Nat.not_lt_zero v)⟩
    · rintro i H3 hi ⟨e3, hs, lh, h3, hv3⟩
      rw [Int.toNat_natCast] at hi
      refine ⟨rfl, ?_⟩
      repeat' walk_at "st"
      intro R hR
      have MR : M ≠ R := ne_of_none h3 hR
      refine lc_range (lo := 0) (n := ((n : Nat) : Int).toNat) (fun j H4 => Ex H3 H4 ∧ ∃ ms : List Nat, ms.length = j ∧ H4 R = some (.lst (nats ms)) ∧ ∀ g m, ms[g]? = some m → Hop es n i g m) ?_ ?_ ?_
      · exact ⟨ex_updF (Ex.refl _) hR, [], rfl, upd_same, fun g m z => by cases z⟩
      · rintro j H4 hj ⟨e4, ms, lm, h4, hv4⟩
        rw [Int.toNat_natCast] at hj
        refine ⟨rfl, ?_⟩
        repeat' walk_at "st"
        rw [Int.zero_add, Int.zero_add]
        refine c_hop (near_ex (e2.trans (e3.trans e4)) N1) (ways_ex (e3.trans e4) W2) hval hcon ⟨hn, hes⟩ hi hj (fun H5 m k5 hm => ?_)
        refine ⟨nats ms, k5 _ _ h4, sl1000' (by unfold nats; rw [List.length_map]; omega), ex_updF (e4.trans k5) hR, ms ++ [m], by simp [lm], ?_, fun g m' hg => ?_⟩
        · rw [upd_same]
          unfold nats
          rw [List.map_append]
          rfl
        · by_cases c : g < ms.length
          · rw [List.getElem?_append_left c] at hg
            exact hv4 g m' hg
          · have lg := (List.getElem?_eq_some_iff.mp hg).1
            rw [List.length_append, List.length_singleton] at lg
            have eg : g = ms.length := by omega
            rw [eg, List.getElem?_append_right (Nat.le_refl _), Nat.sub_self] at hg
            cases hg
            rw [eg, lm]
            exact hm
      · rintro H4 ⟨e4, ms, lm, h4, hv4⟩
        rw [Int.toNat_natCast] at lm
        refine ⟨hs.map V.ref, e4 _ _ h3, sl1000' (by rw [List.length_map]; omega), ex_updF (e3.trans e4) hM, hs ++ [R], by simp [lh], ?_, fun p hp => ?_⟩
        · rw [upd_same, List.map_append]
          rfl
        · by_cases c : p < i
          · rw [rg_app (by omega)]
            obtain ⟨x1, ms', x2, x3⟩ := hv3 p c
            exact ⟨x1, ms', by rw [upd_ne x1]; exact e4 _ _ x2, x3⟩
          · have eg : p = hs.length := by omega
            rw [eg, rg_end]
            exact ⟨MR.symm, ms, by rw [upd_ne MR.symm]; exact h4, lm, by rw [lh]; exact hv4⟩
    · rintro H3 ⟨e3, hs, lh, h3, hv3⟩
      rw [Int.toNat_natCast] at lh hv3
      exact q H3 M hs (e1.trans (e2.trans e3)) ⟨h3, lh, fun p hp => (hv3 p hp).2⟩
variable {CL CP : Addr}
/-! ### what is due -/
abbrev s_PlanError___init__ : Stmt := inClass (topS 2) 0
theorem sc_PlanError___init__ : FnScope ["self", "reason"] ["self", "reason"] (defScope s_PlanError___init__) := ⟨rfl, rfl, rfl, by decide +kernel, rfl, by decide +kernel, by decide +kernel⟩
abbrev p_PlanError___init__ : List Str := ["self", "reason"]
theorem w_enum {K : PySem.W.Frag} {g : TG} {ts : Ends → St → Hp → Prop} {nx : St → Hp → Prop} {rt : VK} {σ : St} {H : Hp} {a : Addr} {xs : List V} (Pv : Nat → St → Hp → Prop) (h0 : Pv 0 σ H) (hl : ∀ i σ H, i ≤ xs.length → Pv i σ H → SqL K H a xs)
    (hs : ∀ i x T σ H, xs[i]? = some x → Pv i σ H → H T = none → g (.ref T) σ (upd H T (.tup [.int (i : Nat), x])) fun σ2 H2 => ts ⟨Pv (i + 1), rt, nx, Pv (i + 1)⟩ σ2 H2) (hd : ∀ σ H, Pv xs.length σ H → nx σ H) :
    ∃ W : Nat → Nat → St → Hp → Prop, (∃ m, W 0 m σ H) ∧ ∀ i m σ H, W i m σ H →
      ((Ite K a).stop i H ∧ nx σ H) ∨ ((Ite K a).go i H ∧ ∃ N : St → Hp → Prop, (∀ σ' H', N σ' H' → ∃ m', m' < m ∧ W (i + 1) m' σ' H') ∧ ∀ x H', (Ite K a).yld i H x H' → g x σ H' fun σ2 H2 => ts ⟨N, rt, nx, N⟩ σ2 H2) :=
  for_it (D := ⟨nx, rt, nx, nx⟩) walk_enum Pv h0 hl (fun i x σ H H' _ p y => by
    obtain ⟨T, u, v, h1, h2, h3, h4, h5⟩ := y
    subst h1
    subst h3
    cases h4
    exact hs i v T σ H h5 p h2) hd
theorem r_iEnum {K : PySem.W.Frag} {ta : TA} {σ : St} {H : Hp} {R : It → Hp → Prop} (q : ta σ H fun vs H1 => ∃ a xs, vs = [.ref a] ∧ SqL K H1 a xs ∧ R (Ite K a) H1) : iEnum K ta σ H R := q
theorem q_iEnum {K : PySem.W.Frag} {H : Hp} {a : Addr} {xs : List V} {B : Addr → Prop} (h : SqL K H a xs) (q : B a) : ∃ b ys, [V.ref a] = [.ref b] ∧ SqL K H b ys ∧ B b := ⟨a, xs, rfl, h, q⟩
theorem cut_to (xs : List V) {k : Nat} (h : k ≤ xs.length) : cutV xs none (some (k : Int)) = xs.take k := by
  unfold cutV
  rw [HT.sIx_none, HT.sIx_nat, List.drop_zero, Nat.sub_zero, Nat.min_eq_left h]
theorem q_slTo {p : Addr} {xs : List V} {k : Nat} {H : Hp} {Q : VK} (h : SqL K H p xs) (hk : k ≤ xs.length) (q : ∀ p Hn, H p = none → Ex H Hn → Hn p = some (.lst (xs.take k)) → Q (.ref p) Hn) : rSlA K (.ref p) none (some (k : Int)) H Q :=
  .inl ⟨p, xs, rfl, h, fun p hp => q p _ hp (Ex.mk hp rfl) (by rw [upd_same, cut_to _ hk])⟩
def dP (p : Int × Int) : PyData := .tuple [.int p.1, .int p.2]
theorem dp_pair {H : Hp} {v : V} {p : Int × Int} (h : TupII H v p) : Dp K H v (dP p) := by
  obtain ⟨q, rfl, hq⟩ := h
  exact .tup (sqt hq) (.cons (.int _) (.cons (.int _) .nil))
theorem dp_pairs {H : Hp} : ∀ {vs : List V} {ls : List (Int × Int)}, Paired (TupII H) vs ls → DpAll K H vs (ls.map dP)
  | _, _, .nil => .nil
  | _, _, .cons a t => .cons (dp_pair a) (dp_pairs t)
theorem eqv_dP (p q : Int × Int) : PyData.eqv (dP p) (dP q) = decide (p = q) := by
  obtain ⟨a, b⟩ := p
  obtain ⟨c, d⟩ := q
  simp only [dP, PyData.eqv, PyData.eqvAll, Bool.and_true, Prod.mk.injEq, Bool.decide_and]
  rfl
theorem lay_dP : ∀ ls : List (Int × Int), PyData.canLayAll0 (ls.map dP) = true
  | [] => by simp [PyData.canLayAll0]
  | p :: r => by simp [PyData.canLayAll0, dP, PyData.canLay0, lay_dP r]
theorem depth_dP : ∀ ls : List (Int × Int), PyData.depthAll (ls.map dP) ≤ 1
  | [] => by simp [PyData.depthAll]
  | p :: r => by
    have h := depth_dP r
    have e : PyData.depth (dP p) = 1 := by simp [dP, PyData.depth, PyData.depthAll]
    rw [List.map_cons, PyData.depthAll, e]
    omega
theorem sh_dP (p : Int × Int) : SeqAt.shaped (dP p) = true := by simp [SeqAt.shaped, dP, PyData.canLay0, PyData.canLayAll0, PyData.depth, PyData.depthAll]
theorem sh_dPs (ls : List (Int × Int)) : SeqAt.shaped (.list (ls.map dP)) = true := by
  have h1 := lay_dP ls
  have h2 := depth_dP ls
  have e1 : PyData.depth (.list (ls.map dP)) = PyData.depthAll (ls.map dP) + 1 := by rw [PyData.depth]
  have e2 : PyData.canLay0 (.list (ls.map dP)) = PyData.canLayAll0 (ls.map dP) := by rw [PyData.canLay0]
  unfold SeqAt.shaped
  rw [e1, e2, h1, Bool.true_and, decide_eq_true_eq]
  omega
theorem any_dP (p : Int × Int) (ls : List (Int × Int)) : ((ls.map dP).any fun z => PyData.eqv z (dP p)) = decide (p ∈ ls) := by
  induction ls with
  | nil => simp
  | cons q r ih =>
    rw [List.map_cons, List.any_cons, ih, eqv_dP]
    by_cases h : q = p
    · simp [h]
    · have : ¬ p = q := fun z => h z.symm
      simp [h, this]
theorem q_inP {t l : Addr} {p : Int × Int} {vs : List V} {ls : List (Int × Int)} {H : Hp} {Q : VK} (h1 : H t = some (.tup [.int p.1, .int p.2])) (h2 : H l = some (.lst vs)) (h3 : Paired (TupII H) vs ls) (q : Q (.bl (decide (p ∈ ls))) H) : rInD K (.ref t) (.ref l) H Q :=
  ⟨dP p, ls.map dP, dp_pair ⟨t, rfl, h1⟩, .lst (sql h2) (dp_pairs h3), sh_dP p, sh_dPs ls, by rw [any_dP]; exact q⟩
theorem paired_take {α β : Type} {F : α → β → Prop} : ∀ {xs : List α} {ys : List β} (k : Nat), Paired F xs ys → Paired F (xs.take k) (ys.take k)
  | _, _, 0, _ => by rw [List.take_zero, List.take_zero]; exact .nil
  | _, _, _ + 1, .nil => .nil
  | _, _, k + 1, .cons a t => .cons a (paired_take k t)
theorem in_iv (x : Int) (f : List Int) : inV (.int x) (iv f) = decide (x ∈ f) := by
  unfold inV iv
  rw [List.any_map, Bool.eq_iff_iff, List.any_eq_true, decide_eq_true_eq]
  constructor
  · rintro ⟨y, hy, e⟩
    have : y = x := by simpa [eqV] using e
    rw [← this]
    exact hy
  · intro h
    exact ⟨x, h, by simp [eqV]⟩
theorem flat_iv (f : List Int) : (iv f).all flatV = true := by
  unfold iv
  rw [List.all_map, List.all_eq_true]
  intro x _
  rfl
def BadAt (n : Int) (ls : List (Int × Int)) (k : Nat) : Prop := ∃ a b, ls[k]? = some (a, b) ∧ (a < 0 ∨ b ≤ a ∨ n ≤ b ∨ (a, b) ∈ ls.take k)
theorem no_bad {n : Int} {ls : List (Int × Int)} (hn : 1 ≤ n) (h : ∀ k, k < ls.length → ¬ BadAt n ls k) : ∃ es, ls = casts es ∧ Val es n.toNat := by
  have hm : ∀ p ∈ ls, 0 ≤ p.1 ∧ p.1 < p.2 ∧ p.2 < n := by
    intro p hp
    obtain ⟨k, hk, e⟩ := List.mem_iff_getElem.mp hp
    have h1 := h k hk
    have e2 : ls[k]? = some (p.1, p.2) := by rw [List.getElem?_eq_getElem hk, e]
    have n1 : ¬ (p.1 < 0) := fun z => h1 ⟨_, _, e2, .inl z⟩
    have n2 : ¬ (p.2 ≤ p.1) := fun z => h1 ⟨_, _, e2, .inr (.inl z)⟩
    have n3 : ¬ (n ≤ p.2) := fun z => h1 ⟨_, _, e2, .inr (.inr (.inl z))⟩
    omega
  refine ⟨ls.map fun p => (p.1.toNat, p.2.toNat), ?_, ?_⟩
  · unfold casts
    rw [List.map_map]
    conv => lhs; rw [← List.map_id ls]
    refine List.map_congr_left fun p hp => ?_
    obtain ⟨h1, h2, _⟩ := hm p hp
    obtain ⟨a, b⟩ := p
    simp only [Function.comp, id, Prod.mk.injEq] at *
    omega
  · intro e he
    obtain ⟨p, hp, rfl⟩ := List.mem_map.mp he
    obtain ⟨h1, h2, h3⟩ := hm p hp
    simp only
    omega
theorem val_good {n : Nat} {es : Es} {k : Nat} (h : Val es n) (hd : ∀ k a b, (casts es)[k]? = some (a, b) → (a, b) ∉ (casts es).take k) : ¬ BadAt n (casts es) k := by
  rintro ⟨a, b, h1, h2⟩
  have h3 := hd k a b h1
  unfold casts at h1
  rw [List.getElem?_map] at h1
  obtain ⟨e, he, h4⟩ := Option.map_eq_some_iff.mp h1
  have := h e (List.mem_of_getElem? he)
  cases h4
  rcases h2 with h2 | h2 | h2 | h2
  · omega
  · omega
  · omega
  · exact h3 h2
inductive Due (n : Int) (ls : List (Int × Int)) : Str → Prop
  | num : n < 1 ∨ 6 < n → Due n ls "processors"
  | lnk (k : Nat) : 1 ≤ n → n ≤ 6 → BadAt n ls k → Due n ls "links"
  | prt (m : Nat) (es : Es) (f : List Int) : n = m → 1 ≤ m → m ≤ 6 → ls = casts es → Val es m → (∀ k, ¬ BadAt n ls k) → IsD es m 0 f → -1 ∈ f → Due n ls "parts"
  | ok (m : Nat) (es : Es) (f : List Int) : n = m → 1 ≤ m → m ≤ 6 → ls = casts es → Val es m → (∀ k, ¬ BadAt n ls k) → IsD es m 0 f → -1 ∉ f → Due n ls ""
theorem casts_inj : ∀ {es fs : Es}, casts es = casts fs → es = fs
  | [], [], _ => rfl
  | [], _ :: _, h => by simp [casts] at h
  | _ :: _, [], h => by simp [casts] at h
  | e :: es, f :: fs, h => by
    simp only [casts, List.map_cons, List.cons.injEq, Prod.mk.injEq] at h
    have := casts_inj (es := es) (fs := fs) h.2
    rw [this, Prod.ext (Int.ofNat_inj.mp h.1.1) (Int.ofNat_inj.mp h.1.2)]
theorem due_eq {n : Int} {ls : List (Int × Int)} {r t : Str} (a : Due n ls r) (b : Due n ls t) : r = t := by
  cases a with
  | num h =>
    cases b with
    | num => rfl
    | lnk k h1 h2 => omega
    | prt m es f e h1 h2 => omega
    | ok m es f e h1 h2 => omega
  | lnk k h1 h2 h3 =>
    cases b with
    | num => omega
    | lnk => rfl
    | prt m es f e h4 h5 h6 h7 h8 => exact absurd h3 (h8 k)
    | ok m es f e h4 h5 h6 h7 h8 => exact absurd h3 (h8 k)
  | prt m es f e h1 h2 h3 h4 h5 h6 h7 =>
    cases b with
    | num => omega
    | lnk k _ _ h => exact absurd h (h5 k)
    | prt => rfl
    | ok m' es' f' e' g1 g2 g3 g4 g5 g6 g7 =>
      have em : m = m' := Int.ofNat_inj.mp (e.symm.trans e')
      have ee : es = es' := casts_inj (h3.symm.trans g3)
      subst em
      subst ee
      rw [isD_eq h6 g6] at h7
      exact absurd h7 g7
  | ok m es f e h1 h2 h3 h4 h5 h6 h7 =>
    cases b with
    | num => omega
    | lnk k _ _ h => exact absurd h (h5 k)
    | ok => rfl
    | prt m' es' f' e' g1 g2 g3 g4 g5 g6 g7 =>
      have em : m = m' := Int.ofNat_inj.mp (e.symm.trans e')
      have ee : es = es' := casts_inj (h3.symm.trans g3)
      subst em
      subst ee
      rw [isD_eq h6 g6] at h7
      exact absurd g7 h7
def sp_check (C : Addr) : Sp := fun vs H Q E => ∃ (n : Int) (a : Addr) (ls : List (Int × Int)), vs = [.int n, .ref a] ∧ LkI H a ls ∧ ls.length ≤ 1000 ∧ (∀ H', Ex H H' → Due n ls "" → Q .non H') ∧
  (∀ r d H', Ex H H' → H' d = some (.xd [(("reason" : Str), .str r)]) → Due n ls r → E (.ref C) (some d) H')
theorem ok_check (T : Glo mg) (D : Dn K mg "check_network" s_check_network p_check_network) (T_PlanError : ErrC K mg "PlanError" CL "reason") (M_PlanError : MakE P w K mg base CL 1 p_PlanError___init__ (sp_einit CL "reason")) (G_distances : Cal P w K mg base "distances" 2 p_distances sp_dist) : CalX P w K mg base "check_network" 3 p_check_network (sp_check CL) := by
  refine D.okX sc_check_network (fun vs H Q E h => ?_) (fun f cdv A outer s H vs Q E hr h => ?_)
  · obtain ⟨_, _, _, rfl, _⟩ := h
    rfl
  obtain ⟨n, a, ls, rfl, hlk, hls, q, qe⟩ := h
  have tk := takes_def (P := P) (w := w) (K := K) (mg := mg) (base := base) (N := (["processors", "links", "index", "a", "b"] : List Str)) (x := "check_network") (sc := defScope s_check_network) (f := f) (cdv := cdv) (A := A) (outer := outer) (s := s) (H := H) (E := E)
  have po := passes_def (P := P) (w := w) (K := K) (mg := mg) (base := base) (N := (["processors", "links", "index", "a", "b"] : List Str)) (x := "check_network") (sc := defScope s_check_network) (f := f) (cdv := cdv) (A := A) (outer := outer) (s := s) (H := H) (E := E)
  refine ⟨_, (pss_cons (ps_if (PW.pt (pw_or (pt_cmpR op_lt (pv 0) pe_int (nomark _)) (pw_or1 (pt_cmpR op_gt (pv 0) (pe_globC rfl T.c_MOST_PROCESSORS) (nomark _))))) (pss_one (ps_err rfl tk T_PlanError M_PlanError (hr.mono (by walk_at "lev")) rfl (pa_cons pe_str pa_nil))) pss_nil) (pss_cons (ps_for po rfl (pi_enum rfl T.n_enumerate (pa_cons (pv 1) pa_nil)) (pg_tup rfl (pgs_cons (pg_name (i := 2) sc_check_network.nd rfl (by first | exact Or.inl rfl | exact Or.inr rfl)) (pgs_cons (pg_tup rfl (pgs_cons (pg_name (i := 3) sc_check_network.nd rfl (by first | exact Or.inl rfl | exact Or.inr rfl)) (pgs_cons (pg_name (i := 4) sc_check_network.nd rfl (by first | exact Or.inl rfl | exact Or.inr rfl)) pgs_nil))) pgs_nil))) (pss_one (ps_if (PW.pt (pw_or (pt_cmpR op_lt (pv 3) pe_int (nomark _)) (pw_or (pt_cmpR op_ge (pv 3) (pv 4) (nomark _)) (pw_or (pt_cmpR op_ge (pv 4) (pv 0) (nomark _)) (pw_or1 (pt_cmpR (op_inD (hu65 hr)) (pe_tup (pa_cons (pv 3) (pa_cons (pv 4) pa_nil))) (pe_slice sl_any (pv 1) po_none (po_some (pv 2))) (by rfl))))))) (pss_one (ps_err rfl tk T_PlanError M_PlanError (hr.mono (by walk_at "lev")) rfl (pa_cons pe_str pa_nil))) pss_nil))) (pss_one (ps_if (pt_cmpR op_in_seq (pe_un un_neg pe_int) (pe_cal G_distances (hr.mono (by walk_at "lev")) rfl (pa_cons (pv 0) (pa_cons (pv 1) (pa_cons pe_int pa_nil)))) (by rfl)) (pss_one (ps_err rfl tk T_PlanError M_PlanError (hr.mono (by walk_at "lev")) rfl (pa_cons pe_str pa_nil))) pss_nil)))), ?_⟩
  try dsimp only [cxOf]
  obtain ⟨vs0, hvs0, hpr0⟩ := hlk
  have lvs := paired_len hpr0
  repeat' walk_at "st"
  · exact fun d H2 hd k2 h2 => qe _ d H2 k2 h2 (.num (.inl (by assumption)))
  · exact fun d H2 hd k2 h2 => qe _ d H2 k2 h2 (.num (.inr (by assumption)))
  have n1 : 1 ≤ n := by omega
  have n6 : n ≤ 6 := by omega
  refine r_iEnum ?_
  repeat' walk_at "st"
  refine q_iEnum (sql hvs0) ?_
  refine w_enum (xs := vs0) (fun i σ H' => ∃ y2 y3 y4 : Option V, σ = [some (.int n), some (.ref a), y2, y3, y4] ∧ Ex H H' ∧ ∀ k, k < i → ¬ BadAt n ls k) ?_ ?_ ?_ ?_
  · exact ⟨_, _, _, rfl, Ex.refl _, fun k hk => absurd hk (Nat.not_lt_zero k)⟩
  · rintro i σ H' _ ⟨_, _, _, _, e2, _⟩
    exact sql (e2 _ _ hvs0)
  · rintro i x T1 σ H' hi ⟨y2, y3, y4, rfl, e2, hb⟩ hT
    obtain ⟨⟨ax, bx⟩, hax, t, rfl, ht⟩ := paired_at hpr0 hi
    simp only at ht
    generalize hq9 : upd H' T1 _ = H9
    have x9 : Ex H' H9 := Ex.mk hT hq9
    have h9 := at_new hq9
    have ht9 := x9 _ _ (e2 _ _ ht)
    have hl9 := x9 _ _ (e2 _ _ hvs0)
    have bad : ∀ (hh : ax < 0 ∨ bx ≤ ax ∨ n ≤ bx ∨ (ax, bx) ∈ ls.take i) (d : Addr) (H2 : Hp), Ex H9 H2 → H2 d = some (.xd [(("reason" : Str), .str "links")]) → E (.ref CL) (some d) H2 := fun hh d H2 k2 h2 => qe _ d H2 (e2.trans (x9.trans k2)) h2 (.lnk i n1 n6 ⟨ax, bx, hax, hh⟩)
    have li : i < ls.length := (List.getElem?_eq_some_iff.mp hax).1
    repeat' walk_at "st"
    · exact fun d H2 hd k2 h2 => bad (.inl (by assumption)) d H2 k2 h2
    · exact fun d H2 hd k2 h2 => bad (.inr (.inl (by assumption))) d H2 k2 h2
    · exact fun d H2 hd k2 h2 => bad (.inr (.inr (.inl (by assumption)))) d H2 k2 h2
    refine q_slTo (sql (ke _ _ hl9)) (by omega) (fun p2 H3 hp2 k3 h3 => ?_)
    refine q_inP (p := (ax, bx)) (ls := ls.take i) (k3 _ _ hn) h3 (paired_take i (paired_imp (fun _ _ => tup_ex (e2.trans (x9.trans (ke.trans k3)))) hpr0)) ?_
    by_cases cc : (ax, bx) ∈ ls.take i
    · rw [decide_eq_true cc]
      repeat' walk_at "st"
      exact fun d H2 hd k2 h2 => bad (.inr (.inr (.inr cc))) d H2 (ke.trans (k3.trans k2)) h2
    · rw [decide_eq_false cc]
      repeat' walk_at "st"
      refine ⟨_, _, _, rfl, e2.trans (x9.trans (ke.trans k3)), fun k hk => ?_⟩
      by_cases ck : k < i
      · exact hb k ck
      · have ek : k = i := by omega
        subst ek
        rintro ⟨a1, b1, h1, h2⟩
        rw [hax] at h1
        cases h1
        rcases h2 with h2 | h2 | h2 | h2
        · omega
        · omega
        · omega
        · exact cc h2
  · rintro σ H' ⟨y2, y3, y4, rfl, e2, hb⟩
    rw [lvs] at hb
    obtain ⟨es, rfl, hval⟩ := no_bad n1 hb
    obtain ⟨m, rfl⟩ : ∃ m : Nat, n = m := ⟨n.toNat, by omega⟩
    rw [Int.toNat_natCast] at hval
    have hb2 : ∀ k, ¬ BadAt (m : Int) (casts es) k := fun k => by
      by_cases ck : k < (casts es).length
      · exact hb k ck
      · rintro ⟨a1, b1, h1, _⟩
        rw [List.getElem?_eq_none (by omega)] at h1
        cases h1
    have les : es.length ≤ 1000 := by
      have := hls
      unfold casts at this
      rw [List.length_map] at this
      exact this
    repeat' walk_at "st"
    refine c_dist (g := 0) ⟨vs0, e2 _ _ hvs0, paired_imp (fun _ _ => tup_ex e2) hpr0⟩ hval (by omega) les (by omega) (fun H3 t f k3 ht hf F => ?_)
    refine q_inL (sql hf) rfl (flat_iv f) ?_
    rw [in_iv]
    by_cases cc : (-1 : Int) ∈ f
    · rw [decide_eq_true cc]
      repeat' walk_at "st"
      exact fun d H2 hd k2 h2 => qe _ d H2 (e2.trans (k3.trans k2)) h2 (.prt m es f rfl (by omega) (by omega) rfl hval hb2 F cc)
    · rw [decide_eq_false cc]
      repeat' walk_at "st"
      exact q _ (e2.trans k3) (.ok m es f rfl (by omega) (by omega) rfl hval hb2 F cc)
/-! ### the law's helpers -/
theorem pe_globR {X : Cx} {x : Str} {a : Addr} {pos : Pos} (hg : Gl X x) (hm : X.mg x = some (.ref a)) (hd : (x == ("__debug__" : Str)) = false := by decide) : PE X (.Name x pos) (tC (.ref a)) := pe_glob hg hm rfl hd
structure Fam (K : PySem.W.Frag) (mg : Str → Option Value) (CL CP : Addr) : Prop where
  l : ErrC K mg "PlanError" CL "reason"
  p : mg "PlacedError" = some (.ref CP)
  kp : PySem.W.kitOne K (.ref CL) (.ref CP) = some true
  et : PySem.W.exmOne K (.ref CL) (.ref CL) = some true
def tIsX (K : PySem.W.Frag) (a : Addr) (cls : Value) (d : Option Addr) (i : Nat) (c : V) : TE := tCB (rIsX K a cls d) (tCons (tVar i) (tCons (tC c) tNil))
def tb__law_told (CL : Addr) : WX → TS := fun W => tDrop (tCallS (sp_check CL) (WE W) (tCons (tVar 0) (tCons (tVar 1) tNil)))
def ts__law_told (K : PySem.W.Frag) (CP : Addr) : Addr → Value → Option Addr → TS := fun a cls d => tRet (tIf (tB (tIsX K a cls d 2 (.ref CP))) (tXfE K a cls d "reason" (tVar 2)) (tC (.str "other")))
theorem q_isXr {a D dd : Addr} {x fl : Str} {fs : List (Str × V)} {E : Addr} {b : Bool} {H : Hp} {Q : VK} (T : ErrC K mg x D fl) (h : H dd = some (.xd fs)) (e : PySem.W.kitOne K (.ref D) (.ref E) = some b) (q : Q (.bl b) H) : rIsX K a (.ref D) (some dd) [.ref a, .ref E] H Q := q_isX T h (fun _ z => z) e q
theorem q_xfX {σ : L2.St} {a D dd : Addr} {x fl : Str} {v : V} {i : Nat} {H : Hp} {Q : VK} (T : ErrC K mg x D fl) (hi : σ[i]? = some (some (.ref a))) (h : H dd = some (.xd [(fl, v)])) (q : Q v H) : tXfE K a (.ref D) (some dd) fl (tVar i) σ H Q := q_xfE hi T.xf T.no h (by simp [List.lookup]) q
theorem r_isX {a : Addr} {cls : Value} {d : Option Addr} {i : Nat} {c v : V} {σ : L2.St} {H : Hp} {Q : VK} (hi : σ[i]? = some (some v)) (q : rIsX K a cls d [v, c] H Q) : tIsX K a cls d i c σ H Q := ⟨v, hi, q⟩
local macro_rules | `(tactic| walk_at "own") => `(tactic| first
  | ((with_reducible refine r_isX (v := ?v) ?h ?_); (case h => exact rfl))
  | ((with_reducible refine q_isXr (mg := ?mg) (x := ?x) (D := ?D) (fl := ?fl) (fs := ?fs) (b := ?b) ?t ?h ?e ?_); (case t => assumption); (case h => walk_at "lift"); (case e => assumption))
  | ((with_reducible refine q_xfX (mg := ?mg) (x := ?x) (v := ?v) ?t ?i ?h ?_); (case t => assumption); (case h => walk_at "lift"); (case i => exact rfl)))
def sp_told : Sp := fun vs H Q _ => ∃ (n : Int) (a : Addr) (ls : List (Int × Int)), vs = [.int n, .ref a] ∧ LkI H a ls ∧ ls.length ≤ 1000 ∧ ∀ H' r, Ex H H' → Due n ls r → Q (.str r) H'
theorem c_told {n : Int} {a : Addr} {ls : List (Int × Int)} {H : Hp} {Q : VK} {E : XK} (h1 : LkI H a ls) (h2 : ls.length ≤ 1000) (q : ∀ H' r, Ex H H' → Due n ls r → Q (.str r) H') : sp_told [.int n, .ref a] H Q E := ⟨n, a, ls, rfl, h1, h2, q⟩
theorem ok_told (T : Glo mg) (D : Dn K mg "_law_told" s__law_told p__law_told) (F : Fam K mg CL CP) (G_check_network : CalX P w K mg base "check_network" 3 p_check_network (sp_check CL)) : Cal P w K mg base "_law_told" 4 p__law_told sp_told := by
  refine D.ok sc__law_told (fun vs H Q E h => ?_) (fun f cdv A outer s H vs Q E hr h => ?_)
  · obtain ⟨_, _, _, rfl, _⟩ := h
    rfl
  obtain ⟨n, a, ls, rfl, hlk, hls, q⟩ := h
  have T_PlanError := F.l
  have g_PlacedError := F.p
  refine ⟨_, pss_cons (ps_try_as (i := 2) (tb := tb__law_told CL) (ts := ts__law_told K CP) (Wout := fun _ _ _ _ => False) rfl rfl sc__law_told.nd rfl rfl ⟨rfl, by decide, .inl T_PlanError.gC⟩ takes0 ?B ?S) (by exact (pss_one (ps_ret pe_str))), ?_⟩
  case B => exact fun W pn xe tk po => (pss_one (ps_expr (pe_calX G_check_network (hr.mono (by walk_at "lev")) rfl tk (pa_cons (pv 0) (pa_cons (pv 1) pa_nil)))))
  case S => exact fun a oe cls d pn hz hf => (pss_one (ps_ret (pe_ifExp (pt_val (pe_callB (call_isX hz hf) rfl T.n_isinstance (by decide +kernel) (pa_cons (pv 2) (pa_cons (pe_globR rfl g_PlacedError) pa_nil)))) (pe_xfE hz hf (pv 2)) pe_str)))
  try dsimp only [cxOf, Cx.nox]
  repeat' walk_at "st"
  show tb__law_told CL (wAs K (.ref CL) 2 _ _ _) _ _ _
  unfold tb__law_told
  repeat' walk_at "st"
  refine ⟨n, a, ls, rfl, hlk, hls, fun H' k du => ?_, fun r d H' k hd du => ?_⟩
  · repeat' walk_at "st"
    exact q _ _ k du
  · refine ⟨true, F.et, fun _ a ha => ?_, fun z => by cases z⟩
    have k4 := F.kp
    unfold ts__law_told
    repeat' walk_at "st"
    exact q _ _ k du
/-! ### a row of distances exists -/
theorem turn_go {es : Es} {n g p : Nat} (hv : Val es n) (hp : p < n) : ∀ (l dn : List Nat) (f : List Int) (q : List Nat), nbs es p = dn ++ l → Turn es n g p dn f q → ∃ f' q', Turn es n g p (nbs es p) f' q' ∧ cntN f' + q'.length = cntN f + q.length
  | [], dn, f, q, e, T => ⟨f, q, by rw [e, List.append_nil]; exact T, rfl⟩
  | w :: l, dn, f, q, e, T => by
    have aw : Adj es p w := mem_nbs.mp (by rw [e]; simp)
    have hw := (hv.adj aw).2.1
    have e2 : nbs es p = (dn ++ [w]) ++ l := by rw [e]; simp
    by_cases c : dAt f w < 0
    · obtain ⟨f', q', h1, h2⟩ := turn_go hv hp l _ _ _ e2 (turn_new T aw hw c)
      have ct := cnt_set (x := dAt f p + 1) (by rw [T.len]; exact hw) c (by have := T.at_p; omega)
      rw [List.length_append, List.length_singleton] at h2
      exact ⟨f', q', h1, by omega⟩
    · obtain ⟨f', q', h1, h2⟩ := turn_go hv hp l _ _ _ e2 (turn_old T (by omega))
      exact ⟨f', q', h1, h2⟩
theorem srch_ex {es : Es} {n g : Nat} (hv : Val es n) : ∀ (m : Nat) (f : List Int) (q : List Nat), Srch es n g f q → cntN f + q.length ≤ m → ∃ f', IsD es n g f'
  | m, f, [], S, _ => ⟨f, srch_end S⟩
  | 0, f, p :: q, S, h => by rw [List.length_cons] at h; omega
  | m + 1, f, p :: q, S, h => by
    have hp : p < n := by
      have := dAt_in (S.qs p (List.mem_cons_self ..))
      rw [S.len] at this
      exact this
    obtain ⟨f', q', h1, h2⟩ := turn_go hv hp (nbs es p) [] f q rfl (turn_start S)
    rw [List.length_cons] at h
    exact srch_ex hv m f' q' (turn_end h1 fun w hw => mem_nbs.mpr hw) (by omega)
theorem isD_ex {es : Es} {n g : Nat} (hv : Val es n) (hg : g < n) : ∃ f, IsD es n g f := srch_ex hv _ _ _ (srch_start hg) (Nat.le_refl _)
theorem fAt_some {F : List Int} {v : Nat} (h : v < F.length) : F[v]? = some (fAt F v) := by
  unfold fAt
  rw [List.getD_eq_getElem?_getD, List.getElem?_eq_getElem h]
  rfl
theorem ivF_at {f : List Int} {v : Nat} (h : v < f.length) : atI (iv f) (v : Int) = some (.int (fAt f v)) := atI_nat (by
  unfold iv
  rw [List.getElem?_map, fAt_some h]
  rfl)
def sp_far : Sp := fun vs H Q _ => ∃ (n g : Nat) (a : Addr) (es : Es), vs = [.int n, .ref a, .int g] ∧ LkI H a (casts es) ∧ Val es n ∧ n ≤ 90 ∧ es.length ≤ 1000 ∧ g < n ∧ ∀ H' p f, Ex H H' → H' p = some (.lst (iv f)) → IsD es n g f → Q (.ref p) H'
theorem c_far {n g : Nat} {a : Addr} {es : Es} {H : Hp} {Q : VK} {E : XK} (h1 : LkI H a (casts es)) (h2 : Val es n) (h3 : n ≤ 90) (h4 : es.length ≤ 1000) (h5 : g < n) (q : ∀ H' p f, Ex H H' → H' p = some (.lst (iv f)) → IsD es n g f → Q (.ref p) H') : sp_far [.int n, .ref a, .int g] H Q E :=
  ⟨n, g, a, es, rfl, h1, h2, h3, h4, h5, q⟩
theorem ok_far (T : Glo mg) (D : Dn K mg "_law_far" s__law_far p__law_far) : Cal P w K mg base "_law_far" 1 p__law_far sp_far := by
  refine D.ok sc__law_far (fun vs H Q E h => ?_) (fun f cdv A outer s H vs Q E hr h => ?_)
  · obtain ⟨_, _, _, _, rfl, _⟩ := h
    rfl
  obtain ⟨n, g, a, es, rfl, hlk, hval, hn, hes, hg, q⟩ := h
  obtain ⟨f0, F0⟩ := isD_ex hval hg
  obtain ⟨vs0, hvs0, hpr0⟩ := hlk
  have lvs : vs0.length = es.length := by rw [paired_len hpr0]; unfold casts; rw [List.length_map]
  refine ⟨_, (pss_cons (ps_setLc (i := 3) (own := [("at", 7)]) (tt := tYes) rfl sc__law_far.nd rfl rfl (sw_true rfl rfl rfl (by decide +kernel)) (pi_range1 rfl T.n_range (pa_cons (pv 0) pa_nil)) (blkOk_by (N := ["many", "links", "goal", "far", "k", "a", "b", "at", "n"]) (sc := defScope s__law_far) (by decide +kernel)) (fun _ _ _ _ _ => (pg_name (i := 7) sc__law_far.nd rfl (by first | exact Or.inl rfl | exact Or.inr rfl))) (fun _ _ _ _ _ => pts_nil) (fun _ _ _ _ _ => (pe_ifExp (pt_cmpR (op_eqK (K := K) rfl (hu64 hr)) (pv 7) (pv 2) (nomark _)) pe_int pe_int))) (pss_cons (ps_for PassesOwn.never rfl (pi_range1 rfl T.n_range (pa_cons (pv 0) pa_nil)) (pg_name (i := 4) sc__law_far.nd rfl (by first | exact Or.inl rfl | exact Or.inr rfl)) (pss_one (ps_for PassesOwn.never rfl (pi_list (pv 1)) (pg_tup rfl (pgs_cons (pg_name (i := 5) sc__law_far.nd rfl (by first | exact Or.inl rfl | exact Or.inr rfl)) (pgs_cons (pg_name (i := 6) sc__law_far.nd rfl (by first | exact Or.inl rfl | exact Or.inr rfl)) pgs_nil))) (pss_cons (ps_asg (pe_callB (call_min2 rfl) rfl T.n_min (by decide +kernel) (pa_cons (pe_ix ix_seq (pv 3) (pv 5) (fun _ _ => rfl)) (pa_cons (pe_op op_addA (pe_ix ix_seq (pv 3) (pv 6) (fun _ _ => rfl)) pe_int) pa_nil))) (pg_sub (pv 3) (pv 5) set_list)) (pss_one (ps_asg (pe_callB (call_min2 rfl) rfl T.n_min (by decide +kernel) (pa_cons (pe_ix ix_seq (pv 3) (pv 6) (fun _ _ => rfl)) (pa_cons (pe_op op_addA (pe_ix ix_seq (pv 3) (pv 5) (fun _ _ => rfl)) pe_int) pa_nil))) (pg_sub (pv 3) (pv 6) set_list))))))) (pss_one (ps_ret (pe_lc (own := [("n", 8)]) (tt := tYes) rfl sc__law_far.nd (pi_list (pv 3)) (blkOk_by (N := ["many", "links", "goal", "far", "k", "a", "b", "at", "n"]) (sc := defScope s__law_far) (by decide +kernel)) (fun _ _ _ _ _ => (pg_name (i := 8) sc__law_far.nd rfl (by first | exact Or.inl rfl | exact Or.inr rfl))) (fun _ _ _ _ _ => pts_nil) (fun _ _ _ _ _ => (pe_ifExp (pt_cmpR op_ge (pv 8) pe_int (nomark _)) (pe_un un_neg pe_int) (pv 8)))))))), ?_⟩
  try dsimp only [cxOf, Cx.nox]
  repeat' walk_at "st"
  intro L hL
  refine lc_range (lo := 0) (n := ((n : Nat) : Int).toNat) (fun i H2 => Ex H H2 ∧ H2 L = some (.lst (iv ((List.range i).map fun v => if v = g then 0 else 99)))) ?_ ?_ ?_
  · exact ⟨ex_updF (Ex.refl _) hL, upd_same⟩
  · rintro i H2 hi ⟨e2, h2⟩
    rw [Int.toNat_natCast] at hi
    refine ⟨rfl, ?_⟩
    have step : ∀ x : Int, x = (if i = g then 0 else 99) → ∃ acc, H2 L = some (.lst acc) ∧ acc.length < sizeLine ∧ Ex H (upd H2 L (.lst (acc ++ [.int x]))) ∧ (upd H2 L (.lst (acc ++ [.int x]))) L = some (.lst (iv ((List.range (i + 1)).map fun v => if v = g then 0 else 99))) := fun x hx => by
      refine ⟨_, h2, sl1000' (by unfold iv; rw [List.length_map, List.length_map, List.length_range]; omega), ex_updF e2 hL, ?_⟩
      rw [upd_same, List.range_succ, List.map_append, hx]
      unfold iv
      rw [List.map_append]
      rfl
    repeat' walk_at "st"
    · have c : (0 : Int) + i = g := by assumption
      exact step 0 (by rw [if_pos (by omega)])
    · have c : ¬ (0 : Int) + i = g := by assumption
      exact step 99 (by rw [if_neg (by omega)])
  · rintro H2 ⟨e2, h2⟩
    rw [Int.toNat_natCast] at h2
    have h2' : H2 L = some (.lst (iv (far0 n g))) := h2
    obtain ⟨L0, K0⟩ := far_start F0 hn hg
    repeat' walk_at "st"
    refine w_rng (lo := 0) (n := ((n : Nat) : Int).toNat) (fun i σ H' => ∃ (F : List Int) (y4 y5 y6 y7 y8 : Option V), σ = [some (.int n), some (.ref a), some (.int g), some (.ref L), y4, y5, y6, y7, y8] ∧ Ex H H' ∧ H' L = some (.lst (iv F)) ∧ Lo n f0 F ∧ Kn f0 F i) ?_ ?_ ?_
    · exact ⟨_, _, _, _, _, _, rfl, e2, h2', L0, K0⟩
    · rintro i σ H3 hi ⟨F, y4, y5, y6, y7, y8, rfl, e3, h3, L3, K3⟩
      repeat' walk_at "st"
      refine w_list (xs := vs0) (fun j σ H' => ∃ (F : List Int) (y4 y5 y6 y7 y8 : Option V), σ = [some (.int n), some (.ref a), some (.int g), some (.ref L), y4, y5, y6, y7, y8] ∧ Ex H H' ∧ H' L = some (.lst (iv F)) ∧ Lo n f0 F ∧ Kn f0 F i ∧ ∀ e ∈ es.take j, Rd f0 F i e) ?_ ?_ ?_ ?_
      · exact ⟨_, _, _, _, _, _, rfl, e3, h3, L3, K3, fun e he => by rw [List.take_zero] at he; cases he⟩
      · rintro j σ H' _ ⟨_, _, _, _, _, _, _, e4, _⟩
        exact sql (e4 _ _ hvs0)
      · rintro j v σ H4 hj ⟨F, y4, y5, y6, y7, y8, rfl, e4, h4, L4, K4, R4⟩
        obtain ⟨x, y, t, hxy, rfl, ht⟩ := casts_at hpr0 hj
        have ht4 := e4 _ _ ht
        obtain ⟨hx, hy⟩ := val_at hval hxy
        have mxy : (x, y) ∈ es := List.mem_of_getElem? hxy
        obtain ⟨B1, B2, B3⟩ := both_ok F0 L4 mxy ⟨by omega, hy⟩ K4
        have lF : F.length = n := L4.len
        repeat' walk_at "st"
        refine q_ixL (sql h4) (ivF_at (by omega)) ?_
        repeat' walk_at "st"
        refine q_ixL (sql h4) (ivF_at (by omega)) ?_
        repeat' walk_at "st"
        refine ⟨_, _, rfl, ?_⟩
        repeat' walk_at "st"
        refine q_setL h4 (ixN_nat (by unfold iv; rw [List.length_map]; omega)) ?_
        rw [iv_set]
        generalize hq5 : upd H4 L _ = H5
        have h5 : H5 L = some (.lst (iv (relax F x y))) := at_new hq5
        have e5 : Ex H H5 := by
          rw [← hq5]
          exact ex_updF e4 hL
        have ht5 := e5 _ _ ht
        have lF5 : (relax F x y).length = n := by unfold relax; rw [List.length_set]; exact lF
        clear hq5
        repeat' walk_at "st"
        refine q_ixL (sql h5) (ivF_at (by omega)) ?_
        repeat' walk_at "st"
        refine q_ixL (sql h5) (ivF_at (by omega)) ?_
        repeat' walk_at "st"
        refine ⟨_, _, rfl, ?_⟩
        repeat' walk_at "st"
        refine q_setL h5 (ixN_nat (by unfold iv; rw [List.length_map]; omega)) ?_
        rw [iv_set]
        repeat' walk_at "st"
        refine ⟨both F (x, y), _, _, _, _, _, rfl, ex_updF e5 hL, upd_same, B1, kn_le B2 K4, fun e he => ?_⟩
        rw [List.take_add_one, hxy] at he
        rcases List.mem_append.mp he with he | he
        · exact rd_le B2 (R4 e he)
        · rw [List.mem_singleton.mp he]
          exact B3
      · rintro σ H4 ⟨F, y4, y5, y6, y7, y8, rfl, e4, h4, L4, K4, R4⟩
        rw [lvs, List.take_length] at R4
        exact ⟨F, _, _, _, _, _, rfl, e4, h4, L4, round_end F0 K4 R4⟩
    · rintro σ H3 ⟨F, y4, y5, y6, y7, y8, rfl, e3, h3, L3, K3⟩
      rw [Int.toNat_natCast] at K3
      repeat' walk_at "st"
      intro M hM
      have LM : L ≠ M := ne_of_none h3 hM
      refine lc_list (xs := iv F) (fun i H4 => Ex H3 H4 ∧ H4 M = some (.lst (iv (cut99 (F.take i))))) ?_ ?_ ?_ ?_
      · exact ⟨ex_updF (Ex.refl _) hM, upd_same⟩
      · rintro i H4 _ ⟨e4, _⟩
        exact sql (e4 _ _ h3)
      · rintro i v H4 hi ⟨e4, h4⟩
        obtain ⟨x, hx, rfl⟩ : ∃ x, F[i]? = some x ∧ v = .int x := by
          unfold iv at hi
          rw [List.getElem?_map] at hi
          obtain ⟨x, h1, h2⟩ := Option.map_eq_some_iff.mp hi
          exact ⟨x, h1, h2.symm⟩
        have lF : F.length = n := L3.len
        refine ⟨rfl, ?_⟩
        have step : ∀ z : Int, z = (if 99 ≤ x then -1 else x) → ∃ acc, H4 M = some (.lst acc) ∧ acc.length < sizeLine ∧ Ex H3 (upd H4 M (.lst (acc ++ [.int z]))) ∧ (upd H4 M (.lst (acc ++ [.int z]))) M = some (.lst (iv (cut99 (F.take (i + 1))))) := fun z hz => by
          refine ⟨_, h4, sl1000' (by unfold iv cut99; rw [List.length_map, List.length_map, List.length_take]; omega), ex_updF e4 hM, ?_⟩
          rw [upd_same, List.take_add_one, hx, hz]
          unfold iv cut99
          rw [List.map_append, List.map_append]
          rfl
        repeat' walk_at "st"
        · exact step _ (by rw [if_pos (by assumption)])
        · exact step _ (by rw [if_neg (by assumption)])
      · rintro H4 ⟨e4, h4⟩
        rw [show (iv F).length = F.length by unfold iv; rw [List.length_map], List.take_length, far_end F0 hn L3 K3] at h4
        exact q _ M f0 (e3.trans e4) h4 F0
def sp_due : Sp := fun vs H Q _ => ∃ (n : Int) (a : Addr) (ls : List (Int × Int)), vs = [.int n, .ref a] ∧ LkI H a ls ∧ ls.length ≤ 1000 ∧ ∀ H' r, Ex H H' → Due n ls r → Q (.str r) H'
theorem c_due {n : Int} {a : Addr} {ls : List (Int × Int)} {H : Hp} {Q : VK} {E : XK} (h1 : LkI H a ls) (h2 : ls.length ≤ 1000) (q : ∀ H' r, Ex H H' → Due n ls r → Q (.str r) H') : sp_due [.int n, .ref a] H Q E := ⟨n, a, ls, rfl, h1, h2, q⟩
theorem ok_due (T : Glo mg) (D : Dn K mg "_law_due" s__law_due p__law_due) (G__law_far : Cal P w K mg base "_law_far" 1 p__law_far sp_far) : Cal P w K mg base "_law_due" 2 p__law_due sp_due := by
  refine D.ok sc__law_due (fun vs H Q E h => ?_) (fun f cdv A outer s H vs Q E hr h => ?_)
  · obtain ⟨_, _, _, rfl, _⟩ := h
    rfl
  obtain ⟨n, a, ls, rfl, hlk, hls, q⟩ := h
  refine ⟨_, (pss_cons (ps_if (PW.pt (pw_or (pt_cmpR op_lt (pv 0) pe_int (nomark _)) (pw_or1 (pt_cmpR op_gt (pv 0) pe_int (nomark _))))) (pss_one (ps_ret pe_str)) pss_nil) (pss_cons (ps_for PassesOwn.never rfl (pi_range1 rfl T.n_range (pa_cons (pe_callB call_lenA rfl T.n_len (by decide +kernel) (pa_cons (pv 1) pa_nil)) pa_nil)) (pg_name (i := 2) sc__law_due.nd rfl (by first | exact Or.inl rfl | exact Or.inr rfl)) (pss_cons (ps_asg (pe_ix ix_seq (pv 1) (pv 2) (fun _ _ => rfl)) (pg_tup rfl (pgs_cons (pg_name (i := 3) sc__law_due.nd rfl (by first | exact Or.inl rfl | exact Or.inr rfl)) (pgs_cons (pg_name (i := 4) sc__law_due.nd rfl (by first | exact Or.inl rfl | exact Or.inr rfl)) pgs_nil)))) (pss_one (ps_if (PW.pt (pw_or (pt_cmpR op_lt (pv 3) pe_int (nomark _)) (pw_or (pt_cmpR op_ge (pv 3) (pv 4) (nomark _)) (pw_or (pt_cmpR op_ge (pv 4) (pv 0) (nomark _)) (pw_or1 (pt_cmpR (op_inD (hu65 hr)) (pe_tup (pa_cons (pv 3) (pa_cons (pv 4) pa_nil))) (pe_slice sl_any (pv 1) po_none (po_some (pv 2))) (by rfl))))))) (pss_one (ps_ret pe_str)) pss_nil)))) (pss_one (ps_ret (pe_ifExp (pt_cmpR op_in_seq (pe_un un_neg pe_int) (pe_cal G__law_far (hr.mono (by walk_at "lev")) rfl (pa_cons (pv 0) (pa_cons (pv 1) (pa_cons pe_int pa_nil)))) (by rfl)) pe_str pe_str))))), ?_⟩
  try dsimp only [cxOf, Cx.nox]
  obtain ⟨vs0, hvs0, hpr0⟩ := hlk
  have lvs := paired_len hpr0
  repeat' walk_at "st"
  · exact q _ _ (Ex.refl _) (.num (.inl (by assumption)))
  · exact q _ _ (Ex.refl _) (.num (.inr (by assumption)))
  have n1 : 1 ≤ n := by omega
  have n6 : n ≤ 6 := by omega
  refine w_rng (lo := 0) (n := ((vs0.length : Nat) : Int).toNat) (fun i σ H' => ∃ y2 y3 y4 : Option V, σ = [some (.int n), some (.ref a), y2, y3, y4] ∧ Ex H H' ∧ ∀ k, k < i → ¬ BadAt n ls k) ?_ ?_ ?_
  · exact ⟨_, _, _, rfl, Ex.refl _, fun k hk => absurd hk (Nat.not_lt_zero k)⟩
  · rintro i σ H' hi ⟨y2, y3, y4, rfl, e2, hb⟩
    rw [Int.toNat_natCast] at hi
    rw [Int.zero_add]
    obtain ⟨v, hv⟩ : ∃ v, vs0[i]? = some v := ⟨_, List.getElem?_eq_getElem hi⟩
    obtain ⟨⟨ax, bx⟩, hax, t, rfl, ht⟩ := paired_at hpr0 hv
    simp only at ht
    have ht9 := e2 _ _ ht
    have hl9 := e2 _ _ hvs0
    have bad : ∀ (hh : ax < 0 ∨ bx ≤ ax ∨ n ≤ bx ∨ (ax, bx) ∈ ls.take i) (H2 : Hp), Ex H' H2 → Q (.str "links") H2 := fun hh H2 k2 => q H2 _ (e2.trans k2) (.lnk i n1 n6 ⟨ax, bx, hax, hh⟩)
    repeat' walk_at "st"
    refine q_ixL (sql hl9) (atI_nat hv) ?_
    repeat' walk_at "st"
    · exact bad (.inl (by assumption)) _ (Ex.refl _)
    · exact bad (.inr (.inl (by assumption))) _ (Ex.refl _)
    · exact bad (.inr (.inr (.inl (by assumption)))) _ (Ex.refl _)
    refine q_slTo (sql (ke _ _ hl9)) (by omega) (fun p2 H3 hp2 k3 h3 => ?_)
    refine q_inP (p := (ax, bx)) (ls := ls.take i) (k3 _ _ hn) h3 (paired_take i (paired_imp (fun _ _ => tup_ex (e2.trans (ke.trans k3))) hpr0)) ?_
    by_cases cc : (ax, bx) ∈ ls.take i
    · rw [decide_eq_true cc]
      repeat' walk_at "st"
      exact bad (.inr (.inr (.inr cc))) _ (ke.trans k3)
    · rw [decide_eq_false cc]
      repeat' walk_at "st"
      refine ⟨_, _, _, rfl, e2.trans (ke.trans k3), fun k hk => ?_⟩
      by_cases ck : k < i
      · exact hb k ck
      · have ek : k = i := by omega
        subst ek
        rintro ⟨a1, b1, h1, h2⟩
        rw [hax] at h1
        cases h1
        rcases h2 with h2 | h2 | h2 | h2
        · omega
        · omega
        · omega
        · exact cc h2
  · rintro σ H' ⟨y2, y3, y4, rfl, e2, hb⟩
    rw [Int.toNat_natCast, lvs] at hb
    obtain ⟨es, rfl, hval⟩ := no_bad n1 hb
    obtain ⟨m, rfl⟩ : ∃ m : Nat, n = m := ⟨n.toNat, by omega⟩
    rw [Int.toNat_natCast] at hval
    have hb2 : ∀ k, ¬ BadAt (m : Int) (casts es) k := fun k => by
      by_cases ck : k < (casts es).length
      · exact hb k ck
      · rintro ⟨a1, b1, h1, _⟩
        rw [List.getElem?_eq_none (by omega)] at h1
        cases h1
    have les : es.length ≤ 1000 := by
      have := hls
      unfold casts at this
      rw [List.length_map] at this
      exact this
    repeat' walk_at "st"
    refine c_far (g := 0) ⟨vs0, e2 _ _ hvs0, paired_imp (fun _ _ => tup_ex e2) hpr0⟩ hval (by omega) les (by omega) (fun H3 t f k3 hf F => ?_)
    refine q_inL (sql hf) rfl (flat_iv f) ?_
    rw [in_iv]
    by_cases cc : (-1 : Int) ∈ f
    · rw [decide_eq_true cc]
      repeat' walk_at "st"
      exact q _ _ (e2.trans k3) (.prt m es f rfl (by omega) (by omega) rfl hval hb2 F cc)
    · rw [decide_eq_false cc]
      repeat' walk_at "st"
      exact q _ _ (e2.trans k3) (.ok m es f rfl (by omega) (by omega) rfl hval hb2 F cc)
theorem st_upd {st c L : Addr} {o : HO} {H : Hp} (h : StOk st c H) (n : L ∉ [st, c]) : StOk st c (upd H L o) := by
  obtain ⟨⟨ns, s, a, b, d⟩, e⟩ := h
  simp only [List.mem_cons, List.not_mem_nil, or_false, not_or] at n
  exact ⟨⟨ns, s, by rw [upd_ne (Ne.symm n.1)]; exact a, by rw [upd_ne (Ne.symm n.2)]; exact b, d⟩, e⟩
theorem kp_updF {M : List Addr} {p : Addr} {o : HO} {H H' : Hp} (k : Kp M H H') (hp : H p = none) : Kp M H (upd H' p o) :=
  ⟨fun a xs h => by rw [upd_ne (ne_of_none h hp)]; exact k.tup a xs h, fun a u n h => by rw [upd_ne (ne_of_none h hp)]; exact k.out a u n h⟩
theorem lk_kp {M : List Addr} {H H' : Hp} {a : Addr} {ls : List (Int × Int)} (e : Kp M H H') (n : a ∉ M) (h : LkI H a ls) : LkI H' a ls := by
  obtain ⟨vs, h1, h2⟩ := h
  exact ⟨vs, e.out _ _ n h1, paired_imp (fun v p k => by
    obtain ⟨q, rfl, hq⟩ := k
    exact ⟨q, rfl, e.tup _ _ hq⟩) h2⟩
theorem lk_snoc {H : Hp} {L t : Addr} {vs : List V} {ls : List (Int × Int)} {p : Int × Int} (h1 : H L = some (.lst vs)) (h2 : Paired (TupII H) vs ls) (ht : H t = some (.tup [.int p.1, .int p.2])) : LkI (upd H L (.lst (vs ++ [.ref t]))) L (ls ++ [p]) :=
  ⟨_, upd_same, paired_snoc ⟨t, rfl, by rw [upd_ne (fun z => by rw [z, h1] at ht; cases ht)]; exact ht⟩ (paired_imp (fun v w k => by
    obtain ⟨q, rfl, hq⟩ := k
    exact ⟨q, rfl, by rw [upd_ne (fun z => by rw [z, h1] at hq; cases hq)]; exact hq⟩) h2)⟩
local macro_rules | `(tactic| walk_at "lk") => `(tactic| first
  | assumption
  | (refine lk_kp (by assumption) (by assumption) ?_; walk_at "lk")
  | (refine lk_ex (by assumption) ?_; walk_at "lk"))
theorem q_two {i j : Int} {B : Int → Int → Prop} (q : B i j) : ∃ a b : Int, [V.int i, V.int j] = [.int a, .int b] ∧ B a b := ⟨i, j, rfl, q⟩
local macro_rules | `(tactic| walk_at "own") => `(tactic| with_reducible refine q_two ?_)
theorem q_catL {H : Hp} {Q : VK} {a b : Addr} {xs ys : List V} (h1 : H a = some (.lst xs)) (h2 : H b = some (.lst ys)) (hz : xs.length + ys.length ≤ 100000) (q : ∀ p Hn, H p = none → Ex H Hn → Hn p = some (.lst (xs ++ ys)) → Q (.ref p) Hn) : rAddA K (.ref a) (.ref b) H Q :=
  .inr (.inr (.inl ⟨a, b, xs, ys, rfl, rfl, h1, h2, sl1000 hz, fun p hp => q p _ hp (Ex.mk hp rfl) upd_same⟩))
theorem q_cat_in {H : Hp} {Q : VK} {L p t1 t2 : Addr} {x1 x2 y1 y2 : Int} {ls : List (Int × Int)} (h1 : LkI H L ls) (hz : ls.length ≤ 1000) (hp : H p = some (.lst [.ref t2])) (ht2 : H t2 = some (.tup [.int y1, .int y2])) (ht1 : H t1 = some (.tup [.int x1, .int x2]))
    (q : ∀ b H', Ex H H' → Q (.bl b) H') : rAddA K (.ref L) (.ref p) H fun y H2 => rInD K (.ref t1) y H2 Q := by
  obtain ⟨vs, hv, pv⟩ := h1
  have lv := paired_len pv
  refine q_catL hv hp (by rw [List.length_singleton]; omega) (fun r H' hr k h => ?_)
  exact q_inP (p := (x1, x2)) (ls := ls ++ [(y1, y2)]) (k _ _ ht1) h (paired_imp (fun _ _ => tup_ex k) (paired_snoc ⟨t2, rfl, ht2⟩ pv)) (q _ _ k)
theorem q_tyLk {H : Hp} {L : Addr} {ls : List (Int × Int)} {A : Prop} (h : LkI H L ls) (q : A) : tyV K "list" (.ref L) H ∧ A := by
  obtain ⟨vs, hv, _⟩ := h
  exact q_tyL hv q
theorem q_appLk {H : Hp} {Q : VK} {L t : Addr} {x y : Int} {ls : List (Int × Int)} (h : LkI H L ls) (hz : ls.length ≤ 1000) (ht : H t = some (.tup [.int x, .int y])) (q : ∀ vs, LkI (upd H L (.lst (vs ++ [.ref t]))) L (ls ++ [(x, y)]) → Q .non (upd H L (.lst (vs ++ [.ref t])))) : rAppend (.ref L) [.ref t] H Q := by
  obtain ⟨vs, hv, pv⟩ := h
  have lv := paired_len pv
  exact q_append hv (by omega) (q vs (lk_snoc (p := (x, y)) hv pv ht))
def sp_links : Sp := fun vs H Q _ => ∃ (st c : Addr) (many : Int), vs = [.ref st, .int many] ∧ StOk st c H ∧ 0 ≤ many ∧ many ≤ 8 ∧ ∀ H' p ls, H p = none → Kp [st, c] H H' → StOk st c H' → LkI H' p ls → ls.length ≤ 20 → Q (.ref p) H'
theorem c_links {st c : Addr} {many : Int} {H : Hp} {Q : VK} {E : XK} (h1 : StOk st c H) (h2 : 0 ≤ many) (h3 : many ≤ 8) (q : ∀ H' p ls, H p = none → Kp [st, c] H H' → StOk st c H' → LkI H' p ls → ls.length ≤ 20 → Q (.ref p) H') : sp_links [.ref st, .int many] H Q E := ⟨st, c, many, rfl, h1, h2, h3, q⟩
theorem ok_links (T : Glo mg) (D : Dn K mg "_law_links" s__law_links p__law_links) (G__law_draw : Cal P w K mg base "_law_draw" 1 p__law_draw sp_draw) : Cal P w K mg base "_law_links" 2 p__law_links sp_links := by
  refine D.ok sc__law_links (fun vs H Q E h => ?_) (fun f cdv A outer s H vs Q E hr h => ?_)
  · obtain ⟨_, _, _, rfl, _⟩ := h
    rfl
  obtain ⟨st, c, many, rfl, so, m0, m8, q⟩ := h
  refine ⟨_, (pss_cons (ps_set (i := 2) sc__law_links.nd rfl (by first | exact Or.inl rfl | exact Or.inr rfl) (pe_lst pa_nil)) (pss_cons (ps_for PassesOwn.never rfl (pi_range2 rfl T.n_range (pa_cons pe_int (pa_cons (pv 1) pa_nil))) (pg_name (i := 3) sc__law_links.nd rfl (by first | exact Or.inl rfl | exact Or.inr rfl)) (pss_one (ps_if (pt_cmpR op_gt (pe_cal G__law_draw (hr.mono (by walk_at "lev")) rfl (pa_cons (pv 0) (pa_cons pe_int pa_nil))) pe_int (nomark _)) (pss_one (ps_expr (pe_bm PySem.F.plainAttrs_list PySem.F.slot_list_append PySem.F.type_list_append mt_append (pv 2) (pa_cons (pe_tup (pa_cons (pe_cal G__law_draw (hr.mono (by walk_at "lev")) rfl (pa_cons (pv 0) (pa_cons (pv 3) pa_nil))) (pa_cons (pv 3) pa_nil))) pa_nil)))) pss_nil))) (pss_cons (ps_for PassesOwn.never rfl (pi_range1 rfl T.n_range (pa_cons (pe_cal G__law_draw (hr.mono (by walk_at "lev")) rfl (pa_cons (pv 0) (pa_cons pe_int pa_nil))) pa_nil)) (pg_name (i := 3) sc__law_links.nd rfl (by first | exact Or.inl rfl | exact Or.inr rfl)) (pss_cons (ps_set (i := 4) sc__law_links.nd rfl (by first | exact Or.inl rfl | exact Or.inr rfl) (pe_op op_sub (pe_cal G__law_draw (hr.mono (by walk_at "lev")) rfl (pa_cons (pv 0) (pa_cons (pe_callB (call_max2 rfl) rfl T.n_max (by decide +kernel) (pa_cons pe_int (pa_cons (pv 1) pa_nil))) pa_nil))) (pe_op op_fdiv (pe_cal G__law_draw (hr.mono (by walk_at "lev")) rfl (pa_cons (pv 0) (pa_cons pe_int pa_nil))) pe_int))) (pss_cons (ps_set (i := 5) sc__law_links.nd rfl (by first | exact Or.inl rfl | exact Or.inr rfl) (pe_op op_addA (pe_cal G__law_draw (hr.mono (by walk_at "lev")) rfl (pa_cons (pv 0) (pa_cons (pe_callB (call_max2 rfl) rfl T.n_max (by decide +kernel) (pa_cons pe_int (pa_cons (pv 1) pa_nil))) pa_nil))) (pe_op op_fdiv (pe_cal G__law_draw (hr.mono (by walk_at "lev")) rfl (pa_cons (pv 0) (pa_cons pe_int pa_nil))) pe_int))) (pss_cons (ps_if (PW.pt (pw_and (pt_cmpR op_gt (pe_cal G__law_draw (hr.mono (by walk_at "lev")) rfl (pa_cons (pv 0) (pa_cons pe_int pa_nil))) pe_int (nomark _)) (pw_and1 (pt_cmpR (op_inD (hu65 hr)) (pe_tup (pa_cons (pe_callB (call_min2 rfl) rfl T.n_min (by decide +kernel) (pa_cons (pv 4) (pa_cons (pv 5) pa_nil))) (pa_cons (pe_callB (call_max2 rfl) rfl T.n_max (by decide +kernel) (pa_cons (pv 4) (pa_cons (pv 5) pa_nil))) pa_nil))) (pe_op op_addA (pv 2) (pe_lst (pa_cons (pe_tup (pa_cons (pe_callB (call_min2 rfl) rfl T.n_min (by decide +kernel) (pa_cons (pv 4) (pa_cons (pv 5) pa_nil))) (pa_cons (pe_callB (call_min2 rfl) rfl T.n_min (by decide +kernel) (pa_cons (pv 4) (pa_cons (pv 5) pa_nil))) pa_nil))) pa_nil))) (by rfl))))) (pss_one (ps_set (i := 5) sc__law_links.nd rfl (by first | exact Or.inl rfl | exact Or.inr rfl) (pv 4))) pss_nil) (pss_one (ps_if (PW.pt (pw_or (pt_cmpR (op_neA (hu64 hr)) (pv 4) (pv 5) (nomark _)) (pw_or1 (pt_cmpR (op_eqA (hu64 hr)) (pe_cal G__law_draw (hr.mono (by walk_at "lev")) rfl (pa_cons (pv 0) (pa_cons pe_int pa_nil))) pe_int (nomark _))))) (pss_one (ps_expr (pe_bm PySem.F.plainAttrs_list PySem.F.slot_list_append PySem.F.type_list_append mt_append (pv 2) (pa_cons (pe_ifExp (pt_cmpR op_gt (pe_cal G__law_draw (hr.mono (by walk_at "lev")) rfl (pa_cons (pv 0) (pa_cons pe_int pa_nil))) pe_int (nomark _)) (pe_tup (pa_cons (pe_callB (call_min2 rfl) rfl T.n_min (by decide +kernel) (pa_cons (pv 4) (pa_cons (pv 5) pa_nil))) (pa_cons (pe_callB (call_max2 rfl) rfl T.n_max (by decide +kernel) (pa_cons (pv 4) (pa_cons (pv 5) pa_nil))) pa_nil))) (pe_tup (pa_cons (pe_callB (call_max2 rfl) rfl T.n_max (by decide +kernel) (pa_cons (pv 4) (pa_cons (pv 5) pa_nil))) (pa_cons (pe_callB (call_min2 rfl) rfl T.n_min (by decide +kernel) (pa_cons (pv 4) (pa_cons (pv 5) pa_nil))) pa_nil)))) pa_nil)))) pss_nil)))))) (pss_one (ps_ret (pv 2)))))), ?_⟩
  try dsimp only [cxOf, Cx.nox]
  repeat' walk_at "st"
  rename Addr => L
  have hL := hp
  have nL : L ∉ [st, c] := st_fresh so hp
  refine w_rng (lo := 1) (n := (many - 1).toNat) (fun i σ H' => ∃ (y3 : Option V) (ls : List (Int × Int)), σ = [some (.ref st), some (.int many), some (.ref L), y3, none, none] ∧ Kp [st, c] H H' ∧ StOk st c H' ∧ LkI H' L ls ∧ ls.length ≤ i) ?_ ?_ ?_
  · exact ⟨_, [], rfl, ke.kp, st_ex ke so, ⟨[], hn, .nil⟩, Nat.le_refl _⟩
  · rintro i σ H' hi ⟨y3, ls, rfl, k2, so2, lk2, ll⟩
    repeat' walk_at "st"
    · have lk1 := lk_kp ke nL lk2
      obtain ⟨vs0, hv0, _⟩ := lk1
      have lk1 := lk_kp ke nL lk2
      refine q_tyL hv0 ?_
      repeat' walk_at "st"
      have lk5 : LkI Hn L ls := by walk_at "lk"
      obtain ⟨vs, hv, pv⟩ := lk5
      have lv := paired_len pv
      refine q_append hv (by omega) ?_
      repeat' walk_at "st"
      exact ⟨_, _, rfl, kp_updF (by walk_at "kp") hL, st_upd (by walk_at "st_ok") nL, lk_snoc (p := (_, _)) hv pv hn, by rw [List.length_append, List.length_singleton]; omega⟩
    · exact ⟨_, ls, rfl, by walk_at "kp", by walk_at "st_ok", by walk_at "lk", by omega⟩
  · rintro σ H' ⟨y3, ls, rfl, k2, so2, lk2, ll⟩
    repeat' walk_at "st"
    have lk3 : LkI Hn L ls := by walk_at "lk"
    have k3 : Kp [st, c] H Hn := by walk_at "kp"
    refine w_rng (lo := 0) (n := dn.toNat) (fun i σ H' => ∃ (y3 y4 y5 : Option V) (ls : List (Int × Int)), σ = [some (.ref st), some (.int many), some (.ref L), y3, y4, y5] ∧ Kp [st, c] H H' ∧ StOk st c H' ∧ LkI H' L ls ∧ ls.length ≤ 7 + i) ?_ ?_ ?_
    · exact ⟨_, _, _, ls, rfl, k3, so, lk3, by omega⟩
    · clear k2 so2 lk2 ll k3 lk3 ke so
      rintro i σ H2 hi ⟨y3, y4, y5, ls, rfl, k2, so2, lk2, ll⟩
      obtain ⟨M, hM, M0, M8⟩ : ∃ M, (if many > 1 then many else 1) = M ∧ 0 < M ∧ M ≤ 8 := ⟨_, rfl, by split <;> omega, by split <;> omega⟩
      repeat' walk_at "st"
      · refine q_cat_in (ls := ls) (t2 := ?t2) (x1 := ?x1) (x2 := ?x2) (y1 := ?y1) (y2 := ?y2) ?h1 ?hz ?hp ?h2 ?h3 ?_
        case hp => assumption
        case h1 => walk_at "lk"
        case hz => omega
        case h2 => walk_at "lift"
        case h3 => walk_at "lift"
        intro bb H9 k9
        cases bb with
        | true =>
          repeat' walk_at "st"
          all_goals first
            | exact ⟨_, _, _, ls, rfl, by walk_at "kp", by walk_at "st_ok", by walk_at "lk", by omega⟩
            | skip
          all_goals
            refine q_tyLk (ls := ls) (by walk_at "lk") ?_
            repeat' walk_at "st"
          all_goals
            refine q_appLk (ls := ls) (by walk_at "lk") (by omega) hn (fun vs lk9 => ?_)
            repeat' walk_at "st"
            exact ⟨_, _, _, ls ++ [_], rfl, kp_updF (by walk_at "kp") hL, st_upd (by walk_at "st_ok") nL, lk9, by rw [List.length_append, List.length_singleton]; omega⟩
        | false =>
          repeat' walk_at "st"
          all_goals first
            | exact ⟨_, _, _, ls, rfl, by walk_at "kp", by walk_at "st_ok", by walk_at "lk", by omega⟩
            | skip
          all_goals
            refine q_tyLk (ls := ls) (by walk_at "lk") ?_
            repeat' walk_at "st"
          all_goals
            refine q_appLk (ls := ls) (by walk_at "lk") (by omega) hn (fun vs lk9 => ?_)
            repeat' walk_at "st"
            exact ⟨_, _, _, ls ++ [_], rfl, kp_updF (by walk_at "kp") hL, st_upd (by walk_at "st_ok") nL, lk9, by rw [List.length_append, List.length_singleton]; omega⟩
      all_goals first
        | exact ⟨_, _, _, ls, rfl, by walk_at "kp", by walk_at "st_ok", by walk_at "lk", by omega⟩
        | skip
      all_goals
        refine q_tyLk (ls := ls) (by walk_at "lk") ?_
        repeat' walk_at "st"
      all_goals
        refine q_appLk (ls := ls) (by walk_at "lk") (by omega) hn (fun vs lk9 => ?_)
        repeat' walk_at "st"
        exact ⟨_, _, _, ls ++ [_], rfl, kp_updF (by walk_at "kp") hL, st_upd (by walk_at "st_ok") nL, lk9, by rw [List.length_append, List.length_singleton]; omega⟩
    · rintro σ H2 ⟨y3, y4, y5, ls, rfl, k2, so2, lk2, ll⟩
      repeat' walk_at "st"
      exact q _ L ls hL k2 so2 lk2 (by omega)
/-! ### the law -/
theorem conn_of {es : Es} {n : Nat} {f0 : List Int} (F0 : IsD es n 0 f0) (h : -1 ∉ f0) : Conn es n := by
  have pos : ∀ v, v < n → 0 ≤ dAt f0 v := fun v hv => by
    have l1 := F0.low v
    have l2 : dAt f0 v ≠ -1 := fun z => h (by
      have := dAt_some (f := f0) (v := v) (by rw [F0.len]; exact hv)
      rw [z] at this
      exact List.mem_of_getElem? this)
    omega
  have down : ∀ {g : Nat} {f : List Int}, IsD es n g f → ∀ (k v : Nat), dAt f0 v = k → 0 ≤ dAt f v → 0 ≤ dAt f 0 := by
    intro g f F k
    induction k with
    | zero =>
      intro v e hv
      rw [F0.zero v e] at hv
      exact hv
    | succ k ih =>
      intro v e hv
      obtain ⟨u, hu, hd⟩ := F0.pre v (by omega)
      exact ih u (by omega) (F.edge v u hu.sym hv).1
  have up : ∀ {g : Nat} {f : List Int}, IsD es n g f → 0 ≤ dAt f 0 → ∀ (k v : Nat), dAt f0 v = k → 0 ≤ dAt f v := by
    intro g f F h0 k
    induction k with
    | zero =>
      intro v e
      rw [F0.zero v e]
      exact h0
    | succ k ih =>
      intro v e
      obtain ⟨u, hu, hd⟩ := F0.pre v (by omega)
      exact (F.edge u v hu (ih u (by omega))).1
  intro g f v F hv
  have hg : g < n := by
    have h1 := F.go
    have := dAt_in (f := f) (v := g) (by omega)
    rw [F.len] at this
    exact this
  have h1 := pos g hg
  have h2 := pos v hv
  have h3 := down F (dAt f0 g).toNat g (by omega) (by rw [F.go]; exact Int.le_refl 0)
  exact up F h3 (dAt f0 v).toNat v (by omega)
theorem c_state {a : Addr} {ns : List Int} {H : Hp} {Q : VK} {E : XK} (h1 : SqL K H a (ns.map V.int)) (h2 : ns.length ≤ 63) (q : ∀ st c H', Ex H H' → H st = none → H c = none → StOk st c H' → Q (.ref st) H') : sp_state K [.ref a] H Q E := ⟨a, ns, rfl, h1, h2, q⟩
def sp_law (K : PySem.W.Frag) : Sp := fun vs H Q _ => ∃ (a : Addr) (ns : List Int), vs = [.ref a] ∧ SqL K H a (ns.map V.int) ∧ ns.length ≤ 63 ∧ ∀ H', Q (.bl true) H'
theorem dp_iv {H : Hp} : ∀ f : List Int, DpAll K H (iv f) (f.map PyData.int)
  | [] => .nil
  | x :: r => .cons (.int x) (dp_iv r)
theorem sh_iv (f : List Int) : SeqAt.shaped (.list (f.map PyData.int)) = true := by
  have h1 : ∀ f : List Int, PyData.canLayAll0 (f.map PyData.int) = true := fun f => by
    induction f with
    | nil => simp [PyData.canLayAll0]
    | cons x r ih => simp [PyData.canLayAll0, PyData.canLay0, ih]
  have h2 : ∀ f : List Int, PyData.depthAll (f.map PyData.int) = 0 := fun f => by
    induction f with
    | nil => simp [PyData.depthAll]
    | cons x r ih => simp [PyData.depthAll, PyData.depth, ih]
  have e1 : PyData.depth (.list (f.map PyData.int)) = PyData.depthAll (f.map PyData.int) + 1 := by rw [PyData.depth]
  have e2 : PyData.canLay0 (.list (f.map PyData.int)) = PyData.canLayAll0 (f.map PyData.int) := by rw [PyData.canLay0]
  unfold SeqAt.shaped
  rw [e1, e2, h1, h2]
  rfl
theorem q_neIv {H : Hp} {Q : VK} {a b : Addr} {f : List Int} (h1 : H a = some (.lst (iv f))) (h2 : H b = some (.lst (iv f))) (q : Q (.bl false) H) : rNeA K (.ref a) (.ref b) H Q := by
  have sh := sh_iv f
  exact .inr ⟨_, _, .lst (sql h1) (dp_iv f), .lst (sql h2) (dp_iv f), sh, sh, by
    rw [SeqAt.eqv_refl _ (SeqAt.canLay_of_shaped sh)]
    exact q⟩
theorem nats_ints (l : List Nat) : nats l = (l.map fun (u : Nat) => (u : Int)).map V.int := by
  unfold nats
  rw [List.map_map]
  rfl
theorem q_minN {H : Hp} {Q : VK} {a : Addr} {l : List Nat} (h : H a = some (.lst (nats l))) (hl : 0 < l.length) (q : ∀ m : Nat, m ∈ l → (∀ y ∈ l, m ≤ y) → Q (.int (m : Nat)) H) : rMinN K [.ref a] H Q := by
  refine ⟨a, l.map fun (u : Nat) => (u : Int), rfl, by rw [← nats_ints]; exact sql h, by rw [List.length_map]; exact hl, fun m hm hall => ?_⟩
  obtain ⟨u, hu, rfl⟩ := List.mem_map.mp hm
  exact q u hu fun y hy => Int.ofNat_le.mp (hall _ (List.mem_map.mpr ⟨y, hy, rfl⟩))
theorem due_ok {n : Int} {ls : List (Int × Int)} {r : Str} (h : Due n ls r) (e : r = "") : ∃ (m : Nat) (es : Es) (f : List Int), n = m ∧ 1 ≤ m ∧ m ≤ 6 ∧ ls = casts es ∧ Val es m ∧ IsD es m 0 f ∧ -1 ∉ f := by
  cases h with
  | num => exact absurd e (by decide +kernel)
  | lnk => exact absurd e (by decide +kernel)
  | prt => exact absurd e (by decide +kernel)
  | ok m es f h1 h2 h3 h4 h5 h6 h7 h8 => exact ⟨m, es, f, h1, h2, h3, h4, h5, h7, h8⟩
def nr1 (es : Es) (f : List Int) (v : Nat) : List Nat := (es.filter fun e => decide (e.1 = v ∧ dAt f e.2 < dAt f v)).map (·.2)
def nr2 (es : Es) (f : List Int) (v : Nat) : List Nat := (es.filter fun e => decide (e.2 = v ∧ dAt f e.1 < dAt f v)).map (·.1)
theorem nr1_le (es : Es) (f : List Int) (v : Nat) : (nr1 es f v).length ≤ es.length := by
  unfold nr1
  rw [List.length_map]
  exact List.length_filter_le ..
theorem nr2_le (es : Es) (f : List Int) (v : Nat) : (nr2 es f v).length ≤ es.length := by
  unfold nr2
  rw [List.length_map]
  exact List.length_filter_le ..
theorem nr1_take {es : Es} {f : List Int} {v i x y : Nat} (h : es[i]? = some (x, y)) : nr1 (es.take (i + 1)) f v = nr1 (es.take i) f v ++ (if x = v ∧ dAt f y < dAt f v then [y] else []) := by
  unfold nr1
  rw [List.take_add_one, h, List.filter_append, List.map_append]
  by_cases c : x = v ∧ dAt f y < dAt f v
  · rw [if_pos c]
    simp [List.filter_cons, c.1, c.2]
  · rw [if_neg c]
    simp [List.filter_cons, c]
theorem nr2_take {es : Es} {f : List Int} {v i x y : Nat} (h : es[i]? = some (x, y)) : nr2 (es.take (i + 1)) f v = nr2 (es.take i) f v ++ (if y = v ∧ dAt f x < dAt f v then [x] else []) := by
  unfold nr2
  rw [List.take_add_one, h, List.filter_append, List.map_append]
  by_cases c : y = v ∧ dAt f x < dAt f v
  · rw [if_pos c]
    simp [List.filter_cons, c.1, c.2]
  · rw [if_neg c]
    simp [List.filter_cons, c]
theorem body_law {fd : FuncData} {fa : Addr} {F : Fun K "law" "law" s_law fa fd} (T : Glo mg) (G__law_state : Cal P w K mg base "_law_state" 1 p__law_state (sp_state K)) (G__law_draw : Cal P w K mg base "_law_draw" 1 p__law_draw sp_draw) (G__law_pick : Cal P w K mg base "_law_pick" 2 p__law_pick (sp_pick K))
    (G__law_links : Cal P w K mg base "_law_links" 2 p__law_links sp_links) (G__law_due : Cal P w K mg base "_law_due" 2 p__law_due sp_due) (G__law_told : Cal P w K mg base "_law_told" 4 p__law_told sp_told) (G_next_hops : Cal P w K mg base "next_hops" 3 p_next_hops sp_hops)
    (G__law_far : Cal P w K mg base "_law_far" 1 p__law_far sp_far) (G_distances : Cal P w K mg base "distances" 2 p_distances sp_dist) : FnOk P w K mg base CX0 5 fa fd ["script"] (sp_law K) := by
  refine F.ok sc_law (fun vs H Q E h => ?_) (fun cdv A outer s H vs Q E hr h => ?_)
  · obtain ⟨_, _, rfl, _⟩ := h
    rfl
  obtain ⟨a, ns, rfl, hs, hl, q⟩ := h
  refine ⟨_, (pss_cons (ps_set (i := 1) sc_law.nd rfl (by first | exact Or.inl rfl | exact Or.inr rfl) (pe_cal G__law_state (hr.mono (by walk_at "lev")) rfl (pa_cons (pv 0) pa_nil))) (pss_cons (ps_set (i := 2) sc_law.nd rfl (by first | exact Or.inl rfl | exact Or.inr rfl) (pe_cal G__law_pick (hr.mono (by walk_at "lev")) rfl (pa_cons (pv 1) (pa_cons (pe_lst (pa_cons (pe_op op_addA pe_int (pe_cal G__law_draw (hr.mono (by walk_at "lev")) rfl (pa_cons (pv 1) (pa_cons pe_int pa_nil)))) (pa_cons (pe_op op_addA pe_int (pe_cal G__law_draw (hr.mono (by walk_at "lev")) rfl (pa_cons (pv 1) (pa_cons pe_int pa_nil)))) (pa_cons (pe_cal G__law_draw (hr.mono (by walk_at "lev")) rfl (pa_cons (pv 1) (pa_cons pe_int pa_nil))) pa_nil)))) pa_nil)))) (pss_cons (ps_set (i := 3) sc_law.nd rfl (by first | exact Or.inl rfl | exact Or.inr rfl) (pe_cal G__law_links (hr.mono (by walk_at "lev")) rfl (pa_cons (pv 1) (pa_cons (pv 2) pa_nil)))) (pss_cons (ps_set (i := 4) sc_law.nd rfl (by first | exact Or.inl rfl | exact Or.inr rfl) (pe_cal G__law_due (hr.mono (by walk_at "lev")) rfl (pa_cons (pv 2) (pa_cons (pv 3) pa_nil)))) (pss_cons (ps_if (pt_cmpR (op_neA (hu64 hr)) (pe_cal G__law_told (hr.mono (by walk_at "lev")) rfl (pa_cons (pv 2) (pa_cons (pv 3) pa_nil))) (pv 4) (nomark _)) (pss_one (ps_ret pe_bl)) pss_nil) (pss_cons (ps_if (pt_cmpR (op_neA (hu64 hr)) (pv 4) pe_str (nomark _)) (pss_one (ps_ret pe_bl)) pss_nil) (pss_cons (ps_set (i := 5) sc_law.nd rfl (by first | exact Or.inl rfl | exact Or.inr rfl) (pe_cal G_next_hops (hr.mono (by walk_at "lev")) rfl (pa_cons (pv 2) (pa_cons (pv 3) pa_nil)))) (pss_cons (ps_for PassesOwn.never rfl (pi_range1 rfl T.n_range (pa_cons (pv 2) pa_nil)) (pg_name (i := 6) sc_law.nd rfl (by first | exact Or.inl rfl | exact Or.inr rfl)) (pss_cons (ps_set (i := 7) sc_law.nd rfl (by first | exact Or.inl rfl | exact Or.inr rfl) (pe_cal G__law_far (hr.mono (by walk_at "lev")) rfl (pa_cons (pv 2) (pa_cons (pv 3) (pa_cons (pv 6) pa_nil))))) (pss_cons (ps_if (pt_cmpR (op_neA (hu64 hr)) (pe_cal G_distances (hr.mono (by walk_at "lev")) rfl (pa_cons (pv 2) (pa_cons (pv 3) (pa_cons (pv 6) pa_nil)))) (pv 7) (nomark _)) (pss_one (ps_ret pe_bl)) pss_nil) (pss_one (ps_for PassesOwn.never rfl (pi_range1 rfl T.n_range (pa_cons (pv 2) pa_nil)) (pg_name (i := 8) sc_law.nd rfl (by first | exact Or.inl rfl | exact Or.inr rfl)) (pss_cons (ps_setLc (i := 9) (own := [("a", 10), ("b", 11)]) rfl sc_law.nd rfl rfl (sw_true rfl rfl rfl (by decide +kernel)) (pi_list (pv 3)) (blkOk_by (N := ["script", "state", "many", "links", "due", "hops", "goal", "far", "at", "near", "a", "b"]) (sc := defScope s_law) (by decide +kernel)) (fun _ _ _ _ _ => (pg_tupK (K := K) (n := 2) rfl rfl (pgs_cons (pg_name (i := 10) sc_law.nd rfl (by first | exact Or.inl rfl | exact Or.inr rfl)) (pgs_cons (pg_name (i := 11) sc_law.nd rfl (by first | exact Or.inl rfl | exact Or.inr rfl)) pgs_nil)))) (fun _ _ _ _ _ => (pts_one (PW.pt (pw_and (pt_cmpR (op_eqK (K := K) rfl (hu64 hr)) (pv 10) (pv 8) (nomark _)) (pw_and1 (pt_cmpR op_lt (pe_ix (ix_seqK (K := K) rfl) (pv 7) (pv 11) (fun _ _ => rfl)) (pe_ix (ix_seqK (K := K) rfl) (pv 7) (pv 8) (fun _ _ => rfl)) (nomark _))))))) (fun _ _ _ _ _ => (pv 11))) (pss_cons (ps_set (i := 9) sc_law.nd rfl (by first | exact Or.inl rfl | exact Or.inr rfl) (pe_op op_addA (pv 9) (pe_lc (own := [("a", 10), ("b", 11)]) rfl sc_law.nd (pi_list (pv 3)) (blkOk_by (N := ["script", "state", "many", "links", "due", "hops", "goal", "far", "at", "near", "a", "b"]) (sc := defScope s_law) (by decide +kernel)) (fun _ _ _ _ _ => (pg_tupK (K := K) (n := 2) rfl rfl (pgs_cons (pg_name (i := 10) sc_law.nd rfl (by first | exact Or.inl rfl | exact Or.inr rfl)) (pgs_cons (pg_name (i := 11) sc_law.nd rfl (by first | exact Or.inl rfl | exact Or.inr rfl)) pgs_nil)))) (fun _ _ _ _ _ => (pts_one (PW.pt (pw_and (pt_cmpR (op_eqK (K := K) rfl (hu64 hr)) (pv 11) (pv 8) (nomark _)) (pw_and1 (pt_cmpR op_lt (pe_ix (ix_seqK (K := K) rfl) (pv 7) (pv 10) (fun _ _ => rfl)) (pe_ix (ix_seqK (K := K) rfl) (pv 7) (pv 8) (fun _ _ => rfl)) (nomark _))))))) (fun _ _ _ _ _ => (pv 10))))) (pss_one (ps_if (pt_cmpR (op_neA (hu64 hr)) (pe_ix ix_seq (pe_ix ix_seq (pv 5) (pv 8) (fun _ _ => rfl)) (pv 6) (fun _ _ => rfl)) (pe_ifExp (pt_cmpR (op_eqA (hu64 hr)) (pv 8) (pv 6) (nomark _)) (pv 8) (pe_callB (cr_minA rfl) rfl T.n_min (by decide +kernel) (pa_cons (pv 9) pa_nil))) (nomark _)) (pss_one (ps_ret pe_bl)) pss_nil))))))))) (pss_one (ps_ret (pe_cmpR (op_eqA (hu64 hr)) (pe_callB call_lenA rfl T.n_len (by decide +kernel) (pa_cons (pv 5) pa_nil)) (pv 2) (nomark _)))))))))))), ?_⟩
  try dsimp only [cxOf, Cx.nox]
  repeat' walk_at "st"
  refine c_state hs hl ?_
  intro st c H1 e1 hst hc so
  repeat' walk_at "st"
  obtain ⟨many, rfl, h0, h8⟩ : ∃ m : Int, v = .int m ∧ 0 ≤ m ∧ m ≤ 8 := by
    rcases j with _ | _ | _ | j
    · cases ej
      exact ⟨_, rfl, by omega, by omega⟩
    · cases ej
      exact ⟨_, rfl, by omega, by omega⟩
    · cases ej
      exact ⟨_, rfl, by omega, by omega⟩
    · cases ej
  refine c_links so h0 h8 (fun H2 L ls hL k2 so2 lk2 ll => ?_)
  clear ej so
  repeat' walk_at "st"
  refine c_due lk2 (by omega) (fun H3 r k3 du => ?_)
  repeat' walk_at "st"
  refine c_told (lk_ex k3 lk2) (by omega) (fun H4 r' k4 du4 => ?_)
  obtain rfl := due_eq du4 du
  refine r_var (v := .str r') rfl ?_
  refine q_neS (fun z => absurd rfl z) (fun _ => ?_)
  repeat' walk_at "st"
  · exact q _
  obtain ⟨m, es, f0, rfl, m1, m6, rfl, hval, F0, hf0⟩ := due_ok du (by assumption)
  have les : es.length ≤ 1000 := by
    unfold casts at ll
    rw [List.length_map] at ll
    omega
  have lk4 := lk_ex (k3.trans k4) lk2
  refine c_hops lk4 hval (conn_of F0 hf0) ⟨by omega, les⟩ (fun H5 b hs k5 W5 => ?_)
  have lk5 := lk_ex k5 lk4
  repeat' walk_at "st"
  refine w_rng (lo := 0) (n := ((m : Nat) : Int).toNat) (fun i σ H' => ∃ (y6 y7 y8 y9 : Option V), σ = [some (.ref a), some (.ref st), some (.int m), some (.ref L), some (.str r'), some (.ref b), y6, y7, y8, y9, none, none] ∧ Ex H5 H') ?_ ?_ ?_
  · exact ⟨_, _, _, _, rfl, Ex.refl _⟩
  · rintro i σ H6 hi ⟨y6, y7, y8, y9, rfl, e6⟩
    rw [Int.toNat_natCast] at hi
    rw [Int.zero_add]
    repeat' walk_at "st"
    refine c_far (lk_ex e6 lk5) hval (by omega) les hi (fun H7 pf f k7 h7 F => ?_)
    repeat' walk_at "st"
    refine c_dist (lk_ex k7 (lk_ex e6 lk5)) hval (by omega) les hi (fun H8 pd f' k8 _ h8 F' => ?_)
    obtain rfl := isD_eq F' F
    refine r_var (v := .ref pf) rfl ?_
    refine q_neIv h8 (k8 _ _ h7) ?_
    repeat' walk_at "st"
    refine w_rng (lo := 0) (n := ((m : Nat) : Int).toNat) (fun k σ H' => ∃ (y8 y9 : Option V), σ = [some (.ref a), some (.ref st), some (.int m), some (.ref L), some (.str r'), some (.ref b), some (.int i), some (.ref pf), y8, y9, none, none] ∧ Ex H8 H') ?_ ?_ ?_
    · exact ⟨_, _, rfl, Ex.refl _⟩
    · rintro k σ H9 hk ⟨y8, y9, rfl, e9⟩
      rw [Int.toNat_natCast] at hk
      rw [Int.zero_add]
      repeat' walk_at "st"
      obtain ⟨vs, hvs, hpr⟩ := lk_ex (e6.trans (k7.trans (k8.trans e9))) lk5
      have lvs : vs.length = es.length := by rw [paired_len hpr]; unfold casts; rw [List.length_map]
      have h9f := e9 _ _ (k8 _ _ h7)
      have lf : f'.length = m := F.len
      refine q_iL (sql hvs) ?_
      intro D1 hD1
      refine lc_list (xs := vs) (fun j H' => Ex H9 H' ∧ H' D1 = some (.lst (nats (nr1 (es.take j) f' k)))) ?_ ?_ ?_ ?_
      · exact ⟨ex_updF (Ex.refl _) hD1, upd_same⟩
      · rintro j H' _ ⟨e10, _⟩
        exact sql (e10 _ _ hvs)
      · rintro j v H10 hj ⟨e10, h10⟩
        obtain ⟨x, y, t, hxy, rfl, ht⟩ := casts_at hpr hj
        have ht10 := e10 _ _ ht
        have hf10 := e10 _ _ h9f
        obtain ⟨hx, hy⟩ := val_at hval hxy
        have fin1 : (x = k ∧ dAt f' y < dAt f' k) → ∃ acc, H10 D1 = some (.lst acc) ∧ acc.length < sizeLine ∧ Ex H9 (upd H10 D1 (.lst (acc ++ [V.int (y : Nat)]))) ∧ (upd H10 D1 (.lst (acc ++ [V.int (y : Nat)]))) D1 = some (.lst (nats (nr1 (es.take (j + 1)) f' k))) := fun cc => by
          refine ⟨_, h10, sl1000' (by unfold nats; rw [List.length_map]; have := nr1_le (es.take j) f' k; rw [List.length_take] at this; omega), ex_updF e10 hD1, ?_⟩
          rw [upd_same, nr1_take hxy, if_pos cc]
          unfold nats
          rw [List.map_append]
          rfl
        have fin0 : ¬ (x = k ∧ dAt f' y < dAt f' k) → Ex H9 H10 ∧ H10 D1 = some (.lst (nats (nr1 (es.take (j + 1)) f' k))) := fun cc => ⟨e10, by rw [nr1_take hxy, if_neg cc, List.append_nil]; exact h10⟩
        repeat' walk_at "st"
        refine ⟨rfl, ?_⟩
        repeat' walk_at "st"
        · have c1 : x = k := Int.ofNat_inj.mp (by assumption)
          refine q_ixL (sql hf10) (iv_at (by omega)) ?_
          repeat' walk_at "st"
          refine q_ixL (sql hf10) (iv_at (by omega)) ?_
          repeat' walk_at "st"
          · exact fin1 ⟨c1, by assumption⟩
          · exact fin0 (fun z => absurd z.2 (by assumption))
        · have c1 : ¬ x = k := fun z => absurd (congrArg Int.ofNat z) (by assumption)
          exact fin0 (fun z => c1 z.1)
      rintro H10 ⟨e10, h10⟩
      rw [lvs, List.take_length] at h10
      have hvs10 := e10 _ _ hvs
      repeat' walk_at "st"
      intro D2 hD2
      refine lc_list (xs := vs) (fun j H' => Ex H10 H' ∧ H' D2 = some (.lst (nats (nr2 (es.take j) f' k)))) ?_ ?_ ?_ ?_
      · exact ⟨ex_updF (Ex.refl _) hD2, upd_same⟩
      · rintro j H' _ ⟨e11, _⟩
        exact sql (e11 _ _ hvs10)
      · rintro j v H11 hj ⟨e11, h11⟩
        obtain ⟨x, y, t, hxy, rfl, ht⟩ := casts_at hpr hj
        have ht11 := e11 _ _ (e10 _ _ ht)
        have hf11 := e11 _ _ (e10 _ _ h9f)
        obtain ⟨hx, hy⟩ := val_at hval hxy
        have fin1 : (y = k ∧ dAt f' x < dAt f' k) → ∃ acc, H11 D2 = some (.lst acc) ∧ acc.length < sizeLine ∧ Ex H10 (upd H11 D2 (.lst (acc ++ [V.int (x : Nat)]))) ∧ (upd H11 D2 (.lst (acc ++ [V.int (x : Nat)]))) D2 = some (.lst (nats (nr2 (es.take (j + 1)) f' k))) := fun cc => by
          refine ⟨_, h11, sl1000' (by unfold nats; rw [List.length_map]; have := nr2_le (es.take j) f' k; rw [List.length_take] at this; omega), ex_updF e11 hD2, ?_⟩
          rw [upd_same, nr2_take hxy, if_pos cc]
          unfold nats
          rw [List.map_append]
          rfl
        have fin0 : ¬ (y = k ∧ dAt f' x < dAt f' k) → Ex H10 H11 ∧ H11 D2 = some (.lst (nats (nr2 (es.take (j + 1)) f' k))) := fun cc => ⟨e11, by rw [nr2_take hxy, if_neg cc, List.append_nil]; exact h11⟩
        repeat' walk_at "st"
        refine ⟨rfl, ?_⟩
        repeat' walk_at "st"
        · have c1 : y = k := Int.ofNat_inj.mp (by assumption)
          refine q_ixL (sql hf11) (iv_at (by omega)) ?_
          repeat' walk_at "st"
          refine q_ixL (sql hf11) (iv_at (by omega)) ?_
          repeat' walk_at "st"
          · exact fin1 ⟨c1, by assumption⟩
          · exact fin0 (fun z => absurd z.2 (by assumption))
        · have c1 : ¬ y = k := fun z => absurd (congrArg Int.ofNat z) (by assumption)
          exact fin0 (fun z => c1 z.1)
      rintro H11 ⟨e11, h11⟩
      rw [lvs, List.take_length] at h11
      have l1 := nr1_le es f' k
      have l2 := nr2_le es f' k
      refine q_catL (e11 _ _ h10) h11 (by unfold nats; rw [List.length_map, List.length_map]; omega) (fun p12 H12 hp12 k12 h12 => ?_)
      have h12' : H12 p12 = some (.lst (nats (nearer es f' k))) := by
        rw [h12]
        unfold nats nearer nr1 nr2
        rw [List.map_append]
      have ex12 : Ex H5 H12 := e6.trans (k7.trans (k8.trans (e9.trans (e10.trans (e11.trans k12)))))
      repeat' walk_at "st"
      obtain ⟨ms, hms, lms, hop⟩ := W5.row k hk
      refine q_ixL (sql (ex12 _ _ W5.ob)) (rg_at (by rw [W5.len]; exact hk)) ?_
      repeat' walk_at "st"
      obtain ⟨mi, hmi⟩ : ∃ mi, ms[i]? = some mi := ⟨_, List.getElem?_eq_getElem (by omega)⟩
      refine q_ixL (sql (ex12 _ _ hms)) (atI_nat (nats_at hmi)) ?_
      have hp9 := hop i mi hmi
      repeat' walk_at "st"
      · have ek : k = i := Int.ofNat_inj.mp (by assumption)
        exact absurd (congrArg Int.ofNat (hp9.1 ek)) (by assumption)
      · exact ⟨_, _, rfl, e9.trans (e10.trans (e11.trans k12))⟩
      have nk : k ≠ i := fun z => absurd (congrArg Int.ofNat z) (by assumption)
      obtain ⟨g1, g2⟩ := hp9.2 nk f' F
      refine q_minN h12' (List.length_pos_of_mem g1) (fun z hz hall => ?_)
      have ez : mi = z := Nat.le_antisymm (g2 z hz) (hall mi g1)
      subst ez
      refine q_neI (fun z => absurd rfl z) (fun _ => ?_)
      repeat' walk_at "st"
      exact ⟨_, _, rfl, e9.trans (e10.trans (e11.trans k12))⟩
    · rintro σ H9 ⟨y8, y9, rfl, e9⟩
      exact ⟨_, _, _, _, rfl, e6.trans (k7.trans (k8.trans e9))⟩
  · rintro σ H6 ⟨y6, y7, y8, y9, rfl, e6⟩
    have ob := e6 _ _ W5.ob
    repeat' walk_at "st"
    · exact q _
    · have e9 : (((hs.map V.ref).length : Nat) : Int) = (m : Int) := by rw [List.length_map, W5.len]
      exact absurd e9 (by assumption)
theorem ok_einit {x fl : Str} {C : Addr} (T : ErrC K mg x C fl) {q : Str} {st : Stmt} {N : List Str} (D : DnE K q C st N) (S : FnScope N N (defScope st)) (l2 : N.length = 2) (h0 : ∀ a b : V, start N [a, b] = [some a, some b])
    (hb : ∀ (f : Addr) (cdv : Value) (A : Around) (outer : List Env) (s : Shared) (H : Hp) (E : XK), PSs (cxOf CX0 P w K mg base N q (defScope st) f cdv A outer s H E).nox (defBody st) (tOst K fl (tVar 0) (tVar 1))) : MakE P w K mg base C 1 N (sp_einit C fl) := by
  refine D.ok S (fun vs H Q E h => ?_) (fun f cdv A outer s H vs Q E hr h => ?_)
  · obtain ⟨_, _, rfl, _⟩ := h
    rw [l2]
    rfl
  obtain ⟨a, v, rfl, ha, q⟩ := h
  refine ⟨_, hb f cdv A outer s H E, ?_⟩
  rw [h0]
  exact ⟨v, rfl, .ref a, rfl, a, C, rfl, T.ox, T.no, .inl ⟨ha, fun dx n ne => q dx n ne⟩⟩
theorem build_law {CL CP : Addr} {fd : FuncData} {fa : Addr} (F : Fun K "law" "law" s_law fa fd) (T : Glo mg) (D_check_network : Dn K mg "check_network" s_check_network p_check_network) (D_neighbours : Dn K mg "neighbours" s_neighbours p_neighbours) (D_distances : Dn K mg "distances" s_distances p_distances) (D_next_hops : Dn K mg "next_hops" s_next_hops p_next_hops) (D_next_hop : Dn K mg "next_hop" s_next_hop p_next_hop) (D__law_state : Dn K mg "_law_state" s__law_state p__law_state) (D__law_draw : Dn K mg "_law_draw" s__law_draw p__law_draw) (D__law_pick : Dn K mg "_law_pick" s__law_pick p__law_pick) (D__law_links : Dn K mg "_law_links" s__law_links p__law_links) (D__law_far : Dn K mg "_law_far" s__law_far p__law_far) (D__law_due : Dn K mg "_law_due" s__law_due p__law_due) (D__law_told : Dn K mg "_law_told" s__law_told p__law_told) (FA : Fam K mg CL CP) (E_L : DnE K "PlanError.__init__" CL s_PlanError___init__ p_PlanError___init__) : FnOk P w K mg base CX0 5 fa fd ["script"] (sp_law K) := by
  have mL : MakE P w K mg base CL 1 p_PlanError___init__ (sp_einit CL "reason") := ok_einit FA.l E_L sc_PlanError___init__ rfl (fun _ _ => rfl) (fun f cdv A outer s H E => (pss_one (ps_ost (pv 0) (pv 1))))
  have dr := ok_draw (P := P) (w := w) (base := base) T D__law_draw
  have pi := ok_pick T D__law_pick dr
  have nb := ok_nbs (P := P) (w := w) (base := base) T D_neighbours
  have di := ok_dist T D_distances nb
  have nh := ok_hop (P := P) (w := w) (base := base) T D_next_hop
  have ho := ok_hops T D_next_hops nb di nh
  have ch := ok_check T D_check_network FA.l mL di
  have to := ok_told T D__law_told FA ch
  have fr := ok_far (P := P) (w := w) (base := base) T D__law_far
  have du := ok_due T D__law_due fr
  have li := ok_links T D__law_links dr
  exact body_law (F := F) T (ok_state T D__law_state) dr pi li du to ho fr di
theorem dn_mk {h : Heap} {x : Str} {st : Stmt} {ps : List Str} {f : Addr} {oc : Value} {od an : Option Addr} {osl : Array (Option Value)} {kV doc pm cdv ct : Value} (X : K.In h) (G : h.Ns mainGlobals mg) (a : PySem.W.nsIn K mainGlobals x = some (some (.ref f)))
    (l : K.lookup f = some ⟨oc, od, .func (PySem.W.fnOf x x (defArgs st) (defBody st) (defScope st) .none kV doc pm an cdv ct), osl⟩) (c : PySem.W.codeIn K cdv x = true) (k : PySem.W.keepIn K (.ref f) = true)
    (hb : ∀ (kV doc pm : Value) (an : Option Addr) (cdv ct : Value) (us : List Value), us.length = ps.length → bindArgs (PySem.W.fnOf x x (defArgs st) (defBody st) (defScope st) .none kV doc pm an cdv ct) ⟨us, []⟩ = pure (ps.zip us)) : Dn K mg x st ps :=
  ⟨f, _, fun_mk l c k, PySem.W.mg_of X G a, (fun_mk l c k).binds hb⟩
theorem all_mk {l : PySem.W.OpenLaw} {w : World} {K : PySem.W.Frag} {h : Heap} {mg : Str → Option Value} {fa : Addr} (X : K.In h) (G : h.Ns mainGlobals mg) (hfa : mg "law" = some (.ref fa))
    {f0 : Addr} {od0 an0 : Option Addr} {sl0 : Array (Option Value)} {oc0 kV0 dc0 pm0 cd0 ct0 : Value}
    {f1 : Addr} {od1 an1 : Option Addr} {sl1 : Array (Option Value)} {oc1 kV1 dc1 pm1 cd1 ct1 : Value}
    {f2 : Addr} {od2 an2 : Option Addr} {sl2 : Array (Option Value)} {oc2 kV2 dc2 pm2 cd2 ct2 : Value}
    {f3 : Addr} {od3 an3 : Option Addr} {sl3 : Array (Option Value)} {oc3 kV3 dc3 pm3 cd3 ct3 : Value}
    {f4 : Addr} {od4 an4 : Option Addr} {sl4 : Array (Option Value)} {oc4 kV4 dc4 pm4 cd4 ct4 : Value}
    {f5 : Addr} {od5 an5 : Option Addr} {sl5 : Array (Option Value)} {oc5 kV5 dc5 pm5 cd5 ct5 : Value}
    {f6 : Addr} {od6 an6 : Option Addr} {sl6 : Array (Option Value)} {oc6 kV6 dc6 pm6 cd6 ct6 : Value}
    {f7 : Addr} {od7 an7 : Option Addr} {sl7 : Array (Option Value)} {oc7 kV7 dc7 pm7 cd7 ct7 : Value}
    {f8 : Addr} {od8 an8 : Option Addr} {sl8 : Array (Option Value)} {oc8 kV8 dc8 pm8 cd8 ct8 : Value}
    {f9 : Addr} {od9 an9 : Option Addr} {sl9 : Array (Option Value)} {oc9 kV9 dc9 pm9 cd9 ct9 : Value}
    {f10 : Addr} {od10 an10 : Option Addr} {sl10 : Array (Option Value)} {oc10 kV10 dc10 pm10 cd10 ct10 : Value}
    {f11 : Addr} {od11 an11 : Option Addr} {sl11 : Array (Option Value)} {oc11 kV11 dc11 pm11 cd11 ct11 : Value}
    {f12 : Addr} {od12 an12 : Option Addr} {sl12 : Array (Option Value)} {oc12 kV12 dc12 pm12 cd12 ct12 : Value}
    {C_PlacedError : Addr}
    {C_PlanError f_PlanError___init__ N_PlanError : Addr} {nm_PlanError q_PlanError : Str} {bs_PlanError bm_PlanError sub_PlanError : List Value} {sn_PlanError : List Str} {ab_PlanError : Bool} {col_PlanError : Option Bool} {dd_PlanError : Option Addr} {m0_PlanError m1_PlanError m2_PlanError m3_PlanError m5_PlanError : Option Value} {od_PlanError___init__ an_PlanError___init__ : Option Addr} {sl_PlanError___init__ : Array (Option Value)} {oc_PlanError___init__ kV_PlanError___init__ dc_PlanError___init__ pm_PlanError___init__ cd_PlanError___init__ ct_PlanError___init__ : Value}
    (a0 : PySem.W.nsIn K mainGlobals "check_network" = some (some (.ref f0))) (l0 : K.lookup f0 = some ⟨oc0, od0, .func (PySem.W.fnOf "check_network" "check_network" (defArgs s_check_network) (defBody s_check_network) (defScope s_check_network) .none kV0 dc0 pm0 an0 cd0 ct0), sl0⟩) (c0 : PySem.W.codeIn K cd0 "check_network" = true) (k0 : PySem.W.keepIn K (.ref f0) = true)
    (a1 : PySem.W.nsIn K mainGlobals "neighbours" = some (some (.ref f1))) (l1 : K.lookup f1 = some ⟨oc1, od1, .func (PySem.W.fnOf "neighbours" "neighbours" (defArgs s_neighbours) (defBody s_neighbours) (defScope s_neighbours) .none kV1 dc1 pm1 an1 cd1 ct1), sl1⟩) (c1 : PySem.W.codeIn K cd1 "neighbours" = true) (k1 : PySem.W.keepIn K (.ref f1) = true)
    (a2 : PySem.W.nsIn K mainGlobals "distances" = some (some (.ref f2))) (l2 : K.lookup f2 = some ⟨oc2, od2, .func (PySem.W.fnOf "distances" "distances" (defArgs s_distances) (defBody s_distances) (defScope s_distances) .none kV2 dc2 pm2 an2 cd2 ct2), sl2⟩) (c2 : PySem.W.codeIn K cd2 "distances" = true) (k2 : PySem.W.keepIn K (.ref f2) = true)
    (a3 : PySem.W.nsIn K mainGlobals "next_hops" = some (some (.ref f3))) (l3 : K.lookup f3 = some ⟨oc3, od3, .func (PySem.W.fnOf "next_hops" "next_hops" (defArgs s_next_hops) (defBody s_next_hops) (defScope s_next_hops) .none kV3 dc3 pm3 an3 cd3 ct3), sl3⟩) (c3 : PySem.W.codeIn K cd3 "next_hops" = true) (k3 : PySem.W.keepIn K (.ref f3) = true)
    (a4 : PySem.W.nsIn K mainGlobals "next_hop" = some (some (.ref f4))) (l4 : K.lookup f4 = some ⟨oc4, od4, .func (PySem.W.fnOf "next_hop" "next_hop" (defArgs s_next_hop) (defBody s_next_hop) (defScope s_next_hop) .none kV4 dc4 pm4 an4 cd4 ct4), sl4⟩) (c4 : PySem.W.codeIn K cd4 "next_hop" = true) (k4 : PySem.W.keepIn K (.ref f4) = true)
    (a5 : PySem.W.nsIn K mainGlobals "_law_state" = some (some (.ref f5))) (l5 : K.lookup f5 = some ⟨oc5, od5, .func (PySem.W.fnOf "_law_state" "_law_state" (defArgs s__law_state) (defBody s__law_state) (defScope s__law_state) .none kV5 dc5 pm5 an5 cd5 ct5), sl5⟩) (c5 : PySem.W.codeIn K cd5 "_law_state" = true) (k5 : PySem.W.keepIn K (.ref f5) = true)
    (a6 : PySem.W.nsIn K mainGlobals "_law_draw" = some (some (.ref f6))) (l6 : K.lookup f6 = some ⟨oc6, od6, .func (PySem.W.fnOf "_law_draw" "_law_draw" (defArgs s__law_draw) (defBody s__law_draw) (defScope s__law_draw) .none kV6 dc6 pm6 an6 cd6 ct6), sl6⟩) (c6 : PySem.W.codeIn K cd6 "_law_draw" = true) (k6 : PySem.W.keepIn K (.ref f6) = true)
    (a7 : PySem.W.nsIn K mainGlobals "_law_pick" = some (some (.ref f7))) (l7 : K.lookup f7 = some ⟨oc7, od7, .func (PySem.W.fnOf "_law_pick" "_law_pick" (defArgs s__law_pick) (defBody s__law_pick) (defScope s__law_pick) .none kV7 dc7 pm7 an7 cd7 ct7), sl7⟩) (c7 : PySem.W.codeIn K cd7 "_law_pick" = true) (k7 : PySem.W.keepIn K (.ref f7) = true)
    (a8 : PySem.W.nsIn K mainGlobals "_law_links" = some (some (.ref f8))) (l8 : K.lookup f8 = some ⟨oc8, od8, .func (PySem.W.fnOf "_law_links" "_law_links" (defArgs s__law_links) (defBody s__law_links) (defScope s__law_links) .none kV8 dc8 pm8 an8 cd8 ct8), sl8⟩) (c8 : PySem.W.codeIn K cd8 "_law_links" = true) (k8 : PySem.W.keepIn K (.ref f8) = true)
    (a9 : PySem.W.nsIn K mainGlobals "_law_far" = some (some (.ref f9))) (l9 : K.lookup f9 = some ⟨oc9, od9, .func (PySem.W.fnOf "_law_far" "_law_far" (defArgs s__law_far) (defBody s__law_far) (defScope s__law_far) .none kV9 dc9 pm9 an9 cd9 ct9), sl9⟩) (c9 : PySem.W.codeIn K cd9 "_law_far" = true) (k9 : PySem.W.keepIn K (.ref f9) = true)
    (a10 : PySem.W.nsIn K mainGlobals "_law_due" = some (some (.ref f10))) (l10 : K.lookup f10 = some ⟨oc10, od10, .func (PySem.W.fnOf "_law_due" "_law_due" (defArgs s__law_due) (defBody s__law_due) (defScope s__law_due) .none kV10 dc10 pm10 an10 cd10 ct10), sl10⟩) (c10 : PySem.W.codeIn K cd10 "_law_due" = true) (k10 : PySem.W.keepIn K (.ref f10) = true)
    (a11 : PySem.W.nsIn K mainGlobals "_law_told" = some (some (.ref f11))) (l11 : K.lookup f11 = some ⟨oc11, od11, .func (PySem.W.fnOf "_law_told" "_law_told" (defArgs s__law_told) (defBody s__law_told) (defScope s__law_told) .none kV11 dc11 pm11 an11 cd11 ct11), sl11⟩) (c11 : PySem.W.codeIn K cd11 "_law_told" = true) (k11 : PySem.W.keepIn K (.ref f11) = true)
    (a12 : PySem.W.nsIn K mainGlobals "law" = some (some (.ref f12))) (l12 : K.lookup f12 = some ⟨oc12, od12, .func (PySem.W.fnOf "law" "law" (defArgs s_law) (defBody s_law) (defScope s_law) .none kV12 dc12 pm12 an12 cd12 ct12), sl12⟩) (c12 : PySem.W.codeIn K cd12 "law" = true) (k12 : PySem.W.keepIn K (.ref f12) = true)
    (aC_PlacedError : PySem.W.nsIn K mainGlobals "PlacedError" = some (some (.ref C_PlacedError))) (eC_PlacedError : PySem.W.subIn K (.ref C_PlacedError) (.type "BaseException") = some true) (iC_PlacedError : PySem.W.isClsIn K C_PlacedError = true) (tC_PlacedError : PySem.W.typeIn K (.ref C_PlacedError) = some (.type "type")) (gnX : PySem.W.specialIn K (.builtin "object.__class__") "__get__" = some (some (.builtin "getset_descriptor.__get__"))) (tkX : PySem.W.takesIn K (.builtin "object.__class__") = some true)
    (aC_PlanError : PySem.W.nsIn K mainGlobals "PlanError" = some (some (.ref C_PlanError))) (xL_PlanError : K.lookup C_PlanError = some (excClassObj nm_PlanError q_PlanError C_PlanError N_PlanError bs_PlanError bm_PlanError true sn_PlanError sub_PlanError ab_PlanError col_PlanError dd_PlanError m0_PlanError m1_PlanError m2_PlanError m3_PlanError m5_PlanError "ValueError.__new__")) (rv_PlanError : PySem.HandSPX.refsVE bm_PlanError = true) (sa_PlanError : PySem.W.findIn K (.ref C_PlanError) "__setattr__" = some (some (.builtin "object.__setattr__"))) (ga_PlanError : PySem.W.findIn K (.ref C_PlanError) "__getattribute__" = some (some (.builtin "BaseException.__getattribute__"))) (gg_PlanError : PySem.W.findIn K (.ref C_PlanError) "__getattr__" = some none) (no_PlanError : PySem.W.findIn K (.ref C_PlanError) "reason" = some none) (kC_PlanError : PySem.W.keepIn K (.ref C_PlanError) = true) (eC_PlanError : PySem.W.subIn K (.ref C_PlanError) (.type "BaseException") = some true) (tC_PlanError : PySem.W.typeIn K (.ref C_PlanError) = some (.type "type")) (hC_PlanError : PySem.W.hasDictIn K C_PlanError = true) (cl_PlanError : (PySem.W.clsIn K C_PlanError).isSome = true) (ca_PlanError : PySem.W.findIn K (.ref C_PlanError) "__class__" = some (some (.builtin "object.__class__"))) (mo_PlanError : PySem.W.mroIn K C_PlanError (.type "object") = some true) (ii_PlanError : PySem.W.findIn K (.ref C_PlanError) "__init__" = some (some (.ref f_PlanError___init__))) (ti_PlanError : PySem.W.typeIn K (.ref f_PlanError___init__) = some (.type "function")) (li_PlanError : K.lookup f_PlanError___init__ = some ⟨oc_PlanError___init__, od_PlanError___init__, .func (PySem.W.fnOf "__init__" "PlanError.__init__" (defArgs s_PlanError___init__) (defBody s_PlanError___init__) (defScope s_PlanError___init__) .none kV_PlanError___init__ dc_PlanError___init__ pm_PlanError___init__ an_PlanError___init__ cd_PlanError___init__ ct_PlanError___init__), sl_PlanError___init__⟩) (ci_PlanError : PySem.W.codeIn K cd_PlanError___init__ "PlanError.__init__" = true) (ki_PlanError : PySem.W.keepIn K (.ref f_PlanError___init__) = true) (kv_PlanError : PySem.W.kitOne K (.ref C_PlanError) (.type "ValueError") = some true) (kp_PlanError : PySem.W.kitOne K (.ref C_PlanError) (.ref C_PlacedError) = some true) (sP_PlanError : PySem.W.subIn K (.ref C_PlanError) (.ref C_PlacedError) = some true)
    (k00X : PySem.W.kitOne K (.ref C_PlanError) (.ref C_PlanError) = some true)
    (sS_PlanError : PySem.W.subIn K (.ref C_PlanError) (.ref C_PlanError) = some true)
    (z_n_len : PySem.W.nsIn K mainGlobals "len" = some none) (z_n_int : PySem.W.nsIn K mainGlobals "int" = some none) (z_n_abs : PySem.W.nsIn K mainGlobals "abs" = some none) (z_n_range : PySem.W.nsIn K mainGlobals "range" = some none) (z_n_min : PySem.W.nsIn K mainGlobals "min" = some none) (z_n_max : PySem.W.nsIn K mainGlobals "max" = some none) (z_n_enumerate : PySem.W.nsIn K mainGlobals "enumerate" = some none) (z_n_isinstance : PySem.W.nsIn K mainGlobals "isinstance" = some none) {t_c_MOST_PROCESSORS : PySem.Tok} (z_c_MOST_PROCESSORS : PySem.W.nsIn K mainGlobals "MOST_PROCESSORS" = some (some (.int 6 t_c_MOST_PROCESSORS))) :
    ∃ fd : FuncData, (∀ (s : Shared) (v : Value), BindsTo s fd ⟨[v], []⟩ [("script", v)]) ∧ ∀ base : Heap, K.In base → base.Ns mainGlobals mg → FnOk l.prog w K mg base CX0 5 fa fd ["script"] (sp_law K) := by
  have e := hfa.symm.trans (PySem.W.mg_of X G a12)
  cases e
  have FL := fun_mk (st := s_law) l12 c12 k12
  have D_check_network : Dn K mg "check_network" s_check_network p_check_network := dn_mk X G a0 l0 c0 k0 (fun _ _ _ _ _ _ us hl => match us, hl with | [_, _], _ => rfl)
  have D_neighbours : Dn K mg "neighbours" s_neighbours p_neighbours := dn_mk X G a1 l1 c1 k1 (fun _ _ _ _ _ _ us hl => match us, hl with | [_, _], _ => rfl)
  have D_distances : Dn K mg "distances" s_distances p_distances := dn_mk X G a2 l2 c2 k2 (fun _ _ _ _ _ _ us hl => match us, hl with | [_, _, _], _ => rfl)
  have D_next_hops : Dn K mg "next_hops" s_next_hops p_next_hops := dn_mk X G a3 l3 c3 k3 (fun _ _ _ _ _ _ us hl => match us, hl with | [_, _], _ => rfl)
  have D_next_hop : Dn K mg "next_hop" s_next_hop p_next_hop := dn_mk X G a4 l4 c4 k4 (fun _ _ _ _ _ _ us hl => match us, hl with | [_, _, _, _], _ => rfl)
  have D__law_state : Dn K mg "_law_state" s__law_state p__law_state := dn_mk X G a5 l5 c5 k5 (fun _ _ _ _ _ _ us hl => match us, hl with | [_], _ => rfl)
  have D__law_draw : Dn K mg "_law_draw" s__law_draw p__law_draw := dn_mk X G a6 l6 c6 k6 (fun _ _ _ _ _ _ us hl => match us, hl with | [_, _], _ => rfl)
  have D__law_pick : Dn K mg "_law_pick" s__law_pick p__law_pick := dn_mk X G a7 l7 c7 k7 (fun _ _ _ _ _ _ us hl => match us, hl with | [_, _], _ => rfl)
  have D__law_links : Dn K mg "_law_links" s__law_links p__law_links := dn_mk X G a8 l8 c8 k8 (fun _ _ _ _ _ _ us hl => match us, hl with | [_, _], _ => rfl)
  have D__law_far : Dn K mg "_law_far" s__law_far p__law_far := dn_mk X G a9 l9 c9 k9 (fun _ _ _ _ _ _ us hl => match us, hl with | [_, _, _], _ => rfl)
  have D__law_due : Dn K mg "_law_due" s__law_due p__law_due := dn_mk X G a10 l10 c10 k10 (fun _ _ _ _ _ _ us hl => match us, hl with | [_, _], _ => rfl)
  have D__law_told : Dn K mg "_law_told" s__law_told p__law_told := dn_mk X G a11 l11 c11 k11 (fun _ _ _ _ _ _ us hl => match us, hl with | [_, _], _ => rfl)
  have T_PlanError : ErrC K mg "PlanError" C_PlanError "reason" := ⟨PySem.W.mg_of X G aC_PlanError, ⟨⟨nm_PlanError, q_PlanError, N_PlanError, bs_PlanError, bm_PlanError, sn_PlanError, sub_PlanError, ab_PlanError, col_PlanError, dd_PlanError, m0_PlanError, m1_PlanError, m2_PlanError, m3_PlanError, m5_PlanError, xL_PlanError, rv_PlanError⟩, sa_PlanError, eC_PlanError, tC_PlanError, kC_PlanError⟩, ⟨ga_PlanError, gg_PlanError, eC_PlanError, hC_PlanError⟩, no_PlanError, cl_PlanError, ca_PlanError, gnX, tkX, mo_PlanError⟩
  have F_PlanError___init__ := fun_mk (st := s_PlanError___init__) li_PlanError ci_PlanError ki_PlanError
  have b_PlanError___init__ := F_PlanError___init__.binds (ps := p_PlanError___init__) fun _ _ _ _ _ _ us hl => match us, hl with | [_, _], _ => rfl
  have D_PlanError___init__ : DnE K "PlanError.__init__" C_PlanError s_PlanError___init__ p_PlanError___init__ := ⟨_, _, ii_PlanError, ti_PlanError, F_PlanError___init__, b_PlanError___init__⟩
  have FA : Fam K mg C_PlanError C_PlacedError := ⟨T_PlanError, PySem.W.mg_of X G aC_PlacedError, kp_PlanError, exm_own eC_PlanError cl_PlanError tC_PlanError sS_PlanError⟩
  have T : Glo mg := ⟨PySem.W.mg_none_of X G z_n_len, PySem.W.mg_none_of X G z_n_int, PySem.W.mg_none_of X G z_n_abs, PySem.W.mg_none_of X G z_n_range, PySem.W.mg_none_of X G z_n_min, PySem.W.mg_none_of X G z_n_max, PySem.W.mg_none_of X G z_n_enumerate, PySem.W.mg_none_of X G z_n_isinstance, ⟨_, PySem.W.mg_of X G z_c_MOST_PROCESSORS⟩⟩
  refine ⟨PySem.W.fnOf "law" "law" (defArgs s_law) (defBody s_law) (defScope s_law) .none kV12 dc12 pm12 an12 cd12 ct12, fun s v => .of_eq rfl, fun base _ _ => ?_⟩
  exact build_law FL T D_check_network D_neighbours D_distances D_next_hops D_next_hop D__law_state D__law_draw D__law_pick D__law_links D__law_far D__law_due D__law_told FA D_PlanError___init__
theorem walk {l : PySem.W.OpenLaw} {q : Program} {loose : List Str} {XP : (Str → Option Value) → Heap → Prop} {YP : World → Heap → Prop} {d : DefRec} {K : Params → PySem.W.Frag} (hn : l.most = some 63) (hdf : d.params.defaults = [])
    (hY : ∀ (w : World) (h : Heap), YP w h → (K w.params).In h)
    (F : ∀ (w : World) (mg : Str → Option Value) (fa : Addr) (h : Heap), (K w.params).In h → h.Ns mainGlobals mg → mg d.name = some (.ref fa) →
      ∃ fd : FuncData, (∀ (s : Shared) (u : Value), BindsTo s fd ⟨[u], []⟩ [("script", u)]) ∧ ∀ base : Heap, (K w.params).In base → base.Ns mainGlobals mg → FnOk l.prog w (K w.params) mg base CX0 5 fa fd ["script"] (sp_law (K w.params))) :
    PySem.W.WalkO q loose XP YP l.row.toRowW d [] (fun f vs => PySem.call f vs) :=
  L2.walk_of (n := 63) (k := 5) (x := "script") (CX := fun _ => CX0) (sp := fun w => sp_law (K w.params)) hn (by decide) hdf ⟨rfl, by decide, by decide⟩ hY F (fun _ _ a ns hl _ hS => ⟨a, ns, rfl, hS, hl, fun _ => rfl⟩) fun _ _ _ _ _ z => z
end Y
open PySem PySem.W PyProof.Rows
set_option maxRecDepth 100000 in
set_option maxHeartbeats 0 in
theorem PySem.Challenge.cw_placedanyhow_k40_networks_and_hops_holds : PySem.Challenge.rw_placedanyhow_k40_networks_and_hops.Holds := by
  w_on; o_law; k_head; (case hw => w_witness2)
  k_fill
  refine Y.walk (l := PySem.Challenge.rw_placedanyhow_k40_networks_and_hops) rfl rfl (fun w h Y => PySem.W.kIn_of Y) ?F
  case F =>
    intro w mg fa h KX G hmg
    refine' Y.all_mk KX G hmg ?a0 ?l0 ?c0 ?k0 ?a1 ?l1 ?c1 ?k1 ?a2 ?l2 ?c2 ?k2 ?a3 ?l3 ?c3 ?k3 ?a4 ?l4 ?c4 ?k4 ?a5 ?l5 ?c5 ?k5 ?a6 ?l6 ?c6 ?k6 ?a7 ?l7 ?c7 ?k7 ?a8 ?l8 ?c8 ?k8 ?a9 ?l9 ?c9 ?k9 ?a10 ?l10 ?c10 ?k10 ?a11 ?l11 ?c11 ?k11 ?a12 ?l12 ?c12 ?k12 ?aC_PlacedError ?eC_PlacedError ?iC_PlacedError ?tC_PlacedError ?gnX ?tkX ?aC_PlanError ?xL_PlanError ?rv_PlanError ?sa_PlanError ?ga_PlanError ?gg_PlanError ?no_PlanError ?kC_PlanError ?eC_PlanError ?tC_PlanError ?hC_PlanError ?cl_PlanError ?ca_PlanError ?mo_PlanError ?ii_PlanError ?ti_PlanError ?li_PlanError ?ci_PlanError ?ki_PlanError ?kv_PlanError ?kp_PlanError ?sP_PlanError ?k00X ?sS_PlanError ?z_n_len ?z_n_int ?z_n_abs ?z_n_range ?z_n_min ?z_n_max ?z_n_enumerate ?z_n_isinstance ?z_c_MOST_PROCESSORS
    (case a0 => k_is); (case l0 => k_is); (case c0 => k_is); (case k0 => k_is)
    (case a1 => k_is); (case l1 => k_is); (case c1 => k_is); (case k1 => k_is)
    (case a2 => k_is); (case l2 => k_is); (case c2 => k_is); (case k2 => k_is)
    (case a3 => k_is); (case l3 => k_is); (case c3 => k_is); (case k3 => k_is)
    (case a4 => k_is); (case l4 => k_is); (case c4 => k_is); (case k4 => k_is)
    (case a5 => k_is); (case l5 => k_is); (case c5 => k_is); (case k5 => k_is)
    (case a6 => k_is); (case l6 => k_is); (case c6 => k_is); (case k6 => k_is)
    (case a7 => k_is); (case l7 => k_is); (case c7 => k_is); (case k7 => k_is)
    (case a8 => k_is); (case l8 => k_is); (case c8 => k_is); (case k8 => k_is)
    (case a9 => k_is); (case l9 => k_is); (case c9 => k_is); (case k9 => k_is)
    (case a10 => k_is); (case l10 => k_is); (case c10 => k_is); (case k10 => k_is)
    (case a11 => k_is); (case l11 => k_is); (case c11 => k_is); (case k11 => k_is)
    (case a12 => k_is); (case l12 => k_is); (case c12 => k_is); (case k12 => k_is)
    (case aC_PlacedError => first | k_is | rfl)
    (case eC_PlacedError => first | k_is | rfl)
    (case iC_PlacedError => first | k_is | rfl)
    (case tC_PlacedError => first | k_is | rfl)
    (case gnX => first | k_is | rfl)
    (case tkX => first | k_is | rfl)
    (case aC_PlanError => first | k_is | rfl)
    (case xL_PlanError => first | k_is | rfl)
    (case rv_PlanError => rfl)
    (case sa_PlanError => first | k_is | rfl)
    (case ga_PlanError => first | k_is | rfl)
    (case gg_PlanError => first | k_is | rfl)
    (case no_PlanError => first | k_is | rfl)
    (case kC_PlanError => first | k_is | rfl)
    (case eC_PlanError => first | k_is | rfl)
    (case tC_PlanError => first | k_is | rfl)
    (case hC_PlanError => first | k_is | rfl)
    (case cl_PlanError => first | k_is | rfl)
    (case ca_PlanError => first | k_is | rfl)
    (case mo_PlanError => first | k_is | rfl)
    (case ii_PlanError => first | k_is | rfl)
    (case ti_PlanError => first | k_is | rfl)
    (case li_PlanError => first | k_is | rfl)
    (case ci_PlanError => first | k_is | rfl)
    (case ki_PlanError => first | k_is | rfl)
    (case kv_PlanError => first | k_is | rfl)
    (case kp_PlanError => first | k_is | rfl)
    (case sP_PlanError => first | k_is | rfl)
    (case k00X => first | k_is | rfl)
    (case sS_PlanError => first | k_is | rfl)
    (case z_n_len => k_is)
    (case z_n_int => k_is)
    (case z_n_abs => k_is)
    (case z_n_range => k_is)
    (case z_n_min => k_is)
    (case z_n_max => k_is)
    (case z_n_enumerate => k_is)
    (case z_n_isinstance => k_is)
    (case z_c_MOST_PROCESSORS => k_is)
#print axioms PySem.Challenge.cw_placedanyhow_k40_networks_and_hops_holds
