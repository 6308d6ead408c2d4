import PyProof.Rows.All
import Wide.All
import OpenK.AllK
import Wide.FinOn
import HandS.ForMost
import HandS.IsInst
import HandS.Steps
import HandS.StrMore
import HandS.Codes
import PySem.Challenge.RW_placedanyhow_k01_tokens_of_a_text
set_option Elab.async false
set_option linter.all false
set_option maxRecDepth 100000
set_option maxHeartbeats 4000000
namespace Y
open PySem L2

/-! ### rules joined -/
section
variable {X : Cx}
def rAddA (K : PySem.W.Frag) : R2 := fun x y H Q => rI0 (fun i j => .int (i + j)) x y H Q ∨ (∃ i j, x = V.str i ∧ y = V.str j ∧ i.length + j.length ≤ sizeLine ∧ Q (.str (i ++ j)) H) ∨ rCat x y H Q ∨ rCatT K x y H Q
theorem op_addA : OpR X (binaryOp .Add) (rAddA X.K) := op_add.or (op_add_str.or (op_cat.or op_catT))
def rEqA (K : PySem.W.Frag) : R2 := fun x y H Q => rEq x y H Q ∨ rEqD K x y H Q
def rNeA (K : PySem.W.Frag) : R2 := fun x y H Q => rNe x y H Q ∨ rNeD K x y H Q
theorem op_eqA (hu : X.A.units + 64 < cLine) : OpR X (compareOp .Eq) (rEqA X.K) := op_eq.or (op_eqD hu)
theorem op_neA (hu : X.A.units + 64 < cLine) : OpR X (compareOp .NotEq) (rNeA X.K) := op_ne.or (op_neD hu)
def rLenA (K : PySem.W.Frag) : List V → Hp → VK → Prop := fun xs H Q => (∃ p ys, xs = [V.ref p] ∧ (SqL K H p ys ∨ SqT K H p ys) ∧ Q (.int ys.length) H) ∨ ∃ z, xs = [V.str z] ∧ z.length ≤ sizeLine ∧ Q (.int z.length) H
theorem call_lenA : CallR X (.builtin "len") (rLenA X.K) := call_len_seq.or call_len_str
def rSlA (K : PySem.W.Frag) : V → Option Int → Option Int → Hp → VK → Prop := fun x lo hi H Q => rSlL K x lo hi H Q ∨ rSlT K x lo hi H Q
theorem sl_any : SlR X (rSlA X.K) := sl_list.or sl_tup
theorem hu64 {A : Around} {k : Nat} (hr : Room k A) : A.units + 64 < cLine := by have := hr.un; omega
theorem pe_globC {x : Str} {n : Int} {pos : Pos} (hg : Gl X x) (hm : ∃ t, X.mg x = some (.int n t)) (hd : (x == ("__debug__" : Str)) = false := by decide) : PE X (.Name x pos) (tC (.int n)) := by
  obtain ⟨t, h⟩ := hm
  exact pe_glob hg h ⟨t, rfl⟩ hd
theorem pe_ty {x : Str} {n : String} {pos : Pos} (hg : Gl X x) (hm : X.mg x = none) (hv : bootBuiltins x = some (.type n)) (hn : x ≠ "__name__" := by decide) (hd : (x == ("__debug__" : Str)) = false := by decide) : PE X (.Name x pos) (tC (.ty n)) := pe_bltn hg hm hv rfl hn hd
end

section
variable {X : Cx} {K : PySem.W.Frag}
theorem op_eqK (hK : X.K = K) (hu : X.A.units + 64 < cLine) : OpR X (compareOp .Eq) (rEqA K) := hK ▸ op_eqA hu
theorem op_neK (hK : X.K = K) (hu : X.A.units + 64 < cLine) : OpR X (compareOp .NotEq) (rNeA K) := hK ▸ op_neA hu
theorem op_addK (hK : X.K = K) : OpR X (binaryOp .Add) (rAddA K) := hK ▸ op_addA
theorem ix_seqK (hK : X.K = K) : IxR X (rIx K) := hK ▸ ix_seq
theorem call_lenK (hK : X.K = K) : CallR X (.builtin "len") (rLenA K) := hK ▸ call_lenA
theorem op_inK (hK : X.K = K) : OpR X (compareOp .In) (rIn K false) := hK ▸ op_in_seq
theorem op_notInK (hK : X.K = K) : OpR X (compareOp .NotIn) (rIn K true) := hK ▸ op_notIn_seq
theorem sl_anyK (hK : X.K = K) : SlR X (rSlA K) := hK ▸ sl_any
theorem pi_listK {tg l : Expr} {tl : TE} (hK : X.K = K) (hl : PE X l tl) : PI X tg l (iList K tl) := hK ▸ pi_list hl
end
section
variable {X : Cx}
def rIsN : R2 := fun x y H Q => y = .non ∧ Q (.bl (decide (x = .non))) H
def rNotN : R2 := fun x y H Q => y = .non ∧ Q (.bl (!decide (x = .non))) H
theorem op_isN1 : OpR X (compareOp .Is) rIsN := op_isN
theorem op_notN1 : OpR X (compareOp .IsNot) rNotN := op_notN
end
section
variable {X : Cx}
def rInt : List V → Hp → VK → Prop := fun xs H Q => (∃ i, xs = [V.int i] ∧ Q (.int i) H) ∨ ∃ k, xs = [.bl k] ∧ Q (.int (if k then 1 else 0)) H
def rAbs : List V → Hp → VK → Prop := fun xs H Q => ∃ i, xs = [V.int i] ∧ Q (.int (if i < 0 then -i else i)) H
def rListOf (K : PySem.W.Frag) : List V → Hp → VK → Prop := fun xs H Q => ∃ p ys, xs = [V.ref p] ∧ (SqL K H p ys ∨ SqT K H p ys) ∧ ∀ l, H l = none → Q (.ref l) (upd H l (.lst ys))
theorem call_intA : CallR X (.type "int") rInt := call_int1
theorem call_absA : CallR X (.builtin "abs") rAbs := call_abs
theorem call_listA : CallR X (.type "list") (rListOf X.K) := call_list_of
end
/-! ### defs -/
section
variable (P : Program) (w : World) (K : PySem.W.Frag) (mg : Str → Option Value) (base : Heap)
/-- a def of the text as it stands behind the top -/
def Dn (x : Str) (st : Stmt) (ps : List Str) : Prop := ∃ f fd, Fun K x x st f fd ∧ mg x = some (.ref f) ∧ Binds K fd ps []
/-- a def that keeps its promise -/
def Cal (x : Str) (k : Nat) (ps : List Str) (sp : Sp) : Prop := ∃ f fd, FnOk P w K mg base CX0 k f fd ps sp ∧ mg x = some (.ref f) ∧ PySem.W.keepIn K (.ref f) = true ∧ Binds K fd ps []
end
section
variable {P : Program} {w : World} {K : PySem.W.Frag} {mg : Str → Option Value} {base : Heap}
theorem Dn.ok {x : Str} {st : Stmt} {N ps : List Str} {k : Nat} {sp : Sp} (D : Dn K mg x st ps) (S : FnScope N ps (defScope st)) (len : ∀ vs H Q E, sp vs H Q E → vs.length = ps.length)
    (hbody : ∀ (f : Addr) (cdv : Value) (A : Around) (outer : List Env) (s : Shared) (H : Hp) (vs : List V) (Q : VK) (E : XK), Room k (A.deeper (PyProof.Rows.envOfC x (defScope st) s.heap.objs.size f cdv)) → sp vs H Q E →
      ∃ t, PSs (cxOf CX0 P w K mg base N x (defScope st) f cdv A outer s H E).nox (defBody st) t ∧ t { nx := fun _ H' => Q .non H', rt := Q } (start N vs) H) : Cal P w K mg base x (k + 1) ps sp := by
  obtain ⟨f, fd, F, m, b⟩ := D
  exact ⟨f, fd, F.ok S len (hbody f), m, F.kp, b⟩
theorem pe_cal {X : Cx} {x : Str} {k : Nat} {ps : List Str} {sp : Sp} {e : Expr} {es : List Expr} {t : TA} {p pos : Pos} (G : Cal X.prog X.w X.K X.mg X.base x k ps sp) (hr : Room k X.A) (hg : Gl X x) (ha : PA X (e :: es) t)
    (hdb : (x == ("__debug__" : Str)) = false := by decide) (he : starEach (e :: es) X.env = (false, eval e X.env) :: starEach es X.env := by rfl) (hpl : (backTo pos (starEach es X.env)).any (·.1) = false := by rfl) : PE X (.Call (.Name x p) (e :: es) [] pos) (tCall sp [] E0 t) := by
  obtain ⟨f, fd, F, m, kp, b⟩ := G
  exact pe_call F hr hg m kp b .nil pass0 ha hdb he hpl
theorem pe_cal0 {X : Cx} {x : Str} {k : Nat} {ps : List Str} {sp : Sp} {p pos : Pos} (G : Cal X.prog X.w X.K X.mg X.base x k ps sp) (hr : Room k X.A) (hg : Gl X x)
    (hdb : (x == ("__debug__" : Str)) = false := by decide) : PE X (.Call (.Name x p) [] [] pos) (tCall sp [] E0 tNil) := by
  obtain ⟨f, fd, F, m, kp, b⟩ := G
  exact pe_call0 F hr hg m kp b .nil pass0 hdb
end

/-! ### heaps -/
/-- all that was tracked stays -/
def Ex (H H' : Hp) : Prop := ∀ a o, H a = some o → H' a = some o
/-- all tuples stay, and all that is not at M -/
structure Kp (M : List Addr) (H H' : Hp) : Prop where
  tup : ∀ a xs, H a = some (.tup xs) → H' a = some (.tup xs)
  out : ∀ a o, a ∉ M → H a = some o → H' a = some o
theorem Ex.refl (H : Hp) : Ex H H := fun _ _ h => h
theorem Ex.trans {H H1 H2 : Hp} (a : Ex H H1) (b : Ex H1 H2) : Ex H H2 := fun x o h => b x o (a x o h)
theorem Ex.same {H H' : Hp} (e : Ex H H') : L2.Same H H' := e
theorem Ex.kp {M : List Addr} {H H' : Hp} (e : Ex H H') : Kp M H H' := ⟨fun a xs h => e a _ h, fun a o _ h => e a o h⟩
theorem Kp.refl {M : List Addr} (H : Hp) : Kp M H H := (Ex.refl H).kp
theorem Kp.trans {M : List Addr} {H H1 H2 : Hp} (a : Kp M H H1) (b : Kp M H1 H2) : Kp M H H2 := ⟨fun x o h => b.tup x o (a.tup x o h), fun x o n h => b.out x o n (a.out x o n h)⟩
theorem Kp.sub {M N : List Addr} {H H' : Hp} (a : Kp M H H') (s : ∀ x, x ∈ M → x ∈ N) : Kp N H H' := ⟨a.tup, fun x o n h => a.out x o (fun z => n (s x z)) h⟩
theorem Ex.mk {H H2 : Hp} {p : Addr} {o : HO} (h : H p = none) (e : upd H p o = H2) : Ex H H2 := fun a u ha => by
  rw [← e, upd_ne (ne_of_none ha h)]
  exact ha
theorem at_new {H H2 : Hp} {p : Addr} {o : HO} (e : upd H p o = H2) : H2 p = some o := by rw [← e]; exact upd_same
theorem Kp.set {M : List Addr} {H H2 : Hp} {p : Addr} {o : HO} (hm : p ∈ M) (ht : ∀ xs, H p ≠ some (.tup xs)) (e : upd H p o = H2) : Kp M H H2 := ⟨fun a xs h => by
  rw [← e, upd_ne (fun z => ht xs (by rw [← z]; exact h))]
  exact h, fun a u n h => by
  rw [← e, upd_ne (fun z => n (by rw [z]; exact hm))]
  exact h⟩
theorem free_back {H H' : Hp} {p : Addr} (e : Ex H H') (h : H' p = none) : H p = none := by
  cases h1 : H p with
  | none => rfl
  | some o => rw [e p o h1] at h; cases h
theorem free_backK {M : List Addr} {H H' : Hp} {p : Addr} (e : Kp M H H') (hm : p ∉ M) (h : H' p = none) : H p = none := by
  cases h1 : H p with
  | none => rfl
  | some o => rw [e.out p o hm h1] at h; cases h
theorem at_ex {H H' : Hp} {p : Addr} {o : HO} (e : Ex H H') (h : H p = some o) : H' p = some o := e p o h
theorem at_kp {M : List Addr} {H H' : Hp} {p : Addr} {o : HO} (e : Kp M H H') (hm : p ∉ M) (h : H p = some o) : H' p = some o := e.out p o hm h
theorem tup_kp {M : List Addr} {H H' : Hp} {p : Addr} {xs : List V} (e : Kp M H H') (h : H p = some (.tup xs)) : H' p = some (.tup xs) := e.tup p xs h
theorem sqt {K : PySem.W.Frag} {H : Hp} {p : Addr} {xs : List V} (h : H p = some (.tup xs)) : SqT K H p xs := Or.inl (Or.inl h)
theorem sql {K : PySem.W.Frag} {H : Hp} {p : Addr} {xs : List V} (h : H p = some (.lst xs)) : SqL K H p xs := Or.inl (Or.inl h)
theorem sl1000 {n : Nat} (h : n ≤ 100000) : n ≤ sizeLine := Nat.le_trans h (by decide)
theorem sl1000' {n : Nat} (h : n < 100000) : n < sizeLine := Nat.lt_of_lt_of_le h (by decide)

theorem at0 {α : Type} {x : α} {xs : List α} : atI (x :: xs) 0 = some x := atI_nat (j := 0) rfl
theorem at_i {α : Type} {xs : List α} {n : Int} (h0 : 0 ≤ n) (h1 : n < xs.length) : ∃ v, xs[n.toNat]? = some v ∧ atI xs n = some v := by
  have hk : n.toNat < xs.length := by omega
  have e : n = ((n.toNat : Nat) : Int) := by omega
  refine ⟨xs[n.toNat], List.getElem?_eq_getElem hk, ?_⟩
  have q : atI xs ((n.toNat : Nat) : Int) = some xs[n.toNat] := atI_nat (List.getElem?_eq_getElem hk)
  rw [← e] at q
  exact q
/-! ### readings, step by step -/
def newT (Q : VK) (xs : List V) (H : Hp) : Prop := xs.length ≤ sizeLine ∧ ∀ p, H p = none → Q (.ref p) (upd H p (.tup xs))
def newL (Q : VK) (xs : List V) (H : Hp) : Prop := xs.length ≤ sizeLine ∧ ∀ p, H p = none → Q (.ref p) (upd H p (.lst xs))
theorem cut1 (xs : List V) : cutV xs (some 1) none = xs.drop 1 := by
  unfold cutV
  rw [show HT.sIx xs.length 0 (some 1) = min 1 xs.length from HT.sIx_nat xs.length 0 1, HT.sIx_none]
  cases xs with
  | nil => rfl
  | cons x r =>
    rw [show min 1 (x :: r).length = 1 by
      rw [List.length_cons]
      omega]
    show (List.take ((x :: r).length - 1) r) = r
    rw [List.length_cons, Nat.add_sub_cancel]
    exact List.take_length
section
variable {K : PySem.W.Frag} {σ : L2.St} {H : Hp} {Q : VK} {QT : Bool → Hp → Prop} {QA : List V → Hp → Prop} {QS : L2.St → Hp → Prop} {v x y : V} {i : Nat} {ta tb te : TE} {t u c : TT} {tr : TA} {r : R2} {ts us : TS} {nx bk ct : L2.St → Hp → Prop} {rt : VK} {g : TG} {gs : TGs}
theorem r_var (h : σ[i]? = some (some v)) (q : Q v H) : tVar i σ H Q := ⟨v, h, q⟩
theorem r_c (q : Q v H) : tC v σ H Q := q
theorem r_op (q : ta σ H fun x H1 => tb σ H1 fun y H2 => r x y H2 Q) : tOp r ta tb σ H Q := q
theorem r_un {r : V → Hp → VK → Prop} (q : ta σ H fun x H1 => r x H1 Q) : tUn r ta σ H Q := q
theorem r_tup (q : tr σ H fun xs H1 => newT Q xs H1) : tTup tr σ H Q := q
theorem r_lst (q : tr σ H fun xs H1 => newL Q xs H1) : tLst tr σ H Q := q
theorem q_newT {xs : List V} (hl : xs.length ≤ 100000) (q : ∀ p Hn, H p = none → Ex H Hn → Hn p = some (.tup xs) → Q (.ref p) Hn) : newT Q xs H := ⟨sl1000 hl, fun p hp => q p _ hp (Ex.mk hp rfl) upd_same⟩
theorem q_newL {xs : List V} (hl : xs.length ≤ 100000) (q : ∀ p Hn, H p = none → Ex H Hn → Hn p = some (.lst xs) → Q (.ref p) Hn) : newL Q xs H := ⟨sl1000 hl, fun p hp => q p _ hp (Ex.mk hp rfl) upd_same⟩
theorem r_cons (q : ta σ H fun x H1 => tr σ H1 fun xs H2 => QA (x :: xs) H2) : tCons ta tr σ H QA := q
theorem r_nil (q : QA [] H) : tNil σ H QA := q
theorem r_cb {r : List V → Hp → VK → Prop} (q : tr σ H fun vs H1 => r vs H1 Q) : tCB r tr σ H Q := q
theorem r_call {sp : Sp} {E : XK} (q : tr σ H fun vs H1 => sp vs H1 Q E) : tCall sp [] E tr σ H Q := by
  have e : (fun (vs : List V) (H1 : Hp) => sp (vs ++ []) H1 Q E) = fun vs H1 => sp vs H1 Q E := by
    funext vs H1
    rw [List.append_nil]
  show tr σ H (fun vs H1 => sp (vs ++ []) H1 Q E)
  rw [e]
  exact q
theorem r_ifE (q : t σ H fun c H1 => if c = true then ta σ H1 Q else tb σ H1 Q) : tIf t ta tb σ H Q := q
theorem r_sl {r : V → Option Int → Option Int → Hp → VK → Prop} {tl th : TO} (q : te σ H fun x H1 => tl σ H1 fun l H2 => th σ H2 fun u H3 => r x l u H3 Q) : tSl r te tl th σ H Q := q
theorem r_nopart {Q : Option Int → Hp → Prop} (q : Q none H) : tNoPart σ H Q := q
theorem r_part {Q : Option Int → Hp → Prop} (q : te σ H fun x H1 => ∃ i, x = .int i ∧ Q (some i) H1) : tPart te σ H Q := q
theorem q_part {i : Int} {B : Int → Prop} (q : B i) : ∃ j, V.int i = .int j ∧ B j := ⟨i, rfl, q⟩
theorem r_dget {td ty : TE} (q : td σ H fun x H1 => ty σ H1 fun y H2 => ∃ a v, x = .ref a ∧ DGet H2 a y (some v) ∧ Q v H2) : tDGet td ty σ H Q := q
theorem q_dget {p : Addr} {kvs : List (Key × V)} {z : Str} {B : V → Prop} (h : H p = some (.dK kvs)) (hl : valV kvs (Sum.inr z) = some v) (q : B v) : ∃ a v', V.ref p = .ref a ∧ DGet H a (.str z) (some v') ∧ B v' :=
  ⟨p, v, rfl, by rw [← hl]; exact DGet.k (k := Sum.inr z) h, q⟩
theorem r_andV (q : ta σ H fun x H1 => ∃ c, x = .bl c ∧ if c = true then tb σ H1 Q else Q (.bl false) H1) : tAndV ta tb σ H Q := q
theorem r_orV (q : ta σ H fun x H1 => ∃ c, x = .bl c ∧ if c = true then Q (.bl true) H1 else tb σ H1 Q) : tOrV ta tb σ H Q := q
theorem r_notV (q : ta σ H fun x H1 => ∃ c, x = .bl c ∧ Q (.bl (!c)) H1) : tNotV ta σ H Q := q
theorem r_test (q : te σ H fun x H' => ∃ k, x = .bl k ∧ QT k H') : tTest te σ H QT := q
theorem r_tB (q : te σ H fun x H1 => ∃ c, x = .bl c ∧ QT c H1) : tB te σ H QT := q
theorem q_exb {b : Bool} {B : Bool → Prop} (q : B b) : ∃ k, V.bl b = .bl k ∧ B k := ⟨b, rfl, q⟩
theorem r_and (q : t σ H fun c H1 => if c = true then u σ H1 QT else QT false H1) : tAnd t u σ H QT := q
theorem r_or (q : t σ H fun c H1 => if c = true then QT true H1 else u σ H1 QT) : tOr t u σ H QT := q
theorem r_not (q : t σ H fun c H1 => QT (!c) H1) : tNot t σ H QT := q
theorem r_seq (q : ts ⟨us ⟨nx, rt, bk, ct⟩, rt, bk, ct⟩ σ H) : tSeq ts us ⟨nx, rt, bk, ct⟩ σ H := q
theorem r_next (q : nx σ H) : tNext ⟨nx, rt, bk, ct⟩ σ H := q
theorem r_ifS (q : c σ H fun b H1 => if b = true then ts ⟨nx, rt, bk, ct⟩ σ H1 else us ⟨nx, rt, bk, ct⟩ σ H1) : tIfS c ts us ⟨nx, rt, bk, ct⟩ σ H := q
theorem r_asg (q : te σ H fun x H1 => g x σ H1 nx) : tAsg te g ⟨nx, rt, bk, ct⟩ σ H := q
theorem r_aug {ti : TIp} (h : σ[i]? = some (some v)) (q : te σ H fun y H1 => ti v y H1 fun z H2 => nx (σ.set i (some z)) H2) : tAug i te ti ⟨nx, rt, bk, ct⟩ σ H := ⟨v, h, q⟩
theorem q_ip {f : Int → Int → Int} {i j : Int} (q : Q (.int (f i j)) H) : ipI f (.int i) (.int j) H Q := ⟨i, j, rfl, rfl, q⟩
theorem r_drop (q : te σ H fun _ H1 => nx σ H1) : tDrop te ⟨nx, rt, bk, ct⟩ σ H := q
theorem r_ret (q : te σ H rt) : tRet te ⟨nx, rt, bk, ct⟩ σ H := q
theorem r_retN (q : rt .non H) : tRetN ⟨nx, rt, bk, ct⟩ σ H := q
theorem r_gname (q : QS (σ.set i (some v)) H) : gName i v σ H QS := q
theorem r_gnil (q : QS σ H) : gNil [] σ H QS := ⟨rfl, q⟩
theorem r_gcons {vs : List V} (q : g v σ H fun σ' H' => gs vs σ' H' QS) : gCons g gs (v :: vs) σ H QS := ⟨v, vs, rfl, q⟩
theorem r_gtup {p : Addr} {xs : List V} {n : Nat} (h : SqT K H p xs) (hl : xs.length = n) (q : gs xs σ H QS) : gTup K n gs (.ref p) σ H QS := ⟨p, xs, rfl, h, hl, q⟩
theorem r_gsub {to ti : TE} {s : TSet} (q : to σ H fun o H1 => ti σ H1 fun i H2 => s o i v H2 fun H3 => QS σ H3) : gSub to ti s v σ H QS := q
theorem r_bm {T : String} {r : V → List V → Hp → VK → Prop} (q : te σ H fun x H1 => tyV K T x H1 ∧ tr σ H1 fun xs H2 => r x xs H2 Q) : tBM K T r te tr σ H Q := q
theorem r_bm0 {T : String} {r : V → List V → Hp → VK → Prop} (q : te σ H fun x H1 => tyV K T x H1 ∧ r x [] H1 Q) : tBM0 K T r te σ H Q := q
theorem q_tyL {p : Addr} {xs : List V} {A : Prop} (h : H p = some (.lst xs)) (q : A) : tyV K "list" (.ref p) H ∧ A := ⟨Or.inl ⟨rfl, xs, sql h⟩, q⟩

theorem cast_q {x y : V} (e : x = y) (h : Q x H) : Q y H := e ▸ h
/-! ### operations on values -/
theorem q_addI {i j : Int} (q : Q (.int (i + j)) H) : rAddA K (.int i) (.int j) H Q := .inl ⟨i, j, rfl, rfl, q⟩
theorem q_I0 {f : Int → Int → V} {i j : Int} (q : Q (f i j) H) : rI0 f (.int i) (.int j) H Q := ⟨i, j, rfl, rfl, q⟩
theorem q_I {C : Int → Int → Prop} {f : Int → Int → V} {i j : Int} (h : C i j) (q : Q (f i j) H) : rI C f (.int i) (.int j) H Q := ⟨i, j, rfl, rfl, h, q⟩
theorem q_U {f : Int → V} {i : Int} (q : Q (f i) H) : rU f (.int i) H Q := ⟨i, rfl, q⟩
theorem q_ixT {p : Addr} {xs : List V} {i : Int} (h : SqT K H p xs) (ha : atI xs i = some v) (q : Q v H) : rIx K (.ref p) (.int i) H Q := .inr (.inl ⟨p, xs, i, v, rfl, rfl, h, ha, q⟩)
theorem q_ixL {p : Addr} {xs : List V} {i : Int} (h : SqL K H p xs) (ha : atI xs i = some v) (q : Q v H) : rIx K (.ref p) (.int i) H Q := .inl ⟨p, xs, i, v, rfl, rfl, h, ha, q⟩
theorem q_eqY (hs : scal x y = true) (he : x = y) (q : Q (.bl true) H) : rEqA K x y H Q := .inl ⟨hs, by rw [decide_eq_true he]; exact q⟩
theorem q_eqN (hs : scal x y = true) (he : ¬ x = y) (q : Q (.bl false) H) : rEqA K x y H Q := .inl ⟨hs, by rw [decide_eq_false he]; exact q⟩
theorem q_eqI {i j : Int} (h1 : i = j → Q (.bl true) H) (h2 : ¬ i = j → Q (.bl false) H) : rEqA K (.int i) (.int j) H Q := by
  by_cases e : i = j
  · exact q_eqY rfl (by rw [e]) (h1 e)
  · exact q_eqN rfl (fun z => e (V.int.inj z)) (h2 e)
theorem q_eqS {i j : Str} (h1 : i = j → Q (.bl true) H) (h2 : ¬ i = j → Q (.bl false) H) : rEqA K (.str i) (.str j) H Q := by
  by_cases e : i = j
  · exact q_eqY rfl (by rw [e]) (h1 e)
  · exact q_eqN rfl (fun z => e (V.str.inj z)) (h2 e)
theorem q_neY (hs : scal x y = true) (he : ¬ x = y) (q : Q (.bl true) H) : rNeA K x y H Q := .inl ⟨hs, by rw [decide_eq_false he]; exact q⟩
theorem q_neN (hs : scal x y = true) (he : x = y) (q : Q (.bl false) H) : rNeA K x y H Q := .inl ⟨hs, by rw [decide_eq_true he]; exact q⟩
theorem q_neI {i j : Int} (h1 : ¬ i = j → Q (.bl true) H) (h2 : i = j → Q (.bl false) H) : rNeA K (.int i) (.int j) H Q := by
  by_cases e : i = j
  · exact q_neN rfl (by rw [e]) (h2 e)
  · exact q_neY rfl (fun z => e (V.int.inj z)) (h1 e)
theorem q_neS {i j : Str} (h1 : ¬ i = j → Q (.bl true) H) (h2 : i = j → Q (.bl false) H) : rNeA K (.str i) (.str j) H Q := by
  by_cases e : i = j
  · exact q_neN rfl (by rw [e]) (h2 e)
  · exact q_neY rfl (fun z => e (V.str.inj z)) (h1 e)
theorem q_cmp {f : Int → Int → Prop} [∀ i j, Decidable (f i j)] {i j : Int} (h1 : f i j → Q (.bl true) H) (h2 : ¬ f i j → Q (.bl false) H) : rI0 (fun i j => .bl (decide (f i j))) (.int i) (.int j) H Q := by
  refine ⟨i, j, rfl, rfl, ?_⟩
  show Q (V.bl (decide (f i j))) H
  by_cases e : f i j
  · rw [decide_eq_true e]; exact h1 e
  · rw [decide_eq_false e]; exact h2 e
theorem cmulL {i j : Int} (h : -(2 ^ 64) < i ∧ i < 2 ^ 64) : CMul i j := .inl h
theorem cmulR {i j : Int} (h : -(2 ^ 64) < j ∧ j < 2 ^ 64) : CMul i j := .inr h
theorem cdiv {i j : Int} (h : 0 < j ∧ j < 1073741824) : CDiv i j := h
theorem q_neD (hn : ¬ x = y) (hs : scal x y = true) (q : Q (.bl true) H) : rNeA K x y H Q := q_neY hs hn q
theorem q_cmpY {f : Int → Int → Prop} [∀ i j, Decidable (f i j)] {i j : Int} (h : f i j) (q : Q (.bl true) H) : rI0 (fun i j => .bl (decide (f i j))) (.int i) (.int j) H Q :=
  ⟨i, j, rfl, rfl, by show Q (V.bl (decide (f i j))) H; rw [decide_eq_true h]; exact q⟩
theorem q_cmpN {f : Int → Int → Prop} [∀ i j, Decidable (f i j)] {i j : Int} (h : ¬ f i j) (q : Q (.bl false) H) : rI0 (fun i j => .bl (decide (f i j))) (.int i) (.int j) H Q :=
  ⟨i, j, rfl, rfl, by show Q (V.bl (decide (f i j))) H; rw [decide_eq_false h]; exact q⟩
theorem q_isNY (he : x = .non) (q : Q (.bl true) H) : rIsN x .non H Q := ⟨rfl, by rw [decide_eq_true he]; exact q⟩
theorem q_isNN (he : ¬ x = .non) (q : Q (.bl false) H) : rIsN x .non H Q := ⟨rfl, by rw [decide_eq_false he]; exact q⟩
theorem q_notNY (he : x = .non) (q : Q (.bl false) H) : rNotN x .non H Q := ⟨rfl, by rw [decide_eq_true he]; exact q⟩
theorem q_notNN (he : ¬ x = .non) (q : Q (.bl true) H) : rNotN x .non H Q := ⟨rfl, by rw [decide_eq_false he]; exact q⟩
theorem q_lenL {p : Addr} {xs : List V} (h : SqL K H p xs) (q : Q (.int xs.length) H) : rLenA K [.ref p] H Q := .inl ⟨p, xs, rfl, .inl h, q⟩
theorem q_lenT {p : Addr} {xs : List V} (h : SqT K H p xs) (q : Q (.int xs.length) H) : rLenA K [.ref p] H Q := .inl ⟨p, xs, rfl, .inr h, q⟩
theorem q_sl1T {p : Addr} {xs : List V} (h : SqT K H p (x :: xs)) (q : ∀ p Hn, H p = none → Ex H Hn → Hn p = some (.tup xs) → Q (.ref p) Hn) : rSlA K (.ref p) (some 1) none H Q :=
  .inr ⟨p, x :: xs, rfl, h, fun z => by
    have e : HT.sIx (x :: xs).length 0 (some 1) = min 1 (x :: xs).length := HT.sIx_nat _ 0 1
    have z1 := z.1
    rw [e, List.length_cons] at z1
    omega, fun p hp => q p _ hp (Ex.mk hp rfl) (by rw [upd_same, cut1]; rfl)⟩
theorem q_sl1L {p : Addr} {xs : List V} (h : SqL K H p (x :: xs)) (q : ∀ p Hn, H p = none → Ex H Hn → Hn p = some (.lst xs) → Q (.ref p) Hn) : rSlA K (.ref p) (some 1) none H Q :=
  .inl ⟨p, x :: xs, rfl, h, fun p hp => q p _ hp (Ex.mk hp rfl) (by rw [upd_same, cut1]; rfl)⟩
theorem q_inT {p : Addr} {xs : List V} (h : SqT K H p xs) (hx : flatV x = true) (ha : xs.all flatV = true) (q : Q (.bl (inV x xs)) H) : rIn K false x (.ref p) H Q := ⟨p, xs, rfl, .inr h, hx, ha, q⟩
theorem q_inTY {p : Addr} {xs : List V} (h : SqT K H p xs) (hx : (flatV x && xs.all flatV && inV x xs) = true) (q : Q (.bl true) H) : rIn K false x (.ref p) H Q := by
  simp only [Bool.and_eq_true] at hx
  exact ⟨p, xs, rfl, .inr h, hx.1.1, hx.1.2, by rw [if_neg Bool.false_ne_true, hx.2]; exact q⟩
theorem q_inTN {p : Addr} {xs : List V} (h : SqT K H p xs) (hx : (flatV x && xs.all flatV && !inV x xs) = true) (q : Q (.bl false) H) : rIn K false x (.ref p) H Q := by
  simp only [Bool.and_eq_true, Bool.not_eq_true'] at hx
  exact ⟨p, xs, rfl, .inr h, hx.1.1, hx.1.2, by rw [if_neg Bool.false_ne_true, hx.2]; exact q⟩
theorem q_inLY {p : Addr} {xs : List V} (h : SqL K H p xs) (hx : (flatV x && xs.all flatV && inV x xs) = true) (q : Q (.bl true) H) : rIn K false x (.ref p) H Q := by
  simp only [Bool.and_eq_true] at hx
  exact ⟨p, xs, rfl, .inl h, hx.1.1, hx.1.2, by rw [if_neg Bool.false_ne_true, hx.2]; exact q⟩
theorem q_inLN {p : Addr} {xs : List V} (h : SqL K H p xs) (hx : (flatV x && xs.all flatV && !inV x xs) = true) (q : Q (.bl false) H) : rIn K false x (.ref p) H Q := by
  simp only [Bool.and_eq_true, Bool.not_eq_true'] at hx
  exact ⟨p, xs, rfl, .inl h, hx.1.1, hx.1.2, by rw [if_neg Bool.false_ne_true, hx.2]; exact q⟩
theorem q_isi {t : Value} {T : String} {b : Bool} (ty : TyOf K H x t) (e : PySem.W.kitOne K t (.type T) = some b) (q : Q (.bl b) H) : rIsi K [x, .ty T] H Q := ⟨x, .ty T, t, .type T, b, rfl, .ty T, .base ty, e, q⟩
theorem q_isiBI {i : Int} (q : Q (.bl false) H) : rIsi K [.int i, .ty "bool"] H Q := q_isi (.int i) (kit_ty (by decide +kernel)) q
theorem q_isiBN (q : Q (.bl false) H) : rIsi K [.non, .ty "bool"] H Q := q_isi .non (kit_ty (by decide +kernel)) q
def dispK (Q : VK) (p : Addr) (ps : List (V × V)) (H : Hp) : Prop := H p = some (.dK []) ∧ ∃ kvs : List (Key × V), ps = kvs.map (fun kv => (kV kv.1, kv.2)) ∧ kvs.length ≤ 15 ∧ Q (.ref p) (upd H p (.dK (mergeK [] kvs)))
theorem r_disp {trs : List (TE × TE)} (q : ∀ p Hn, H p = none → Ex H Hn → Hn p = some (.dK []) → tPairs trs σ Hn fun ps H2 => dispK Q p ps H2) : tDisp trs σ H Q := fun p hp => q p _ hp (Ex.mk hp rfl) upd_same
theorem r_pnil {QP : List (V × V) → Hp → Prop} (q : QP [] H) : tPairs [] σ H QP := q
theorem r_pcons {QP : List (V × V) → Hp → Prop} {tk tv : TE} {r : List (TE × TE)} (q : tk σ H fun x H1 => tv σ H1 fun y H2 => tPairs r σ H2 fun ps H3 => QP ((x, y) :: ps) H3) : tPairs ((tk, tv) :: r) σ H QP := q
theorem merge_nd {kvs : List (Key × V)} (h : (kvs.map (·.1)).Nodup) : mergeK [] kvs = kvs := by
  have key : ∀ (more acc : List (Key × V)), ((acc ++ more).map (·.1)).Nodup → mergeK acc more = acc ++ more := by
    intro more
    induction more with
    | nil => intro acc _; rw [List.append_nil]; rfl
    | cons p r ih =>
      intro acc h
      have hp : valV acc p.1 = none := by
        cases hv : valV acc p.1 with
        | none => rfl
        | some x =>
          exfalso
          have hm := valV_in hv
          rw [List.map_append, List.nodup_append] at h
          exact h.2.2 _ hm _ (by simp) rfl
      show mergeK (putK acc p.1 p.2) r = acc ++ p :: r
      rw [putK_new _ hp, ih _ (by rw [List.append_assoc]; exact h), List.append_assoc]
      rfl
  exact key kvs [] h
theorem q_disp {p : Addr} {ps : List (V × V)} (kvs : List (Key × V)) (h : H p = some (.dK [])) (e : ps = kvs.map (fun kv => (kV kv.1, kv.2))) (nd : (kvs.map (·.1)).Nodup) (hl : kvs.length ≤ 15)
    (q : ∀ Hn, Kp [p] H Hn → Hn p = some (.dK kvs) → Q (.ref p) Hn) : dispK Q p ps H := ⟨h, kvs, e, hl, by
  rw [merge_nd nd]
  exact q _ (Kp.set (List.mem_singleton.mpr rfl) (fun xs z => by rw [h] at z; cases z) rfl) upd_same⟩
theorem q_inL {p : Addr} {xs : List V} (h : SqL K H p xs) (hx : flatV x = true) (ha : xs.all flatV = true) (q : Q (.bl (inV x xs)) H) : rIn K false x (.ref p) H Q := ⟨p, xs, rfl, .inl h, hx, ha, q⟩
theorem r_iL {tl : TE} {R : It → Hp → Prop} (q : tl σ H fun x H1 => ∃ a, x = .ref a ∧ (∃ xs, SqL K H1 a xs) ∧ R (Itl K a) H1) : iList K tl σ H R := q
theorem q_iL {a : Addr} {xs : List V} {B : Addr → Prop} (h : SqL K H a xs) (q : B a) : ∃ b, V.ref a = .ref b ∧ (∃ xs, SqL K H b xs) ∧ B b := ⟨a, rfl, ⟨xs, h⟩, q⟩
theorem r_iT {tl : TE} {R : It → Hp → Prop} (q : tl σ H fun x H1 => ∃ a, x = .ref a ∧ (∃ xs, SqT K H1 a xs) ∧ R (Itt K a) H1) : iTup K tl σ H R := q
theorem q_iT {a : Addr} {xs : List V} {B : Addr → Prop} (h : SqT K H a xs) (q : B a) : ∃ b, V.ref a = .ref b ∧ (∃ xs, SqT K H b xs) ∧ B b := ⟨a, rfl, ⟨xs, h⟩, q⟩
theorem r_rng1 {R : It → Hp → Prop} (q : tr σ H fun vs H1 => ∃ j : Int, vs = [.int j] ∧ -(2 ^ 62) ≤ j ∧ j < 2 ^ 62 ∧ R (Itr 0 j.toNat) H1) : iRng1 tr σ H R := q
theorem q_rng1 {j : Int} {B : Int → Prop} (h : 0 ≤ j ∧ j ≤ 1000000) (q : B j) : ∃ i : Int, [V.int j] = [.int i] ∧ -(2 ^ 62) ≤ i ∧ i < 2 ^ 62 ∧ B i := ⟨j, rfl, by omega, by omega, q⟩
theorem r_rng2 {R : It → Hp → Prop} (q : tr σ H fun vs H1 => ∃ i j : Int, vs = [.int i, .int j] ∧ (-(2 ^ 62) ≤ i ∧ i < 2 ^ 62 ∧ -(2 ^ 62) ≤ j ∧ j < 2 ^ 62) ∧ R (Itr i (j - i).toNat) H1) : iRng2 tr σ H R := q
theorem q_rng2 {i j : Int} {B : Int → Int → Prop} (h : 0 ≤ i ∧ i ≤ 1000000 ∧ 0 ≤ j ∧ j ≤ 1000000) (q : B i j) : ∃ a b : Int, [V.int i, V.int j] = [.int a, .int b] ∧ (-(2 ^ 62) ≤ a ∧ a < 2 ^ 62 ∧ -(2 ^ 62) ≤ b ∧ b < 2 ^ 62) ∧ B a b :=
  ⟨i, j, rfl, ⟨by omega, by omega, by omega, by omega⟩, q⟩
theorem r_lc {wi : TI} {vs : List Nat} (q : wi σ H fun J H1 => ∀ D, H1 D = none → ∃ W : Nat → Nat → Hp → Prop, (∃ m, W 0 m (upd H1 D (.lst []))) ∧ ∀ i m H, W i m H →
  (J.stop i H ∧ Q (.ref D) H) ∨ (J.go i H ∧ ∃ Nx : Hp → Prop, (∀ H', Nx H' → ∃ m', m' < m ∧ W (i + 1) m' H') ∧ ∀ x H', J.yld i H x H' → g x (wipe σ vs) H' fun σ2 H2 => wipe σ2 vs = wipe σ vs ∧ t σ2 H2 fun b H3 =>
    if b = true then te σ2 H3 fun y H4 => ∃ acc, H4 D = some (.lst acc) ∧ acc.length < sizeLine ∧ Nx (upd H4 D (.lst (acc ++ [y]))) else Nx H3)) : tLc wi g t te vs σ H Q := q
theorem r_yes (q : QT true H) : tYes σ H QT := q
theorem r_for {wi : TI} (q : wi σ H fun J H1 => ∃ W : Nat → Nat → L2.St → Hp → Prop, (∃ m, W 0 m σ H1) ∧ ∀ i m σ H, W i m σ H →
  (J.stop i H ∧ nx σ H) ∨ (J.go i H ∧ ∃ N : L2.St → Hp → Prop, (∀ σ' H', N σ' H' → ∃ m', m' < m ∧ W (i + 1) m' σ' H') ∧ ∀ x H', J.yld i H x H' → g x σ H' fun σ2 H2 => ts ⟨N, rt, nx, N⟩ σ2 H2)) : tFor wi g ts ⟨nx, rt, bk, ct⟩ σ H := q
/-- the loops' words -/
theorem w_list {a : Addr} {xs : List V} (Pv : Nat → L2.St → Hp → Prop) (h0 : Pv 0 σ H) (hl : ∀ i σ H, i ≤ xs.length → Pv i σ H → SqL K H a xs)
    (hs : ∀ i x σ H, xs[i]? = some x → Pv i σ H → g x σ H fun σ2 H2 => ts ⟨Pv (i + 1), rt, nx, Pv (i + 1)⟩ σ2 H2) (hd : ∀ σ H, Pv xs.length σ H → nx σ H) :
    ∃ W : Nat → Nat → L2.St → Hp → Prop, (∃ m, W 0 m σ H) ∧ ∀ i m σ H, W i m σ H →
      ((Itl K a).stop i H ∧ nx σ H) ∨ ((Itl K a).go i H ∧ ∃ N : L2.St → Hp → Prop, (∀ σ' H', N σ' H' → ∃ m', m' < m ∧ W (i + 1) m' σ' H') ∧ ∀ x H', (Itl K a).yld i H x H' → g x σ H' fun σ2 H2 => ts ⟨N, rt, nx, N⟩ σ2 H2) :=
  for_list (D := ⟨nx, rt, nx, nx⟩) Pv h0 hl hs hd
theorem w_tup {a : Addr} {xs : List V} (Pv : Nat → L2.St → Hp → Prop) (h0 : Pv 0 σ H) (hl : ∀ i σ H, i ≤ xs.length → Pv i σ H → SqT K H a xs)
    (hs : ∀ i x σ H, xs[i]? = some x → Pv i σ H → g x σ H fun σ2 H2 => ts ⟨Pv (i + 1), rt, nx, Pv (i + 1)⟩ σ2 H2) (hd : ∀ σ H, Pv xs.length σ H → nx σ H) :
    ∃ W : Nat → Nat → L2.St → Hp → Prop, (∃ m, W 0 m σ H) ∧ ∀ i m σ H, W i m σ H →
      ((Itt K a).stop i H ∧ nx σ H) ∨ ((Itt K a).go i H ∧ ∃ N : L2.St → Hp → Prop, (∀ σ' H', N σ' H' → ∃ m', m' < m ∧ W (i + 1) m' σ' H') ∧ ∀ x H', (Itt K a).yld i H x H' → g x σ H' fun σ2 H2 => ts ⟨N, rt, nx, N⟩ σ2 H2) :=
  for_tup (D := ⟨nx, rt, nx, nx⟩) Pv h0 hl hs hd
theorem w_rng {lo : Int} {n : Nat} (Pv : Nat → L2.St → Hp → Prop) (h0 : Pv 0 σ H)
    (hs : ∀ i σ H, i < n → Pv i σ H → g (.int (lo + i)) σ H fun σ2 H2 => ts ⟨Pv (i + 1), rt, nx, Pv (i + 1)⟩ σ2 H2) (hd : ∀ σ H, Pv n σ H → nx σ H) :
    ∃ W : Nat → Nat → L2.St → Hp → Prop, (∃ m, W 0 m σ H) ∧ ∀ i m σ H, W i m σ H →
      ((Itr lo n).stop i H ∧ nx σ H) ∨ ((Itr lo n).go i H ∧ ∃ N : L2.St → Hp → Prop, (∀ σ' H', N σ' H' → ∃ m', m' < m ∧ W (i + 1) m' σ' H') ∧ ∀ x H', (Itr lo n).yld i H x H' → g x σ H' fun σ2 H2 => ts ⟨N, rt, nx, N⟩ σ2 H2) :=
  for_range (D := ⟨nx, rt, nx, nx⟩) Pv h0 hs hd
theorem r_iS {tl : TE} {R : It → Hp → Prop} (q : tl σ H fun v H1 => ∃ x, v = .str x ∧ R (Its x) H1) : iStr tl σ H R := q
theorem q_iS {z : Str} {B : Str → Prop} (q : B z) : ∃ x, V.str z = .str x ∧ B x := ⟨z, rfl, q⟩
theorem w_str {x : Str} (Pv : Nat → L2.St → Hp → Prop) (h0 : Pv 0 σ H)
    (hs : ∀ i c σ H, x.cps.toList[i]? = some c → Pv i σ H → g (.str ⟨#[c]⟩) σ H fun σ2 H2 => ts ⟨Pv (i + 1), rt, nx, Pv (i + 1)⟩ σ2 H2) (hd : ∀ σ H, Pv x.cps.toList.length σ H → nx σ H) :
    ∃ W : Nat → Nat → L2.St → Hp → Prop, (∃ m, W 0 m σ H) ∧ ∀ i m σ H, W i m σ H →
      ((Its x).stop i H ∧ nx σ H) ∨ ((Its x).go i H ∧ ∃ N : L2.St → Hp → Prop, (∀ σ' H', N σ' H' → ∃ m', m' < m ∧ W (i + 1) m' σ' H') ∧ ∀ v H', (Its x).yld i H v H' → g v σ H' fun σ2 H2 => ts ⟨N, rt, nx, N⟩ σ2 H2) := by
  have hz : x.cps.toList.length = x.cps.size := Array.length_toList
  refine ⟨fun i m σ H => m = x.cps.size - i ∧ i ≤ x.cps.size ∧ Pv i σ H, ⟨x.cps.size, by simp, Nat.zero_le _, h0⟩, ?_⟩
  rintro i m σ H ⟨rfl, hi, p⟩
  by_cases hlt : i < x.cps.size
  · refine .inr ⟨hlt, Pv (i + 1), fun σ' H' p' => ⟨x.cps.size - (i + 1), by omega, rfl, hlt, p'⟩, fun v H' y => ?_⟩
    obtain ⟨e, c, hc, ev⟩ := y
    subst e
    subst ev
    exact hs i c _ _ (by rw [Array.getElem?_toList]; exact hc) p
  · have e : i = x.cps.toList.length := by omega
    subst e
    exact .inl ⟨by show x.cps.size ≤ _; omega, hd _ _ p⟩
theorem w_while (W : Nat → L2.St → Hp → Prop) (m0 : Nat) (h0 : W m0 σ H)
    (hs : ∀ m σ' H', W m σ' H' → c σ' H' fun b H1 => if b = true then ts ⟨fun σ2 H2 => ∃ m', m' < m ∧ W m' σ2 H2, rt, nx, fun σ2 H2 => ∃ m', m' < m ∧ W m' σ2 H2⟩ σ' H1 else nx σ' H1)
    (mono : ∀ σ H Q Q', (∀ b H1, Q b H1 → Q' b H1) → c σ H Q → c σ H Q') : tWhile c ts ⟨nx, rt, bk, ct⟩ σ H := by
  refine ⟨W, ⟨m0, h0⟩, fun m σ' H' hw => mono σ' H' _ _ (fun b H1 q => ?_) (hs m σ' H' hw)⟩
  cases b with
  | true => exact ⟨_, fun _ _ n => n, q⟩
  | false => exact q
theorem q_setL {p : Addr} {xs : List V} {k : Int} {j : Nat} {QH : Hp → Prop} (h : H p = some (.lst xs)) (hj : ixN xs.length k = some j) (q : QH (upd H p (.lst (xs.set j v)))) : rSetL (.ref p) (.int k) v H QH := ⟨p, xs, k, j, rfl, rfl, h, hj, q⟩
theorem q_append {l : Addr} {xs : List V} (h : H l = some (.lst xs)) (hz : xs.length < 100000) (q : Q .non (upd H l (.lst (xs ++ [y])))) : rAppend (.ref l) [y] H Q := ⟨l, xs, y, rfl, rfl, h, sl1000' hz, q⟩
theorem q_pop0 {l : Addr} {xs : List V} (h : H l = some (.lst (x :: xs))) (q : Q x (upd H l (.lst xs))) : rPopAt (.ref l) [.int 0] H Q := ⟨l, x :: xs, 0, 0, x, rfl, rfl, h, by decide, by decide, by simp [seqIndex?], rfl, q⟩
theorem q_abs {i : Int} (q : Q (.int (if i < 0 then -i else i)) H) : rAbs [.int i] H Q := ⟨i, rfl, q⟩
theorem q_int {i : Int} (q : Q (.int i) H) : rInt [.int i] H Q := .inl ⟨i, rfl, q⟩
theorem q_intT (q : Q (.int 1) H) : rInt [.bl true] H Q := .inr ⟨true, rfl, q⟩
theorem q_intF (q : Q (.int 0) H) : rInt [.bl false] H Q := .inr ⟨false, rfl, q⟩
theorem q_intNT (q : Q (.int 1) H) : rInt [.bl (!false)] H Q := .inr ⟨true, rfl, q⟩
theorem q_intNF (q : Q (.int 0) H) : rInt [.bl (!true)] H Q := .inr ⟨false, rfl, q⟩
theorem iteNT {A B : Prop} (h : A) : if (!false) = true then A else B := by simpa using h
theorem iteNF {A B : Prop} (h : B) : if (!true) = true then A else B := by simpa using h
theorem q_listL {p : Addr} {ys : List V} (h : SqL K H p ys) (q : ∀ p Hn, H p = none → Ex H Hn → Hn p = some (.lst ys) → Q (.ref p) Hn) : rListOf K [.ref p] H Q := ⟨p, ys, rfl, .inl h, fun p hp => q p _ hp (Ex.mk hp rfl) upd_same⟩
theorem q_listT {p : Addr} {ys : List V} (h : SqT K H p ys) (q : ∀ p Hn, H p = none → Ex H Hn → Hn p = some (.lst ys) → Q (.ref p) Hn) : rListOf K [.ref p] H Q := ⟨p, ys, rfl, .inr h, fun p hp => q p _ hp (Ex.mk hp rfl) upd_same⟩
end

/-! ### tests that hand on more where more is wished (for while) -/
section
variable {K : PySem.W.Frag}
def MoE (t : TE) : Prop := ∀ σ H (Q Q' : VK), (∀ v H1, Q v H1 → Q' v H1) → t σ H Q → t σ H Q'
def MoT (t : TT) : Prop := ∀ σ H (Q Q' : Bool → Hp → Prop), (∀ v H1, Q v H1 → Q' v H1) → t σ H Q → t σ H Q'
def MoA (t : TA) : Prop := ∀ σ H (Q Q' : List V → Hp → Prop), (∀ v H1, Q v H1 → Q' v H1) → t σ H Q → t σ H Q'
def MoR (r : R2) : Prop := ∀ x y H (Q Q' : VK), (∀ v H1, Q v H1 → Q' v H1) → r x y H Q → r x y H Q'
def MoC (r : List V → Hp → VK → Prop) : Prop := ∀ x H (Q Q' : VK), (∀ v H1, Q v H1 → Q' v H1) → r x H Q → r x H Q'
theorem mo_var {i : Nat} : MoE (tVar i) := fun _ _ _ _ k ⟨v, h, q⟩ => ⟨v, h, k _ _ q⟩
theorem mo_c {v : V} : MoE (tC v) := fun _ _ _ _ k q => k _ _ q
theorem mo_op {r : R2} {a b : TE} (hr : MoR r) (ha : MoE a) (hb : MoE b) : MoE (tOp r a b) := fun σ H Q Q' k h => ha _ _ _ _ (fun x H1 q => hb _ _ _ _ (fun y H2 q => hr _ _ _ _ _ k q) q) h
theorem mo_test {a : TE} (ha : MoE a) : MoT (tTest a) := fun σ H Q Q' k h => ha _ _ _ _ (fun x H1 ⟨c, e, q⟩ => ⟨c, e, k _ _ q⟩) h
theorem mo_and {a b : TT} (ha : MoT a) (hb : MoT b) : MoT (tAnd a b) := fun σ H Q Q' k h => ha _ _ _ _ (fun c H1 q => by
  cases c
  · exact k _ _ q
  · exact hb _ _ _ _ k q) h
theorem mo_or {a b : TT} (ha : MoT a) (hb : MoT b) : MoT (tOr a b) := fun σ H Q Q' k h => ha _ _ _ _ (fun c H1 q => by
  cases c
  · exact hb _ _ _ _ k q
  · exact k _ _ q) h
theorem mo_not {a : TT} (ha : MoT a) : MoT (tNot a) := fun σ H Q Q' k h => ha _ _ _ _ (fun c H1 q => k _ _ q) h
theorem mo_nil : MoA tNil := fun _ _ _ _ k q => k _ _ q
theorem mo_cons {a : TE} {r : TA} (ha : MoE a) (hr : MoA r) : MoA (tCons a r) := fun σ H Q Q' k h => ha _ _ _ _ (fun x H1 q => hr _ _ _ _ (fun xs H2 q => k _ _ q) q) h
theorem mo_cb {r : List V → Hp → VK → Prop} {a : TA} (hr : MoC r) (ha : MoA a) : MoE (tCB r a) := fun σ H Q Q' k h => ha _ _ _ _ (fun x H1 q => hr _ _ _ _ k q) h
theorem mo_I0 {f : Int → Int → V} : MoR (rI0 f) := fun _ _ _ _ _ k ⟨i, j, a, b, q⟩ => ⟨i, j, a, b, k _ _ q⟩
theorem mo_I {C : Int → Int → Prop} {f : Int → Int → V} : MoR (rI C f) := fun _ _ _ _ _ k ⟨i, j, a, b, c, q⟩ => ⟨i, j, a, b, c, k _ _ q⟩
theorem mo_eqA : MoR (rEqA K) := fun _ _ _ _ _ k h => h.elim (fun ⟨a, q⟩ => .inl ⟨a, k _ _ q⟩) fun ⟨d, e, a, b, c, f, q⟩ => .inr ⟨d, e, a, b, c, f, k _ _ q⟩
theorem mo_neA : MoR (rNeA K) := fun _ _ _ _ _ k h => h.elim (fun ⟨a, q⟩ => .inl ⟨a, k _ _ q⟩) fun ⟨d, e, a, b, c, f, q⟩ => .inr ⟨d, e, a, b, c, f, k _ _ q⟩
theorem mo_ix : MoR (rIx K) := fun _ _ _ _ _ k h => by
  rcases h with ⟨p, xs, i, v, a, b, c, d, q⟩ | ⟨p, xs, i, v, a, b, c, d, q⟩ | ⟨z, i, c, a, b, d, e, q⟩
  · exact .inl ⟨p, xs, i, v, a, b, c, d, k _ _ q⟩
  · exact .inr (.inl ⟨p, xs, i, v, a, b, c, d, k _ _ q⟩)
  · exact .inr (.inr ⟨z, i, c, a, b, d, e, k _ _ q⟩)
theorem mo_lenA : MoC (rLenA K) := fun _ _ _ _ k h => by
  rcases h with ⟨p, ys, a, b, q⟩ | ⟨z, a, b, q⟩
  · exact .inl ⟨p, ys, a, b, k _ _ q⟩
  · exact .inr ⟨z, a, b, k _ _ q⟩
theorem ix0 {n : Nat} : ixN (n + 1) 0 = some 0 := by
  unfold ixN
  rw [if_pos (by decide), if_pos (by omega)]
  rfl
end
end Y
namespace Y
open PySem L2
def topS (i : Nat) : Stmt := PySem.Challenge.pw_placedanyhow_k01_tokens_of_a_text.main.body.getD i (.Pass ⟨0, 0, 0, 0⟩)
local macro_rules | `(tactic| walk_at "lift") => `(tactic| first
  | assumption
  | (refine at_ex (by assumption) ?_; walk_at "lift")
  | (refine tup_kp (by assumption) ?_; walk_at "lift")
  | (refine at_kp (by assumption) (by walk_at "nin") ?_; walk_at "lift"))
local macro_rules | `(tactic| walk_at "sq") => `(tactic| first
  | assumption
  | (refine sqt ?_; walk_at "lift")
  | (refine sql ?_; walk_at "lift"))
local macro_rules | `(tactic| walk_at "ar") => `(tactic| first
  | assumption
  | omega
  | (refine And.intro ?_ ?_ <;> omega)
  | (refine cdiv ⟨?_, ?_⟩ <;> omega)
  | (refine cmulL ⟨?_, ?_⟩ <;> omega)
  | (refine cmulR ⟨?_, ?_⟩ <;> omega)
  | decide)
set_option hygiene false in
local macro_rules | `(tactic| walk_at "i_disp") => `(tactic| intro dp Hn hdp ke hdn)
set_option hygiene false in
local macro_rules | `(tactic| walk_at "i_new") => `(tactic| intro p Hn hp ke hn)
local macro_rules | `(tactic| walk_at "len") => `(tactic| first | decide | (simp only [List.length_cons, List.length_nil, List.length_append, List.length_map]; omega))
local macro_rules | `(tactic| walk_at "new") => `(tactic| first
  | ((with_reducible refine q_newT ?h ?_); (case h => walk_at "len"); walk_at "i_new")
  | ((with_reducible refine q_newL ?h ?_); (case h => walk_at "len"); walk_at "i_new")
  | ((with_reducible refine q_sl1T (x := ?x) (xs := ?xs) ?h ?_); (case h => walk_at "sq"); walk_at "i_new")
  | ((with_reducible refine q_sl1L (x := ?x) (xs := ?xs) ?h ?_); (case h => walk_at "sq"); walk_at "i_new")
  | ((with_reducible refine q_listL (ys := ?ys) ?h ?_); (case h => walk_at "sq"); walk_at "i_new")
  | ((with_reducible refine q_listT (ys := ?ys) ?h ?_); (case h => walk_at "sq"); walk_at "i_new"))
local macro_rules | `(tactic| walk_at "arx") => `(tactic| first
  | omega
  | decide
  | (simp only [List.length_cons, List.length_nil, List.length_map]; omega))
set_option hygiene false in
local macro_rules | `(tactic| walk_at "q") => `(tactic| exact q)
local macro_rules | `(tactic| walk_at "st") => `(tactic| first
  | with_reducible refine r_seq ?_
  | with_reducible refine r_ifS ?_
  | with_reducible refine r_asg ?_
  | with_reducible refine r_ret ?_
  | with_reducible refine r_retN ?_
  | with_reducible refine r_next ?_
  | with_reducible refine r_drop ?_
  | ((with_reducible refine r_aug (v := ?v) ?h ?_); (case h => exact rfl))
  | with_reducible refine q_ip ?_
  | ((with_reducible refine r_var (v := ?v) ?h ?_); (case h => exact rfl))
  | with_reducible refine r_c ?_
  | with_reducible refine r_op ?_
  | with_reducible refine r_un ?_
  | with_reducible refine r_test ?_
  | with_reducible refine r_tB ?_
  | with_reducible refine q_exb ?_
  | with_reducible refine r_and ?_
  | with_reducible refine r_or ?_
  | with_reducible refine r_not ?_
  | with_reducible refine r_andV ?_
  | with_reducible refine r_orV ?_
  | with_reducible refine r_notV ?_
  | with_reducible refine r_ifE ?_
  | with_reducible refine iteT ?_
  | with_reducible refine iteF ?_
  | with_reducible refine iteNT ?_
  | with_reducible refine iteNF ?_
  | with_reducible refine q_intNT ?_
  | with_reducible refine q_intNF ?_
  | with_reducible refine r_cons ?_
  | with_reducible refine r_nil ?_
  | with_reducible refine r_cb ?_
  | with_reducible refine r_call ?_
  | with_reducible refine r_tup ?_
  | with_reducible refine r_lst ?_
  | with_reducible refine r_gname ?_
  | with_reducible refine r_gnil ?_
  | with_reducible refine r_gcons ?_
  | with_reducible refine r_gsub ?_
  | ((with_reducible refine r_gtup (xs := ?xs) ?h ?l ?_); (case h => walk_at "sq"); (case l => rfl))
  | with_reducible refine r_sl ?_
  | with_reducible refine r_part ?_
  | with_reducible refine r_nopart ?_
  | with_reducible refine q_part ?_
  | with_reducible refine r_dget ?_
  | ((with_reducible refine q_dget (kvs := ?kvs) (v := ?v) ?h ?l ?_); (case h => walk_at "lift"); (case l => first | assumption | rfl))
  | with_reducible refine r_bm ?_
  | with_reducible refine r_bm0 ?_
  | with_reducible refine q_addI ?_
  | ((with_reducible refine q_eqY ?s ?e ?_); (case e => first | exact rfl | decide +kernel); (case s => rfl))
  | ((with_reducible refine q_eqN ?s ?e ?_); (case e => decide +kernel); (case s => rfl))
  | ((with_reducible refine q_eqN ?s ?e ?_); (case e => walk_at "ne"); (case s => rfl))
  | (with_reducible refine q_eqI (fun c => ?_) (fun c => ?_))
  | (with_reducible refine q_eqS (fun c => ?_) (fun c => ?_))
  | ((with_reducible refine q_neY ?s ?e ?_); (case e => decide +kernel); (case s => rfl))
  | ((with_reducible refine q_neN ?s ?e ?_); (case e => first | exact rfl | decide +kernel); (case s => rfl))
  | (with_reducible refine q_neI (fun c => ?_) (fun c => ?_))
  | (with_reducible refine q_neS (fun c => ?_) (fun c => ?_))
  | ((with_reducible refine q_cmpY ?h ?_); (case h => walk_at "arx"))
  | ((with_reducible refine q_cmpN ?h ?_); (case h => walk_at "arx"))
  | (with_reducible refine q_cmp (fun c => ?_) (fun c => ?_))
  | ((with_reducible refine q_I ?c ?_); (case c => walk_at "ar"))
  | with_reducible refine q_I0 ?_
  | with_reducible refine q_U ?_
  | ((with_reducible refine q_ixT (xs := ?xs) (v := ?v) ?h ?a ?_); (case h => walk_at "sq"); (case a => exact rfl))
  | ((with_reducible refine q_lenL (xs := ?xs) ?h ?_); (case h => walk_at "sq"))
  | ((with_reducible refine q_lenT (xs := ?xs) ?h ?_); (case h => walk_at "sq"))
  | with_reducible refine q_isiBI ?_
  | with_reducible refine q_isiBN ?_
  | ((with_reducible refine q_inTY (xs := ?xs) ?h ?e ?_); (case h => walk_at "sq"); (case e => first | decide +kernel | rfl))
  | ((with_reducible refine q_inTN (xs := ?xs) ?h ?e ?_); (case h => walk_at "sq"); (case e => first | decide +kernel | rfl))
  | ((with_reducible refine q_inLY (xs := ?xs) ?h ?e ?_); (case h => walk_at "sq"); (case e => first | decide +kernel | rfl))
  | ((with_reducible refine q_inLN (xs := ?xs) ?h ?e ?_); (case h => walk_at "sq"); (case e => first | decide +kernel | rfl))
  | with_reducible refine q_int ?_
  | with_reducible refine q_intT ?_
  | with_reducible refine q_intF ?_
  | with_reducible refine q_abs ?_
  | with_reducible refine r_yes ?_
  | with_reducible refine r_lc ?_
  | (with_reducible refine r_disp ?_; walk_at "i_disp")
  | with_reducible refine r_pcons ?_
  | with_reducible refine r_pnil ?_
  | with_reducible refine r_for ?_
  | with_reducible refine r_iL ?_
  | with_reducible refine r_iT ?_
  | with_reducible refine r_iS ?_
  | with_reducible refine q_iS ?_
  | with_reducible refine r_rng1 ?_
  | with_reducible refine r_rng2 ?_
  | ((with_reducible refine q_iL (xs := ?xs) ?h ?_); (case h => walk_at "sq"))
  | ((with_reducible refine q_iT (xs := ?xs) ?h ?_); (case h => walk_at "sq"))
  | ((with_reducible refine q_rng1 ?h ?_); (case h => walk_at "ar"))
  | ((with_reducible refine q_rng2 ?h ?_); (case h => refine And.intro ?_ (And.intro ?_ (And.intro ?_ ?_)) <;> omega))
  | walk_at "q"
  | with_reducible refine q_isNY rfl ?_
  | ((with_reducible refine q_isNN ?h ?_); (case h => intro z; cases z))
  | with_reducible refine q_notNY rfl ?_
  | ((with_reducible refine q_notNN ?h ?_); (case h => intro z; cases z))
  | ((with_reducible refine q_ixL (xs := ?xs) (v := ?v) ?h ?a ?_); (case h => walk_at "sq"); (case a => first | exact rfl | exact at0 | assumption | walk_at "ax"))
  | walk_at "new"
  | walk_at "own"
  | fail)
local macro_rules | `(tactic| walk_at "own") => `(tactic| fail)
local macro_rules | `(tactic| walk_at "ne") => `(tactic| fail)
local macro_rules | `(tactic| walk_at "ax") => `(tactic| fail)
local macro_rules | `(tactic| walk_at "ex") => `(tactic| first
  | assumption
  | exact Ex.refl _
  | (refine Ex.trans ?_ (by assumption); walk_at "ex"))
/-! ### the text's constants -/
abbrev LETs : Str := "abcdefghijklmnopqrstuvwxyzABCDEFGHIJKLMNOPQRSTUVWXYZ"
abbrev DIGs : Str := "0123456789"
def RES : List Str := ["and", "array", "call", "channel", "either", "else", "for", "from", "give", "if", "in", "into", "main", "mod", "not", "or", "out", "process", "program", "repeat", "skip", "stop", "take", "then", "to", "together", "when", "while", "word"]
def SIG : List Str := ["==", "!=", "<=", "{", "}", "(", ")", "[", "]", ";", ",", "=", "<", "+", "-", "*", "/"]
/-- a tuple of texts that the top made -/
def TupK (K : PySem.W.Frag) (a : Addr) (xs : List Str) : Prop := ∃ (o : Obj) (its : Array Value) (n : Nat), K.lookup a = some o ∧ o.cls = .type "tuple" ∧ o.data = .seq its n ∧ its.size ≤ sizeLine ∧ Vals (xs.map V.str) its.toList
theorem TupK.sq {K : PySem.W.Frag} {a : Addr} {xs : List Str} {H : Hp} (h : TupK K a xs) : SqT K H a (xs.map V.str) := Or.inr h
structure Glo (K : PySem.W.Frag) (mg : Str → Option Value) : Prop where
  n_len : mg "len" = none
  n_int : mg "int" = none
  n_str : mg "str" = none
  n_abs : mg "abs" = none
  n_range : mg "range" = none
  n_list : mg "list" = none
  n_tuple : mg "tuple" = none
  n_bool : mg "bool" = none
  n_all : mg "all" = none
  n_isinstance : mg "isinstance" = none
  c_LETTERS : ∃ t, mg "LETTERS" = some (.str LETs t)
  c_DIGITS : ∃ t, mg "DIGITS" = some (.str DIGs t)
  c_LONGEST_NAME : ∃ t, mg "LONGEST_NAME" = some (.int 16 t)
  c_LONGEST_NUMBER : ∃ t, mg "LONGEST_NUMBER" = some (.int 5 t)
  c_GREATEST_WORD : ∃ t, mg "GREATEST_WORD" = some (.int 65535 t)
  c_RESERVED : ∃ a, mg "RESERVED" = some (.ref a) ∧ TupK K a RES
  c_SIGNS : ∃ a, mg "SIGNS" = some (.ref a) ∧ TupK K a SIG
local macro_rules | `(tactic| walk_at "lev") => `(tactic| first | decide | omega)
variable {P : Program} {w : World} {K : PySem.W.Frag} {mg : Str → Option Value} {base : Heap}
/-! ### texts by their codes -/
abbrev Tx (a : List Nat) : Str := ⟨a.toArray⟩
theorem T_len (a : List Nat) : (Tx a).length = a.length := by simp [Tx, Str.length]
theorem T_tl (a : List Nat) : (Tx a).cps.toList = a := rfl
theorem T_inj {a b : List Nat} (h : Tx a = Tx b) : a = b := congrArg (fun x : Str => x.cps.toList) h
theorem T_of (x : Str) : Tx x.cps.toList = x := rfl
theorem T_cat (a b : List Nat) : Tx a ++ Tx b = Tx (a ++ b) := SX.S_cat a b
abbrev LET : List Nat := LETs.cps.toList
abbrev DIG : List Nat := DIGs.cps.toList
def runC (c : Nat) : Bool := decide (c ∈ LET) || decide (c ∈ DIG) || decide (c = 95)
/-- the part that begins a text that is not empty -/
def partL (r : List Nat) : List Nat :=
  if r.takeWhile runC = [] then (match SIG.find? fun s => s.cps.toList.isPrefixOf r with | some s => s.cps.toList | none => r.take 1) else r.takeWhile runC
def restNl (r : List Nat) : List Nat := r.takeWhile fun c => decide (c ≠ 10)
theorem q_tyS {x : Str} {A : Prop} {H : Hp} (q : A) : tyV K "str" (.str x) H ∧ A := ⟨rfl, q⟩
def rFind3 : V → List V → Hp → VK → Prop := fun x xs H Q => ∃ (a b : Str) (i : Int), x = .str a ∧ xs = [.str b, .int i] ∧ Q (.int (Txt.find3 a b i)) H
theorem mt_find3A {X : Cx} : MtR X "str.find" rFind3 := mt_find3
def rStart3 : V → List V → Hp → VK → Prop := fun x xs H Q => ∃ (a b : Str) (i : Int), x = .str a ∧ xs = [.str b, .int i] ∧ Q (.bl (Txt.startswith3 a b i)) H
theorem mt_start3A {X : Cx} : MtR X "str.startswith" rStart3 := mt_startswith3
theorem fi {n k : Nat} : fromIndex n (k : Int) = k := by
  unfold fromIndex
  rw [if_neg (by omega)]
  omega
theorem restNl_all : ∀ {r : List Nat}, (∀ c ∈ r, c ≠ 10) → restNl r = r
  | [], _ => rfl
  | c :: r, h => by
    have h1 := h c (List.mem_cons_self ..)
    have ih := restNl_all (r := r) fun x hx => h x (List.mem_cons_of_mem _ hx)
    unfold restNl at ih ⊢
    rw [List.takeWhile_cons, if_pos (by simpa using h1), ih]
theorem restNl_at : ∀ {r : List Nat} {i : Nat}, r[i]? = some 10 → (∀ v, v < i → r[v]? ≠ some 10) → (restNl r).length = i
  | [], i, h, _ => by simp at h
  | c :: r, 0, h, _ => by
    have e : c = 10 := by simpa using h
    unfold restNl
    rw [List.takeWhile_cons, if_neg (by simp [e])]
    rfl
  | c :: r, i + 1, h, hn => by
    have h1 : c ≠ 10 := fun e => hn 0 (Nat.succ_pos _) (by simp [e])
    have ih := restNl_at (r := r) (i := i) (by simpa using h) fun v hv => by
      have := hn (v + 1) (by omega)
      simpa using this
    unfold restNl at ih ⊢
    rw [List.takeWhile_cons, if_pos (by simpa using h1), List.length_cons, ih]
theorem find_nl {a : List Nat} {k : Nat} (hk : k ≤ a.length) : (Txt.find3 (Tx a) (Tx [10]) (k : Int) = -1 ∧ restNl (a.drop k) = a.drop k) ∨ (Txt.find3 (Tx a) (Tx [10]) (k : Int) = ((k + (restNl (a.drop k)).length : Nat) : Int) ∧ k + (restNl (a.drop k)).length < a.length) := by
  have gd : ∀ v, (Tx a).cps.getD v 0 = a.getD v 0 := fun v => by simp [Tx, Array.getD_eq_getD_getElem?]
  rcases StrLaws.find3_spec (Tx a) 10 (k : Int) with ⟨h1, h2⟩ | ⟨j, h1, h2, h3, h4, h5⟩
  · refine .inl ⟨h1, restNl_all fun c hc e => ?_⟩
    obtain ⟨i, hi, e2⟩ := List.mem_iff_getElem.mp hc
    rw [List.length_drop] at hi
    refine h2 (k + i) (by rw [fi]; omega) (by rw [T_len]; omega) ?_
    rw [gd, List.getD_eq_getElem?_getD, List.getElem?_eq_getElem (by omega)]
    rw [List.getElem_drop] at e2
    rw [Option.getD_some, e2, e]
  · rw [fi] at h2
    rw [T_len] at h3
    have hl : (restNl (a.drop k)).length = j - k := by
      refine restNl_at ?_ fun v hv => ?_
      · rw [List.getElem?_drop, show k + (j - k) = j by omega, List.getElem?_eq_getElem h3]
        rw [gd, List.getD_eq_getElem?_getD, List.getElem?_eq_getElem h3] at h4
        exact congrArg some h4
      · have := h5 (k + v) (by rw [fi]; omega) (by omega)
        rw [gd, List.getD_eq_getElem?_getD] at this
        rw [List.getElem?_drop]
        intro e
        rw [e] at this
        exact this rfl
    refine .inr ⟨?_, by omega⟩
    show Txt.find3 (Tx a) ⟨#[10]⟩ (k : Int) = _
    rw [h1, hl]
    omega
theorem q_find3 {a b : Str} {i : Int} {H : Hp} {Q : VK} (q : Q (.int (Txt.find3 a b i)) H) : rFind3 (.str a) [.str b, .int i] H Q := ⟨a, b, i, rfl, rfl, q⟩
theorem q_lenS {z : Str} {H : Hp} {Q : VK} (h : z.length ≤ 100000) (q : Q (.int z.length) H) : rLenA K [.str z] H Q := .inr ⟨z, rfl, sl1000 h, q⟩
theorem q_inSY {c : Nat} {z : Str} {H : Hp} {Q : VK} (q : Q (.bl (decide (c ∈ z.cps.toList))) H) : rInS (.str (Tx [c])) (.str z) H Q := ⟨c, z, rfl, rfl, q⟩
theorem q_notInSY {c : Nat} {z : Str} {H : Hp} {Q : VK} (q : Q (.bl (!decide (c ∈ z.cps.toList))) H) : rNotInS (.str (Tx [c])) (.str z) H Q := ⟨c, z, rfl, rfl, q⟩
def rIntS : List V → Hp → VK → Prop := fun xs H Q => ∃ a n, xs = [V.str a] ∧ intText? a = some n ∧ a.length ≤ 640 ∧ Q (.int n) H
theorem call_intS {X : Cx} : CallR X (.type "int") rIntS := call_int_str
theorem q_intS {z : Str} {n : Int} {H : Hp} {Q : VK} (h : intText? z = some n) (hl : z.length ≤ 640) (q : Q (.int n) H) : rIntS [.str z] H Q := ⟨z, n, rfl, h, hl, q⟩
theorem q_intN {n : Nat} {H : Hp} {Q : VK} (h : n < 65536) (q : Q (.int n) H) : rIntS [.str (Tx (TL.numL n))] H Q := by
  have hl := TL.numL_len (n := n) (k := 5) (by decide) (by omega)
  have e := TL.int_num (n := n) (by omega)
  rw [SX.num_S] at e
  exact q_intS e (by rw [T_len]; omega) q
theorem pe_globS {X : Cx} {x : Str} {z : Str} {pos : Pos} (hg : Gl X x) (hm : ∃ t, X.mg x = some (.str z t)) (hd : (x == ("__debug__" : Str)) = false := by decide) : PE X (.Name x pos) (tC (.str z)) := by
  obtain ⟨t, h⟩ := hm
  exact pe_glob hg h ⟨t, rfl⟩ hd
theorem pe_globR {X : Cx} {x : Str} {a : Addr} {pos : Pos} (hg : Gl X x) (hm : X.mg x = some (.ref a)) (hd : (x == ("__debug__" : Str)) = false := by decide) : PE X (.Name x pos) (tC (.ref a)) := pe_glob hg hm rfl hd
theorem q_eqSd {x y : Str} {H : Hp} {Q : VK} (q : Q (.bl (decide (x = y))) H) : rEqA K (.str x) (.str y) H Q := .inl ⟨rfl, by
  have e : decide (V.str x = V.str y) = decide (x = y) := by
    by_cases h : x = y
    · rw [h, decide_eq_true rfl, decide_eq_true rfl]
    · rw [decide_eq_false h, decide_eq_false (fun z => h (V.str.inj z))]
  rw [e]
  exact q⟩
abbrev s_in_run : Stmt := topS 15
theorem sc_in_run : FnScope ["character"] ["character"] (defScope s_in_run) := ⟨rfl, rfl, rfl, by decide +kernel, rfl, by decide +kernel, by decide +kernel⟩
abbrev p_in_run : List Str := ["character"]
abbrev s_comment_end : Stmt := topS 13
theorem sc_comment_end : FnScope ["text", "at", "end"] ["text", "at"] (defScope s_comment_end) := ⟨rfl, rfl, rfl, by decide +kernel, rfl, by decide +kernel, by decide +kernel⟩
abbrev p_comment_end : List Str := ["text", "at"]
abbrev s_part_at : Stmt := topS 14
theorem sc_part_at : FnScope ["text", "at", "end", "sign"] ["text", "at"] (defScope s_part_at) := ⟨rfl, rfl, rfl, by decide +kernel, rfl, by decide +kernel, by decide +kernel⟩
abbrev p_part_at : List Str := ["text", "at"]
abbrev s_is_reserved : Stmt := topS 12
theorem sc_is_reserved : FnScope ["name"] ["name"] (defScope s_is_reserved) := ⟨rfl, rfl, rfl, by decide +kernel, rfl, by decide +kernel, by decide +kernel⟩
abbrev p_is_reserved : List Str := ["name"]
abbrev s_is_name : Stmt := topS 17
theorem sc_is_name : FnScope ["part"] ["part"] (defScope s_is_name) := ⟨rfl, rfl, rfl, by decide +kernel, rfl, by decide +kernel, by decide +kernel⟩
abbrev p_is_name : List Str := ["part"]
abbrev s_all_digits : Stmt := topS 19
theorem sc_all_digits : FnScope ["part", "character"] ["part"] (defScope s_all_digits) := ⟨rfl, rfl, rfl, by decide +kernel, rfl, by decide +kernel, by decide +kernel⟩
abbrev p_all_digits : List Str := ["part"]
abbrev s_is_number : Stmt := topS 18
theorem sc_is_number : FnScope ["part"] ["part"] (defScope s_is_number) := ⟨rfl, rfl, rfl, by decide +kernel, rfl, by decide +kernel, by decide +kernel⟩
abbrev p_is_number : List Str := ["part"]
abbrev s_token_of : Stmt := topS 16
theorem sc_token_of : FnScope ["part", "line"] ["part", "line"] (defScope s_token_of) := ⟨rfl, rfl, rfl, by decide +kernel, rfl, by decide +kernel, by decide +kernel⟩
abbrev p_token_of : List Str := ["part", "line"]
abbrev s_tokenize : Stmt := topS 11
theorem sc_tokenize : FnScope ["text", "found", "line", "at", "part"] ["text"] (defScope s_tokenize) := ⟨rfl, rfl, rfl, by decide +kernel, rfl, by decide +kernel, by decide +kernel⟩
abbrev p_tokenize : List Str := ["text"]
def sp_run : Sp := fun vs H Q _ => ∃ c : Nat, vs = [.str (Tx [c])] ∧ Q (.bl (runC c)) H
theorem ok_run (T : Glo K mg) (D : Dn K mg "in_run" s_in_run p_in_run) : Cal P w K mg base "in_run" 1 p_in_run sp_run := by
  refine D.ok sc_in_run (fun vs H Q E h => ?_) (fun f cdv A outer s H vs Q E hr h => ?_)
  · obtain ⟨_, rfl, _⟩ := h
    rfl
  obtain ⟨c, rfl, q⟩ := h
  refine ⟨_, (pss_one (ps_ret (pe_or (pe_cmpR op_inS (pv 0) (pe_globS rfl T.c_LETTERS) (by rfl)) (pe_or (pe_cmpR op_inS (pv 0) (pe_globS rfl T.c_DIGITS) (by rfl)) (pe_one (pe_cmpR (op_eqA (hu64 hr)) (pv 0) pe_str (nomark _))))))), ?_⟩
  try dsimp only [cxOf, Cx.nox]
  repeat' walk_at "st"
  refine q_inSY ?_
  unfold runC at q
  by_cases h1 : c ∈ LET
  · rw [decide_eq_true h1] at q ⊢
    repeat' walk_at "st"
  · rw [decide_eq_false h1] at q ⊢
    repeat' walk_at "st"
    refine q_inSY ?_
    by_cases h2 : c ∈ DIG
    · rw [decide_eq_true h2] at q ⊢
      repeat' walk_at "st"
    · rw [decide_eq_false h2] at q ⊢
      repeat' walk_at "st"
      · rename_i e
        rw [decide_eq_true (by have := T_inj (a := [c]) (b := [95]) e; simpa using this)] at q
        exact q
      · rename_i e
        rw [decide_eq_false (fun z => e (by rw [z]; decide +kernel))] at q
        exact q
theorem c_run {c : Nat} {H : Hp} {Q : VK} {E : XK} (q : Q (.bl (runC c)) H) : sp_run [.str (Tx [c])] H Q E := ⟨c, rfl, q⟩
def sp_cend : Sp := fun vs H Q _ => ∃ (a : List Nat) (k : Nat), vs = [.str (Tx a), .int k] ∧ k ≤ a.length ∧ a.length ≤ 100000 ∧ Q (.int ((k + (restNl (a.drop k)).length : Nat) : Int)) H
theorem ok_cend (T : Glo K mg) (D : Dn K mg "comment_end" s_comment_end p_comment_end) : Cal P w K mg base "comment_end" 1 p_comment_end sp_cend := by
  refine D.ok sc_comment_end (fun vs H Q E h => ?_) (fun f cdv A outer s H vs Q E hr h => ?_)
  · obtain ⟨_, _, rfl, _⟩ := h
    rfl
  obtain ⟨a, k, rfl, hk, hl, q⟩ := h
  refine ⟨_, (pss_cons (ps_set (i := 2) sc_comment_end.nd rfl (by first | exact Or.inl rfl | exact Or.inr rfl) (pe_bm PySem.F.plainAttrs_str PySem.F.slot_str_find PySem.F.type_str_find mt_find3A (pv 0) (pa_cons pe_str (pa_cons (pv 1) pa_nil)))) (pss_one (ps_ret (pe_ifExp (pt_cmpR op_lt (pv 2) pe_int (nomark _)) (pe_callB call_lenA rfl T.n_len (by decide +kernel) (pa_cons (pv 0) pa_nil)) (pv 2))))), ?_⟩
  try dsimp only [cxOf, Cx.nox]
  repeat' walk_at "st"
  refine q_tyS ?_
  repeat' walk_at "st"
  refine q_find3 ?_
  have hf := find_nl hk
  have e10 : (Str.ofString "\n") = Tx [10] := by decide +kernel
  rw [e10]
  rcases hf with ⟨e, e2⟩ | ⟨e, e2⟩
  · rw [e]
    repeat' walk_at "st"
    refine q_lenS (by rw [T_len]; exact hl) ?_
    rw [e2, List.length_drop] at q
    rw [T_len]
    have e3 : k + (a.length - k) = a.length := by omega
    rw [e3] at q
    exact q
  · rw [e]
    repeat' walk_at "st"
theorem c_cend {a : List Nat} {k : Nat} {H : Hp} {Q : VK} {E : XK} (h1 : k ≤ a.length) (h2 : a.length ≤ 100000) (q : Q (.int ((k + (restNl (a.drop k)).length : Nat) : Int)) H) : sp_cend [.str (Tx a), .int k] H Q E := ⟨a, k, rfl, h1, h2, q⟩
def sp_part : Sp := fun vs H Q _ => ∃ (a : List Nat) (k : Nat), vs = [.str (Tx a), .int k] ∧ k < a.length ∧ a.length ≤ 100000 ∧ Q (.str (Tx (partL (a.drop k)))) H
theorem tw_app {c : Nat} {z : List Nat} (hc : runC c = false) : ∀ {p : List Nat}, (∀ x ∈ p, runC x = true) → (p ++ c :: z).takeWhile runC = p
  | [], _ => by rw [List.nil_append, List.takeWhile_cons, if_neg (by rw [hc]; decide)]
  | x :: p, hj => by rw [List.cons_append, List.takeWhile_cons, if_pos (hj x (List.mem_cons_self ..)), tw_app hc fun y hy => hj y (List.mem_cons_of_mem _ hy)]
theorem find_first {l : List Str} {r : List Nat} {i : Nat} {s : Str} (h : l[i]? = some s) (hs : s.cps.toList.isPrefixOf r = true) (hb : ∀ z ∈ l.take i, z.cps.toList.isPrefixOf r = false) : (l.find? fun s => s.cps.toList.isPrefixOf r) = some s := by
  have e : l = l.take i ++ s :: l.drop (i + 1) := by
    have hl := (List.getElem?_eq_some_iff.mp h).1
    rw [List.getElem?_eq_getElem hl] at h
    rw [← Option.some.inj h, ← List.drop_eq_getElem_cons hl, List.take_append_drop]
  rw [e, List.find?_append, List.find?_eq_none.mpr (fun z hz => by rw [hb z hz]; decide), Option.none_or, List.find?_cons, hs]
theorem run_next {r : List Nat} {j : Nat} {c : Nat} (h : r[j]? = some c) (hj : ∀ x ∈ r.take j, runC x = true) : (runC c = true → ∀ x ∈ r.take (j + 1), runC x = true) ∧ (runC c = false → (r.takeWhile runC) = r.take j) := by
  refine ⟨fun hc x hx => ?_, fun hc => ?_⟩
  · rw [List.take_add_one, h, List.mem_append] at hx
    rcases hx with hx | hx
    · exact hj x hx
    · simp at hx
      rw [hx]
      exact hc
  · have e : r = r.take j ++ r.drop j := (List.take_append_drop j r).symm
    have hd : r.drop j = c :: r.drop (j + 1) := by
      have hl := (List.getElem?_eq_some_iff.mp h).1
      rw [List.drop_eq_getElem_cons hl]
      rw [List.getElem?_eq_getElem hl] at h
      rw [Option.some.inj h]
    have hp : (r.take j).length = j := by
      have := (List.getElem?_eq_some_iff.mp h).1
      rw [List.length_take]
      omega
    rw [e]
    generalize r.take j = p at hj hp
    rw [hd]
    generalize r.drop (j + 1) = z
    clear e hd h
    rw [tw_app hc hj, ← hp, List.take_append_of_le_length (Nat.le_refl _), List.take_length]
theorem run_end {r : List Nat} {j : Nat} (hl : r.length ≤ j) (hj : ∀ x ∈ r.take j, runC x = true) : r.takeWhile runC = r.take j := by
  rw [List.take_of_length_le hl] at hj ⊢
  induction r with
  | nil => rfl
  | cons x p ih =>
    rw [List.takeWhile_cons, if_pos (hj x (List.mem_cons_self ..)), ih (by rw [List.length_cons] at hl; omega) fun y hy => hj y (List.mem_cons_of_mem _ hy)]
theorem cut_S {a : List Nat} {i j : Nat} (hi : i ≤ j) (hj : j ≤ a.length) : cutS (Tx a) (some (i : Int)) (some (j : Int)) = Tx ((a.drop i).take (j - i)) := by
  unfold cutS
  rw [show HT.sIx (Tx a).length 0 (some (i : Int)) = min i (Tx a).length from HT.sIx_nat _ 0 i, show HT.sIx (Tx a).length (Tx a).length (some (j : Int)) = min j (Tx a).length from HT.sIx_nat _ _ j, T_len, Nat.min_eq_left hj, Nat.min_eq_left (Nat.le_trans hi hj)]
theorem start_S {a : List Nat} {z : Str} {k : Nat} (hk : k ≤ a.length) : Txt.startswith3 (Tx a) z (k : Int) = z.cps.toList.isPrefixOf (a.drop k) := by
  unfold Txt.startswith3
  rw [fi, StrLaws.subAt_eq, T_tl]
  have hlen := T_len a
  have hz : z.length = z.cps.toList.length := by simp [Str.length]
  simp only [hz]
  generalize z.cps.toList = p
  rw [Bool.eq_iff_iff, Bool.and_eq_true, decide_eq_true_eq, beq_iff_eq, List.isPrefixOf_iff_prefix]
  constructor
  · rintro ⟨_, h⟩
    rw [← h]
    exact List.take_prefix _ _
  · intro h
    have h1 := h.length_le
    rw [List.length_drop] at h1
    exact ⟨by rw [hlen]; omega, (List.prefix_iff_eq_take.mp h).symm⟩
theorem q_start3 {a b : Str} {i : Int} {H : Hp} {Q : VK} (q : Q (.bl (Txt.startswith3 a b i)) H) : rStart3 (.str a) [.str b, .int i] H Q := ⟨a, b, i, rfl, rfl, q⟩
theorem q_ixS {z : Str} {i : Int} {c : Nat} {H : Hp} {Q : VK} (hl : z.length ≤ 100000) (h : atI z.cps.toList i = some c) (q : Q (.str (Tx [c])) H) : rIx K (.str z) (.int i) H Q := .inr (.inr ⟨z, i, c, rfl, rfl, sl1000 hl, h, q⟩)
theorem q_slS {z : Str} {lo hi : Option Int} {H : Hp} {Q : VK} (hl : z.length ≤ 100000) (q : Q (.str (cutS z lo hi)) H) : rSlS (.str z) lo hi H Q := ⟨z, rfl, sl1000 hl, q⟩
theorem mo_tB {a : TE} (ha : MoE a) : MoT (tB a) := fun σ H Q Q' k h => ha _ _ _ _ (fun x H1 ⟨c, e, q⟩ => ⟨c, e, k _ _ q⟩) h
theorem mo_call {sp : Sp} {a : TA} (hs : ∀ vs H (Q Q' : VK) E, (∀ v H1, Q v H1 → Q' v H1) → sp vs H Q E → sp vs H Q' E) (ha : MoA a) : MoE (tCall sp [] E0 a) := fun σ H Q Q' k h => ha _ _ _ _ (fun vs H1 q => hs _ _ _ _ _ k q) h
theorem mo_sprun : ∀ vs H (Q Q' : VK) E, (∀ v H1, Q v H1 → Q' v H1) → sp_run vs H Q E → sp_run vs H Q' E := fun _ _ _ _ _ k ⟨c, e, q⟩ => ⟨c, e, k _ _ q⟩
theorem ok_part (T : Glo K mg) (D : Dn K mg "part_at" s_part_at p_part_at) (G_in_run : Cal P w K mg base "in_run" 1 p_in_run sp_run) : Cal P w K mg base "part_at" 2 p_part_at sp_part := by
  refine D.ok sc_part_at (fun vs H Q E h => ?_) (fun f cdv A outer s H vs Q E hr h => ?_)
  · obtain ⟨_, _, rfl, _⟩ := h
    rfl
  obtain ⟨a, k, rfl, hk, hl, q⟩ := h
  obtain ⟨a_SIGNS, g_SIGNS, q_SIGNS⟩ := T.c_SIGNS
  refine ⟨_, (pss_cons (ps_set (i := 2) sc_part_at.nd rfl (by first | exact Or.inl rfl | exact Or.inr rfl) (pv 1)) (pss_cons (ps_while PassesOwn.never (PW.pt (pw_and (pt_cmpR op_lt (pv 2) (pe_callB call_lenA rfl T.n_len (by decide +kernel) (pa_cons (pv 0) pa_nil)) (nomark _)) (pw_and1 (pt_val (pe_cal G_in_run (hr.mono (by walk_at "lev")) rfl (pa_cons (pe_ix ix_seq (pv 0) (pv 2) (fun _ _ => rfl)) pa_nil)))))) (pss_one (ps_aug (i := 2) sc_part_at.nd rfl (by first | exact Or.inl rfl | exact Or.inr rfl) pe_int ip_add))) (pss_cons (ps_if (pt_cmpR op_gt (pv 2) (pv 1) (nomark _)) (pss_one (ps_ret (pe_slice sl_str (pv 0) (po_some (pv 1)) (po_some (pv 2))))) pss_nil) (pss_cons (ps_for PassesOwn.never rfl (pi_tup (pe_globR rfl g_SIGNS)) (pg_name (i := 3) sc_part_at.nd rfl (by first | exact Or.inl rfl | exact Or.inr rfl)) (pss_one (ps_if (pt_val (pe_bm PySem.F.plainAttrs_str PySem.F.slot_str_startswith PySem.F.type_str_startswith mt_start3A (pv 0) (pa_cons (pv 3) (pa_cons (pv 1) pa_nil)))) (pss_one (ps_ret (pv 3))) pss_nil))) (pss_one (ps_ret (pe_ix ix_seq (pv 0) (pv 1) (fun _ _ => rfl)))))))), ?_⟩
  try dsimp only [cxOf, Cx.nox]
  repeat' walk_at "st"
  refine w_while (fun m σ H' => H' = H ∧ ∃ j : Nat, m = a.length - (k + j) ∧ k + j ≤ a.length ∧ σ = [some (.str (Tx a)), some (.int k), some (.int ((k + j : Nat) : Int)), none] ∧ ∀ x ∈ (a.drop k).take j, runC x = true) (a.length - k) ⟨rfl, 0, by omega, by omega, rfl, by simp⟩ ?_ ?_
  · rintro m σ H' ⟨rfl, j, rfl, hj, rfl, hr'⟩
    repeat' walk_at "st"
    refine q_lenS (by rw [T_len]; exact hl) ?_
    rw [T_len]
    by_cases hlt : k + j < a.length
    · have hc : (a.drop k)[j]? = some a[k + j] := by rw [List.getElem?_drop, List.getElem?_eq_getElem hlt]
      have hat : atI (Tx a).cps.toList ((k + j : Nat) : Int) = some a[k + j] := atI_nat (List.getElem?_eq_getElem hlt)
      have nx := run_next hc hr'
      repeat' walk_at "st"
      refine q_ixS (by rw [T_len]; exact hl) hat ?_
      repeat' walk_at "st"
      refine ⟨_, rfl, ?_⟩
      repeat' walk_at "st"
      cases hb : runC a[k + j]
      · have htw := nx.2 hb
        by_cases j0 : j = 0
        · subst j0
          have hd : a.drop k = a[k] :: a.drop (k + 1) := List.drop_eq_getElem_cons hk
          have htw0 : (a.drop k).takeWhile runC = [] := htw
          repeat' walk_at "st"
          refine ⟨a_SIGNS, rfl, ⟨_, q_SIGNS.sq⟩, ?_⟩
          refine w_tup (xs := SIG.map V.str) (fun i σ H2 => H2 = H' ∧ ∃ y, σ = [some (.str (Tx a)), some (.int k), some (.int ((k + 0 : Nat) : Int)), y] ∧ ∀ z ∈ SIG.take i, z.cps.toList.isPrefixOf (a.drop k) = false) ⟨rfl, none, rfl, by simp⟩ ?_ ?_ ?_
          · rintro i σ H2 _ ⟨rfl, _⟩
            exact q_SIGNS.sq
          · rintro i x σ H2 hx ⟨rfl, y, rfl, hb⟩
            rw [List.getElem?_map] at hx
            obtain ⟨z, hz, rfl⟩ := Option.map_eq_some_iff.mp hx
            repeat' walk_at "st"
            refine q_tyS ?_
            repeat' walk_at "st"
            refine q_start3 ?_
            rw [start_S (Nat.le_of_lt hk)]
            refine ⟨_, rfl, ?_⟩
            cases hp : z.cps.toList.isPrefixOf (a.drop k)
            · refine iteF ?_
              repeat' walk_at "st"
              refine ⟨rfl, _, rfl, fun u hu => ?_⟩
              rw [List.take_add_one, hz, List.mem_append] at hu
              rcases hu with hu | hu
              · exact hb u hu
              · simp at hu
                rw [hu]
                exact hp
            · refine iteT ?_
              have hf := find_first hz hp hb
              unfold partL at q
              rw [if_pos htw0, hf] at q
              repeat' walk_at "st"
          · rintro σ H2 ⟨rfl, y, rfl, hb⟩
            have hf : (SIG.find? fun s => s.cps.toList.isPrefixOf (a.drop k)) = none := List.find?_eq_none.mpr fun z hz => by
              rw [hb z (by rw [List.length_map, List.take_length]; exact hz)]
              decide
            unfold partL at q
            rw [if_pos htw0, hf, hd] at q
            repeat' walk_at "st"
            exact q_ixS (by rw [T_len]; exact hl) (atI_nat (List.getElem?_eq_getElem hk)) q
        · have hne : (a.drop k).takeWhile runC ≠ [] := by
            rw [htw]
            intro e
            have := congrArg List.length e
            rw [List.length_take, List.length_drop, List.length_nil] at this
            omega
          unfold partL at q
          rw [if_neg hne, htw] at q
          repeat' walk_at "st"
          refine q_slS (by rw [T_len]; exact hl) ?_
          rw [cut_S (by omega) hj, show k + j - k = j by omega]
          exact q
      · repeat' walk_at "st"
        exact ⟨_, by omega, rfl, j + 1, rfl, by omega, rfl, nx.1 hb⟩
    · have htw := run_end (r := a.drop k) (j := j) (by rw [List.length_drop]; omega) hr'
      have hne : (a.drop k).takeWhile runC ≠ [] := by
        rw [htw]
        intro e
        have := congrArg List.length e
        rw [List.length_take, List.length_drop, List.length_nil] at this
        omega
      unfold partL at q
      rw [if_neg hne, htw] at q
      repeat' walk_at "st"
      refine q_slS (by rw [T_len]; exact hl) ?_
      rw [cut_S (by omega) hj, show k + j - k = j by omega]
      exact q
  · intro σ H Q Q' hQ h
    exact mo_and (mo_test (mo_op mo_I0 mo_var (mo_cb mo_lenA (mo_cons mo_var mo_nil)))) (mo_tB (mo_call mo_sprun (mo_cons (mo_op mo_ix mo_var mo_var) mo_nil))) _ _ _ _ hQ h
theorem c_part {a : List Nat} {k : Nat} {H : Hp} {Q : VK} {E : XK} (h1 : k < a.length) (h2 : a.length ≤ 100000) (q : Q (.str (Tx (partL (a.drop k)))) H) : sp_part [.str (Tx a), .int k] H Q E := ⟨a, k, rfl, h1, h2, q⟩
theorem inV_strs {z : Str} : ∀ l : List Str, inV (.str z) (l.map V.str) = decide (z ∈ l)
  | [] => rfl
  | s :: l => by
    have ih := inV_strs (z := z) l
    unfold inV at ih ⊢
    rw [List.map_cons, List.any_cons, ih]
    by_cases e : s = z
    · simp [eqV, e]
    · simp [eqV, e, Ne.symm e]
theorem flat_strs : ∀ l : List Str, (l.map V.str).all flatV = true
  | [] => rfl
  | s :: l => by rw [List.map_cons, List.all_cons, flat_strs l]; rfl
theorem q_inStrs {z : Str} {l : List Str} {p : Addr} {H : Hp} {Q : VK} (h : SqT K H p (l.map V.str)) (q : Q (.bl (decide (z ∈ l))) H) : rIn K false (.str z) (.ref p) H Q :=
  ⟨p, _, rfl, .inr h, rfl, flat_strs l, by rw [if_neg Bool.false_ne_true, inV_strs]; exact q⟩
def sp_res : Sp := fun vs H Q _ => ∃ z : Str, vs = [.str z] ∧ Q (.bl (decide (z ∈ RES))) H
theorem ok_res (T : Glo K mg) (D : Dn K mg "is_reserved" s_is_reserved p_is_reserved) : Cal P w K mg base "is_reserved" 1 p_is_reserved sp_res := by
  refine D.ok sc_is_reserved (fun vs H Q E h => ?_) (fun f cdv A outer s H vs Q E hr h => ?_)
  · obtain ⟨_, rfl, _⟩ := h
    rfl
  obtain ⟨z, rfl, q⟩ := h
  obtain ⟨a_RESERVED, g_RESERVED, q_RESERVED⟩ := T.c_RESERVED
  refine ⟨_, (pss_one (ps_ret (pe_cmpR op_in_seq (pv 0) (pe_globR rfl g_RESERVED) (by rfl)))), ?_⟩
  try dsimp only [cxOf, Cx.nox]
  repeat' walk_at "st"
  exact q_inStrs q_RESERVED.sq q
theorem c_res {z : Str} {H : Hp} {Q : VK} {E : XK} (q : Q (.bl (decide (z ∈ RES))) H) : sp_res [.str z] H Q E := ⟨z, rfl, q⟩
def sp_name : Sp := fun vs H Q _ => ∃ (c : Nat) (r : List Nat), vs = [.str (Tx (c :: r))] ∧ (c :: r).length ≤ 100000 ∧ Q (.bl (decide (c ∈ LET) && decide ((c :: r).length ≤ 16))) H
theorem ok_name (T : Glo K mg) (D : Dn K mg "is_name" s_is_name p_is_name) : Cal P w K mg base "is_name" 1 p_is_name sp_name := by
  refine D.ok sc_is_name (fun vs H Q E h => ?_) (fun f cdv A outer s H vs Q E hr h => ?_)
  · obtain ⟨_, _, rfl, _⟩ := h
    rfl
  obtain ⟨c, r, rfl, hl, q⟩ := h
  refine ⟨_, (pss_one (ps_ret (pe_and (pe_cmpR op_inS (pe_ix ix_seq (pv 0) pe_int (fun _ _ => rfl)) (pe_globS rfl T.c_LETTERS) (by rfl)) (pe_one (pe_cmpR op_le (pe_callB call_lenA rfl T.n_len (by decide +kernel) (pa_cons (pv 0) pa_nil)) (pe_globC rfl T.c_LONGEST_NAME) (nomark _)))))), ?_⟩
  try dsimp only [cxOf, Cx.nox]
  repeat' walk_at "st"
  refine q_ixS (by rw [T_len]; exact hl) at0 ?_
  repeat' walk_at "st"
  refine q_inSY ?_
  by_cases h1 : c ∈ LET
  · rw [decide_eq_true h1] at q ⊢
    repeat' walk_at "st"
    refine q_lenS (by rw [T_len]; exact hl) ?_
    rw [T_len]
    repeat' walk_at "st"
    · rename_i e
      rw [decide_eq_true (show (c :: r).length ≤ 16 by omega)] at q
      exact q
    · rename_i e
      rw [decide_eq_false (show ¬ (c :: r).length ≤ 16 by omega)] at q
      exact q
  · rw [decide_eq_false h1] at q ⊢
    repeat' walk_at "st"
theorem c_name {c : Nat} {r : List Nat} {H : Hp} {Q : VK} {E : XK} (h : (c :: r).length ≤ 100000) (q : Q (.bl (decide (c ∈ LET) && decide ((c :: r).length ≤ 16))) H) : sp_name [.str (Tx (c :: r))] H Q E := ⟨c, r, rfl, h, q⟩
def sp_digs : Sp := fun vs H Q _ => ∃ p : List Nat, vs = [.str (Tx p)] ∧ (∀ c ∈ p, c ∈ DIG) ∧ Q (.bl true) H
theorem ok_digs (T : Glo K mg) (D : Dn K mg "all_digits" s_all_digits p_all_digits) : Cal P w K mg base "all_digits" 1 p_all_digits sp_digs := by
  refine D.ok sc_all_digits (fun vs H Q E h => ?_) (fun f cdv A outer s H vs Q E hr h => ?_)
  · obtain ⟨_, rfl, _⟩ := h
    rfl
  obtain ⟨p, rfl, hp, q⟩ := h
  refine ⟨_, (pss_cons (ps_for PassesOwn.never rfl (pi_str (pv 0)) (pg_name (i := 1) sc_all_digits.nd rfl (by first | exact Or.inl rfl | exact Or.inr rfl)) (pss_one (ps_if (pt_cmpR op_notInS (pv 1) (pe_globS rfl T.c_DIGITS) (by rfl)) (pss_one (ps_ret pe_bl)) pss_nil))) (pss_one (ps_ret pe_bl))), ?_⟩
  try dsimp only [cxOf, Cx.nox]
  repeat' walk_at "st"
  refine w_str (fun i σ H2 => H2 = H ∧ ∃ y, σ = [some (.str (Tx p)), y]) ⟨rfl, none, rfl⟩ ?_ ?_
  · rintro i c σ H2 hc ⟨rfl, y, rfl⟩
    repeat' walk_at "st"
    refine q_notInSY ?_
    rw [decide_eq_true (hp c (List.mem_of_getElem? hc))]
    repeat' walk_at "st"
    exact ⟨rfl, _, rfl⟩
  · rintro σ H2 ⟨rfl, y, rfl⟩
    repeat' walk_at "st"
theorem c_digs {p : List Nat} {H : Hp} {Q : VK} {E : XK} (h : ∀ c ∈ p, c ∈ DIG) (q : Q (.bl true) H) : sp_digs [.str (Tx p)] H Q E := ⟨p, rfl, h, q⟩
theorem numL_head : ∀ {n : Nat} {c : Nat} {r : List Nat}, 0 < n → TL.numL n = c :: r → c ≠ 48 := by
  intro n
  induction n using Nat.strongRecOn with
  | _ n ih =>
    intro c r hn e
    by_cases h : n < 10
    · rw [TL.numL_lt h] at e
      cases e
      omega
    · rw [TL.numL_step (by omega)] at e
      cases hq : TL.numL (n / 10) with
      | nil => exact absurd hq (TL.numL_ne _)
      | cons d t =>
        rw [hq] at e
        cases e
        exact ih (n / 10) (by omega) (by omega) hq
theorem dig_mem {c : Nat} (h : 48 ≤ c ∧ c ≤ 57) : c ∈ DIG := by
  have : ∀ c, c < 58 → 48 ≤ c → c ∈ DIG := by decide +kernel
  exact this c (by omega) h.1
theorem numL_dig (n : Nat) : ∀ c ∈ TL.numL n, c ∈ DIG := fun c hc => dig_mem (by
  have := TL.numL_digits n c hc
  omega)
def sp_isnum : Sp := fun vs H Q _ => ∃ n : Nat, vs = [.str (Tx (TL.numL n))] ∧ n < 65536 ∧ Q (.bl true) H
theorem ok_isnum (T : Glo K mg) (D : Dn K mg "is_number" s_is_number p_is_number) (G_all_digits : Cal P w K mg base "all_digits" 1 p_all_digits sp_digs) : Cal P w K mg base "is_number" 2 p_is_number sp_isnum := by
  refine D.ok sc_is_number (fun vs H Q E h => ?_) (fun f cdv A outer s H vs Q E hr h => ?_)
  · obtain ⟨_, rfl, _⟩ := h
    rfl
  obtain ⟨n, rfl, hn, q⟩ := h
  refine ⟨_, (pss_cons (ps_if (pt_cmpR (op_eqA (hu64 hr)) (pv 0) pe_str (nomark _)) (pss_one (ps_ret pe_bl)) pss_nil) (pss_cons (ps_if (PW.pt (pw_or (pt_cmpR (op_eqA (hu64 hr)) (pe_ix ix_seq (pv 0) pe_int (fun _ _ => rfl)) pe_str (nomark _)) (pw_or1 (pt_cmpR op_gt (pe_callB call_lenA rfl T.n_len (by decide +kernel) (pa_cons (pv 0) pa_nil)) (pe_globC rfl T.c_LONGEST_NUMBER) (nomark _))))) (pss_one (ps_ret pe_bl)) pss_nil) (pss_one (ps_ret (pe_and (pe_cal G_all_digits (hr.mono (by walk_at "lev")) rfl (pa_cons (pv 0) pa_nil)) (pe_one (pe_cmpR op_le (pe_callTy call_intS rfl T.n_int (by decide +kernel) (pa_cons (pv 0) pa_nil)) (pe_globC rfl T.c_GREATEST_WORD) (nomark _)))))))), ?_⟩
  try dsimp only [cxOf, Cx.nox]
  have hl := TL.numL_len (n := n) (k := 5) (by decide) (by omega)
  cases hq : TL.numL n with
  | nil => exact absurd hq (TL.numL_ne _)
  | cons c r =>
    rw [hq] at hl
    repeat' walk_at "st"
    rename_i e0
    have n0 : 0 < n := by
      refine Nat.pos_of_ne_zero fun e => e0 ?_
      rw [← hq, e]
      decide +kernel
    refine q_ixS (by rw [T_len]; omega) at0 ?_
    repeat' walk_at "st"
    · rename_i e
      have e' : [c] = [48] := T_inj (a := [c]) (b := [48]) e
      exact absurd (by simpa using e') (numL_head n0 hq)
    · refine q_lenS (by rw [T_len]; omega) ?_
      rw [T_len]
      repeat' walk_at "st"
      refine c_digs (by rw [← hq]; exact numL_dig n) ?_
      repeat' walk_at "st"
      rw [← hq]
      refine q_intN hn ?_
      repeat' walk_at "st"
theorem c_isnum {n : Nat} {H : Hp} {Q : VK} {E : XK} (h : n < 65536) (q : Q (.bl true) H) : sp_isnum [.str (Tx (TL.numL n))] H Q E := ⟨n, rfl, h, q⟩
/-! ### tokens -/
inductive TokOf : List Nat → Str → V → Prop
  | sign {z : Str} : z ∈ SIG → TokOf z.cps.toList "sign" (.str z)
  | word {z : Str} : z ∈ RES → TokOf z.cps.toList "word" (.str z)
  | name {c : Nat} {r : List Nat} : c ∈ LET → (c :: r).length ≤ 16 → Tx (c :: r) ∉ RES → TokOf (c :: r) "name" (.str (Tx (c :: r)))
  | num {n : Nat} : n < 65536 → TokOf (TL.numL n) "number" (.int n)
theorem sig_heads : (SIG.all fun z => match z.cps.toList with | c :: _ => !decide (c ∈ LET) && !decide (c ∈ DIG) | [] => false) = true := by decide +kernel
theorem res_heads : (RES.all fun z => !decide (z ∈ SIG) && (match z.cps.toList with | c :: _ => decide (c ∈ LET) && decide (z.cps.toList.length ≤ 16) | [] => false)) = true := by decide +kernel
theorem let_dig : (LET.all fun c => !decide (c ∈ DIG)) = true := by decide +kernel
theorem not_sig {c : Nat} {r : List Nat} (h : c ∈ LET ∨ c ∈ DIG) : Tx (c :: r) ∉ SIG := fun hm => by
  have := List.all_eq_true.mp sig_heads _ hm
  rcases h with h | h <;> simp [h] at this
theorem dig_not_let {c : Nat} (h : c ∈ DIG) : c ∉ LET := fun hl => by
  have := List.all_eq_true.mp let_dig _ hl
  simp [h] at this
theorem num_not_res {c : Nat} {r : List Nat} (h : c ∈ DIG) : Tx (c :: r) ∉ RES := fun hm => by
  have := List.all_eq_true.mp res_heads _ hm
  simp [dig_not_let h] at this
def sp_token : Sp := fun vs H Q _ => ∃ (p : List Nat) (n : Int) (kd : Str) (v : V), vs = [.str (Tx p), .int n] ∧ p.length ≤ 100000 ∧ TokOf p kd v ∧ ∀ q H', H q = none → Ex H H' → H' q = some (.tup [.str kd, v, .int n]) → Q (.ref q) H'
theorem ok_token (T : Glo K mg) (D : Dn K mg "token_of" s_token_of p_token_of) (G_is_reserved : Cal P w K mg base "is_reserved" 1 p_is_reserved sp_res) (G_is_name : Cal P w K mg base "is_name" 1 p_is_name sp_name) (G_is_number : Cal P w K mg base "is_number" 2 p_is_number sp_isnum) :
    Cal P w K mg base "token_of" 3 p_token_of sp_token := by
  refine D.ok sc_token_of (fun vs H Q E h => ?_) (fun f cdv A outer s H vs Q E hr h => ?_)
  · obtain ⟨_, _, _, _, rfl, _⟩ := h
    rfl
  obtain ⟨p, n, kd, v, rfl, hl, ht, q⟩ := h
  obtain ⟨a_SIGNS, g_SIGNS, q_SIGNS⟩ := T.c_SIGNS
  refine ⟨_, (pss_cons (ps_if (pt_cmpR op_in_seq (pv 0) (pe_globR rfl g_SIGNS) (by rfl)) (pss_one (ps_ret (pe_tup (pa_cons pe_str (pa_cons (pv 0) (pa_cons (pv 1) pa_nil)))))) pss_nil) (pss_cons (ps_if (pt_val (pe_cal G_is_reserved (hr.mono (by walk_at "lev")) rfl (pa_cons (pv 0) pa_nil))) (pss_one (ps_ret (pe_tup (pa_cons pe_str (pa_cons (pv 0) (pa_cons (pv 1) pa_nil)))))) pss_nil) (pss_cons (ps_if (pt_val (pe_cal G_is_name (hr.mono (by walk_at "lev")) rfl (pa_cons (pv 0) pa_nil))) (pss_one (ps_ret (pe_tup (pa_cons pe_str (pa_cons (pv 0) (pa_cons (pv 1) pa_nil)))))) pss_nil) (pss_cons (ps_if (pt_val (pe_cal G_is_number (hr.mono (by walk_at "lev")) rfl (pa_cons (pv 0) pa_nil))) (pss_one (ps_ret (pe_tup (pa_cons pe_str (pa_cons (pe_callTy call_intS rfl T.n_int (by decide +kernel) (pa_cons (pv 0) pa_nil)) (pa_cons (pv 1) pa_nil)))))) pss_nil) (pss_one ps_never))))), ?_⟩
  try dsimp only [cxOf, Cx.nox]
  repeat' walk_at "st"
  refine q_inStrs q_SIGNS.sq ?_
  cases ht with
  | @sign z hz =>
    rw [show Tx z.cps.toList = z from rfl, decide_eq_true hz]
    repeat' walk_at "st"
    exact q _ _ hp ke hn
  | @word z hz =>
    have hs := List.all_eq_true.mp res_heads _ hz
    have h1 : z ∉ SIG := fun hm => by simp [hm] at hs
    rw [show Tx z.cps.toList = z from rfl, decide_eq_false h1]
    repeat' walk_at "st"
    refine c_res ?_
    rw [decide_eq_true hz]
    repeat' walk_at "st"
    exact q _ _ hp ke hn
  | @name c r h1 h2 h3 =>
    rw [decide_eq_false (not_sig (.inl h1))]
    repeat' walk_at "st"
    refine c_res ?_
    rw [decide_eq_false h3]
    repeat' walk_at "st"
    refine c_name hl ?_
    rw [decide_eq_true h1, decide_eq_true h2]
    repeat' walk_at "st"
    refine iteT ?_
    repeat' walk_at "st"
    exact q _ _ hp ke hn
  | @num k hk =>
    cases hq : TL.numL k with
    | nil => exact absurd hq (TL.numL_ne _)
    | cons c r =>
      have hc : c ∈ DIG := numL_dig k c (by rw [hq]; exact List.mem_cons_self ..)
      rw [decide_eq_false (not_sig (.inr hc))]
      repeat' walk_at "st"
      refine c_res ?_
      rw [decide_eq_false (num_not_res hc)]
      repeat' walk_at "st"
      refine c_name (by rw [← hq]; exact hl) ?_
      rw [decide_eq_false (dig_not_let hc)]
      refine ⟨_, rfl, ?_⟩
      refine iteF ?_
      repeat' walk_at "st"
      rw [← hq]
      refine c_isnum hk ?_
      repeat' walk_at "st"
      refine q_intN hk ?_
      repeat' walk_at "st"
      exact q _ _ hp ke hn
theorem c_token {p : List Nat} {n : Int} {kd : Str} {v : V} {H : Hp} {Q : VK} {E : XK} (h1 : p.length ≤ 100000) (h2 : TokOf p kd v) (q : ∀ q H', H q = none → Ex H H' → H' q = some (.tup [.str kd, v, .int n]) → Q (.ref q) H') : sp_token [.str (Tx p), .int n] H Q E :=
  ⟨p, n, kd, v, rfl, h1, h2, q⟩
/-! ### the tokens of a text -/
abbrev Tok := Str × V × Int
inductive Tk : List Nat → Int → List Tok → Int → Prop
  | nil {n : Int} : Tk [] n [] n
  | nl {r : List Nat} {n m : Int} {ts : List Tok} : Tk r (n + 1) ts m → Tk (10 :: r) n ts m
  | sp {r : List Nat} {n m : Int} {ts : List Tok} : Tk r n ts m → Tk (32 :: r) n ts m
  | cm {r : List Nat} {n m : Int} {ts : List Tok} : Tk (r.drop (restNl r).length) n ts m → Tk (35 :: r) n ts m
  | part {c : Nat} {r p rest : List Nat} {kd : Str} {v : V} {n m : Int} {ts : List Tok} : c ≠ 10 → c ≠ 32 → c ≠ 35 → partL (c :: r) = p → c :: r = p ++ rest → TokOf p kd v → Tk rest n ts m → Tk (c :: r) n ((kd, v, n) :: ts) m
theorem Tk.inv_part {c : Nat} {r : List Nat} {n m : Int} {ts : List Tok} (h : Tk (c :: r) n ts m) (h1 : c ≠ 10) (h2 : c ≠ 32) (h3 : c ≠ 35) : ∃ (p rest : List Nat) (kd : Str) (v : V) (ts' : List Tok), partL (c :: r) = p ∧ c :: r = p ++ rest ∧ TokOf p kd v ∧ Tk rest n ts' m ∧ ts = (kd, v, n) :: ts' := by
  cases h with
  | nl => exact absurd rfl h1
  | sp => exact absurd rfl h2
  | cm => exact absurd rfl h3
  | part _ _ _ a b c d => exact ⟨_, _, _, _, _, a, b, c, d, rfl⟩
def ToksIn (H : Hp) (vs : List V) (ts : List Tok) : Prop := Paired (fun v (t : Tok) => ∃ q, v = V.ref q ∧ H q = some (.tup [.str t.1, t.2.1, .int t.2.2])) vs ts
theorem ToksIn.up {H H' : Hp} (k : ∀ p xs, H p = some (.tup xs) → H' p = some (.tup xs)) {vs : List V} {ts : List Tok} (h : ToksIn H vs ts) : ToksIn H' vs ts := Paired.mapP h fun _ _ ⟨q, e, z⟩ => ⟨q, e, k _ _ z⟩
theorem Paired.snoc {α β : Type} {F : α → β → Prop} : ∀ {xs : List α} {ys : List β} {x : α} {y : β}, Paired F xs ys → F x y → Paired F (xs ++ [x]) (ys ++ [y])
  | _, _, _, _, .nil, h => .cons h .nil
  | _, _, _, _, .cons a t, h => .cons a (Paired.snoc t h)
theorem tokOf_pos {p : List Nat} {kd : Str} {v : V} (h : TokOf p kd v) : 0 < p.length := by
  cases h with
  | @sign z hz =>
    have : (SIG.all fun z => decide (0 < z.cps.toList.length)) = true := by decide +kernel
    simpa using List.all_eq_true.mp this z hz
  | @word z hz =>
    have : (RES.all fun z => decide (0 < z.cps.toList.length)) = true := by decide +kernel
    simpa using List.all_eq_true.mp this z hz
  | name => exact Nat.succ_pos _
  | @num n _ => exact List.length_pos_iff.mpr (TL.numL_ne n)
def sp_tokenize : Sp := fun vs H Q _ => ∃ (cs : List Nat) (ts : List Tok) (m : Int), vs = [.str (Tx cs)] ∧ cs.length ≤ 90000 ∧ Tk cs 1 ts m ∧ ∀ p H' ws, H p = none → Ex H H' → H' p = some (.lst ws) → ToksIn H' ws (ts ++ [(("end" : Str), V.str "", m)]) → Q (.ref p) H'
theorem ok_tokenize (T : Glo K mg) (D : Dn K mg "tokenize" s_tokenize p_tokenize) (G_comment_end : Cal P w K mg base "comment_end" 1 p_comment_end sp_cend) (G_part_at : Cal P w K mg base "part_at" 2 p_part_at sp_part) (G_token_of : Cal P w K mg base "token_of" 3 p_token_of sp_token) :
    Cal P w K mg base "tokenize" 4 p_tokenize sp_tokenize := by
  refine D.ok sc_tokenize (fun vs H Q E h => ?_) (fun f cdv A outer s H vs Q E hr h => ?_)
  · obtain ⟨_, _, _, rfl, _⟩ := h
    rfl
  obtain ⟨cs, ts, m, rfl, hl, ht, q⟩ := h
  refine ⟨_, (pss_cons (ps_set (i := 1) sc_tokenize.nd rfl (by first | exact Or.inl rfl | exact Or.inr rfl) (pe_lst pa_nil)) (pss_cons (ps_set (i := 2) sc_tokenize.nd rfl (by first | exact Or.inl rfl | exact Or.inr rfl) pe_int) (pss_cons (ps_set (i := 3) sc_tokenize.nd rfl (by first | exact Or.inl rfl | exact Or.inr rfl) pe_int) (pss_cons (ps_while PassesOwn.never (pt_cmpR op_lt (pv 3) (pe_callB call_lenA rfl T.n_len (by decide +kernel) (pa_cons (pv 0) pa_nil)) (nomark _)) (pss_one (ps_if (pt_cmpR (op_eqA (hu64 hr)) (pe_ix ix_seq (pv 0) (pv 3) (fun _ _ => rfl)) pe_str (nomark _)) (pss_cons (ps_aug (i := 2) sc_tokenize.nd rfl (by first | exact Or.inl rfl | exact Or.inr rfl) pe_int ip_add) (pss_one (ps_aug (i := 3) sc_tokenize.nd rfl (by first | exact Or.inl rfl | exact Or.inr rfl) pe_int ip_add))) (pss_one (ps_if (pt_cmpR (op_eqA (hu64 hr)) (pe_ix ix_seq (pv 0) (pv 3) (fun _ _ => rfl)) pe_str (nomark _)) (pss_one (ps_aug (i := 3) sc_tokenize.nd rfl (by first | exact Or.inl rfl | exact Or.inr rfl) pe_int ip_add)) (pss_one (ps_if (pt_cmpR (op_eqA (hu64 hr)) (pe_ix ix_seq (pv 0) (pv 3) (fun _ _ => rfl)) pe_str (nomark _)) (pss_one (ps_set (i := 3) sc_tokenize.nd rfl (by first | exact Or.inl rfl | exact Or.inr rfl) (pe_cal G_comment_end (hr.mono (by walk_at "lev")) rfl (pa_cons (pv 0) (pa_cons (pv 3) pa_nil))))) (pss_cons (ps_set (i := 4) sc_tokenize.nd rfl (by first | exact Or.inl rfl | exact Or.inr rfl) (pe_cal G_part_at (hr.mono (by walk_at "lev")) rfl (pa_cons (pv 0) (pa_cons (pv 3) pa_nil)))) (pss_cons (ps_expr (pe_bm PySem.F.plainAttrs_list PySem.F.slot_list_append PySem.F.type_list_append mt_append (pv 1) (pa_cons (pe_cal G_token_of (hr.mono (by walk_at "lev")) rfl (pa_cons (pv 4) (pa_cons (pv 2) pa_nil))) pa_nil))) (pss_one (ps_aug (i := 3) sc_tokenize.nd rfl (by first | exact Or.inl rfl | exact Or.inr rfl) (pe_callB call_lenA rfl T.n_len (by decide +kernel) (pa_cons (pv 4) pa_nil)) ip_add))))))))))) (pss_cons (ps_expr (pe_bm PySem.F.plainAttrs_list PySem.F.slot_list_append PySem.F.type_list_append mt_append (pv 1) (pa_cons (pe_tup (pa_cons pe_str (pa_cons pe_str (pa_cons (pv 2) pa_nil)))) pa_nil))) (pss_one (ps_ret (pv 1)))))))), ?_⟩
  try dsimp only [cxOf, Cx.nox]
  repeat' walk_at "st"
  obtain ⟨fa, rfl⟩ : ∃ fa, fa = p := ⟨p, rfl⟩
  have hfa := hp
  refine w_while (fun z σ H' => ∃ (k : Nat) (n : Int) (done rest : List Tok) (ws : List V) (y : Option V), z = cs.length - k ∧ k ≤ cs.length ∧ σ = [some (.str (Tx cs)), some (.ref fa), some (.int n), some (.int k), y] ∧ Tk (cs.drop k) n rest m ∧ ts = done ++ rest ∧ Ex H H' ∧
    H' fa = some (.lst ws) ∧ ToksIn H' ws done ∧ ws.length ≤ k) cs.length ⟨0, 1, [], ts, [], none, by omega, by omega, rfl, ht, rfl, ke, hn, .nil, by simp⟩ ?_ ?_
  · rintro z σ H' ⟨k, n, done, rest, ws, y, rfl, hk, rfl, htk, he, hex, hp', hin, hwl⟩
    repeat' walk_at "st"
    refine q_lenS (by rw [T_len]; omega) ?_
    rw [T_len]
    by_cases hlt : k < cs.length
    · have hd : cs.drop k = cs[k] :: cs.drop (k + 1) := List.drop_eq_getElem_cons hlt
      have hat : atI (Tx cs).cps.toList (k : Int) = some cs[k] := atI_nat (List.getElem?_eq_getElem hlt)
      repeat' walk_at "st"
      refine q_ixS (by rw [T_len]; omega) hat ?_
      repeat' walk_at "st"
      · rename_i e
        have e10 : cs[k] = 10 := by have := T_inj (a := [cs[k]]) (b := [10]) e; simpa using this
        rw [hd, e10] at htk
        cases htk with
        | nl htk => exact ⟨_, by omega, k + 1, n + 1, done, rest, ws, y, rfl, by omega, rfl, htk, he, hex, hp', hin, by omega⟩
        | part h1 => exact absurd rfl h1
      · rename_i e
        have n10 : cs[k] ≠ 10 := fun z => e (by rw [z]; decide +kernel)
        refine q_ixS (by rw [T_len]; omega) hat ?_
        repeat' walk_at "st"
        · rename_i e
          have e32 : cs[k] = 32 := by have := T_inj (a := [cs[k]]) (b := [32]) e; simpa using this
          rw [hd, e32] at htk
          cases htk with
          | sp htk => exact ⟨_, by omega, k + 1, n, done, rest, ws, y, rfl, by omega, rfl, htk, he, hex, hp', hin, by omega⟩
          | part h1 h2 => exact absurd rfl h2
        · rename_i e
          have n32 : cs[k] ≠ 32 := fun z => e (by rw [z]; decide +kernel)
          refine q_ixS (by rw [T_len]; omega) hat ?_
          repeat' walk_at "st"
          · rename_i e
            have e35 : cs[k] = 35 := by have := T_inj (a := [cs[k]]) (b := [35]) e; simpa using this
            refine c_cend (by omega) (by omega) ?_
            repeat' walk_at "st"
            rw [hd, e35] at htk
            have hr : restNl (cs.drop k) = 35 :: restNl (cs.drop (k + 1)) := by
              rw [hd, e35]
              unfold restNl
              rw [List.takeWhile_cons, if_pos (by decide)]
            have hle : (restNl (cs.drop (k + 1))).length ≤ (cs.drop (k + 1)).length := (List.takeWhile_prefix _).length_le
            rw [List.length_drop] at hle
            rw [hr, List.length_cons]
            cases htk with
            | cm htk =>
              rw [List.drop_drop] at htk
              exact ⟨_, by omega, k + ((restNl (cs.drop (k + 1))).length + 1), n, done, rest, ws, y, rfl, by omega, rfl, by rw [show k + ((restNl (cs.drop (k + 1))).length + 1) = k + 1 + (restNl (cs.drop (k + 1))).length by omega]; exact htk, he, hex, hp', hin, by omega⟩
            | part h1 h2 h3 => exact absurd rfl h3
          · rename_i e
            have n35 : cs[k] ≠ 35 := fun z => e (by rw [z]; decide +kernel)
            refine c_part hlt (by omega) ?_
            repeat' walk_at "st"
            refine q_tyL hp' ?_
            repeat' walk_at "st"
            have hcs : cs.length - k = (cs.drop k).length := (List.length_drop).symm
            rw [hd] at htk
            obtain ⟨pp, rst, kd, v, ts', hpl, hsp, hto, htk2, rfl⟩ := htk.inv_part n10 n32 n35
            · skip
              have hlen : pp.length + rst.length = cs.length - k := by
                rw [hcs, hd, hsp, List.length_append]
              have hpos := tokOf_pos hto
              rw [hd, hpl]
              refine c_token (by omega) hto ?_
              intro q1 H1 hq1 e1 h1'
              repeat' walk_at "st"
              refine q_append (e1 _ _ hp') (by omega) ?_
              repeat' walk_at "st"
              refine q_lenS (by rw [T_len]; omega) ?_
              rw [T_len]
              repeat' walk_at "st"
              have hdr : cs.drop (k + pp.length) = rst := by
                rw [← List.drop_drop, hd, hsp, List.drop_left]
              have npq : q1 ≠ fa := fun z => by rw [z] at hq1; rw [hq1] at hp'; cases hp'
              refine ⟨_, by omega, k + pp.length, n, done ++ [(kd, v, n)], ts', ws ++ [.ref q1], _, rfl, by omega, rfl, by rw [hdr]; exact htk2, by rw [he, List.append_assoc]; rfl, ?_, upd_same, ?_, by rw [List.length_append]; simp; omega⟩
              · intro b u hb
                rw [upd_ne (ne_of_none hb hfa)]
                exact e1 _ _ (hex _ _ hb)
              · have tupk : ∀ b xs, H' b = some (.tup xs) → upd H1 fa (.lst (ws ++ [.ref q1])) b = some (.tup xs) := fun b xs hb => by
                  rw [upd_ne (fun z => by rw [z, hp'] at hb; cases hb)]
                  exact e1 _ _ hb
                exact Paired.snoc (hin.up tupk) ⟨q1, rfl, by rw [upd_ne npq]; exact h1'⟩
    · have hk' : k = cs.length := by omega
      repeat' walk_at "st"
      refine q_tyL hp' ?_
      repeat' walk_at "st"
      have hd : cs.drop k = [] := List.drop_eq_nil_of_le (by omega)
      rw [hd] at htk
      cases htk
      rw [List.append_nil] at he
      subst he
      refine q_append (ke _ _ hp') (by omega) ?_
      repeat' walk_at "st"
      have npq : p ≠ fa := fun z => by rw [z] at hp; rw [hp] at hp'; cases hp'
      refine q _ _ _ hfa ?_ upd_same (Paired.snoc (hin.up ?_) ⟨p, rfl, by rw [upd_ne npq]; exact hn⟩)
      · intro b u hb
        rw [upd_ne (ne_of_none hb hfa)]
        exact ke _ _ (hex _ _ hb)
      · intro b xs hb
        rw [upd_ne (fun z => by rw [z, hp'] at hb; cases hb)]
        exact ke _ _ hb
  · intro σ H Q Q' hQ h
    exact mo_test (mo_op mo_I0 mo_var (mo_cb mo_lenA (mo_cons mo_var mo_nil))) _ _ _ _ hQ h
abbrev s__law_state : Stmt := topS 21
theorem sc__law_state : FnScope ["script", "seed", "cell"] ["script"] (defScope s__law_state) := ⟨rfl, rfl, rfl, by decide +kernel, rfl, by decide +kernel, by decide +kernel⟩
abbrev p__law_state : List Str := ["script"]
abbrev s__law_draw : Stmt := topS 22
theorem sc__law_draw : FnScope ["state", "many", "cells", "mixed", "number"] ["state", "many"] (defScope s__law_draw) := ⟨rfl, rfl, rfl, by decide +kernel, rfl, by decide +kernel, by decide +kernel⟩
abbrev p__law_draw : List Str := ["state", "many"]
abbrev s__law_pick : Stmt := topS 23
theorem sc__law_pick : FnScope ["state", "row"] ["state", "row"] (defScope s__law_pick) := ⟨rfl, rfl, rfl, by decide +kernel, rfl, by decide +kernel, by decide +kernel⟩
abbrev p__law_pick : List Str := ["state", "row"]
/-! ### the draws' state -/
structure StOk (st c : Addr) (H : Hp) : Prop where
  ex : ∃ (ns : List Int) (s : Int), H st = some (.lst [.ref c, .int s]) ∧ H c = some (.lst (ns.map V.int)) ∧ (∀ n ∈ ns, 0 ≤ n) ∧ 0 ≤ s ∧ s < 2147483648
  ne : c ≠ st
theorem st_ex {st c : Addr} {H H' : Hp} (e : Ex H H') (h : StOk st c H) : StOk st c H' := by
  obtain ⟨⟨ns, s, a, b, d⟩, n⟩ := h
  exact ⟨⟨ns, s, e _ _ a, e _ _ b, d⟩, n⟩
/-- a fresh address is neither -/
theorem st_fresh {st c p : Addr} {H : Hp} (h : StOk st c H) (hp : H p = none) : p ∉ [st, c] := by
  obtain ⟨⟨ns, s, a, b, d⟩, n⟩ := h
  simp only [List.mem_cons, List.not_mem_nil, or_false, not_or]
  exact ⟨(ne_of_none a hp).symm, (ne_of_none b hp).symm⟩
local macro_rules | `(tactic| walk_at "st_ok") => `(tactic| first
  | assumption
  | (refine st_ex (by assumption) ?_; walk_at "st_ok"))
local macro_rules | `(tactic| walk_at "nin") => `(tactic| first
  | assumption
  | (refine st_fresh (H := ?H) ?a ?b; (case b => assumption); (case a => walk_at "st_ok")))
local macro_rules | `(tactic| walk_at "kp") => `(tactic| first
  | assumption
  | exact Kp.refl _
  | (refine Kp.trans ?_ (by assumption); walk_at "kp")
  | (refine Kp.trans ?_ (Ex.kp (by assumption)); walk_at "kp"))
theorem int_mod (a : Int) {m : Int} (h : 0 < m) : 0 ≤ a % m ∧ a % m < m := ⟨Int.emod_nonneg _ (by omega), Int.emod_lt_of_pos _ h⟩
def sp_state (K : PySem.W.Frag) : Sp := fun vs H Q _ => ∃ (a : Addr) (ns : List Int), vs = [.ref a] ∧ SqL K H a (ns.map V.int) ∧ ns.length ≤ 63 ∧ ∀ st c H', Ex H H' → H st = none → H c = none → StOk st c H' → Q (.ref st) H'
theorem ex_sql {H H' : Hp} {a : Addr} {xs : List V} (e : Ex H H') (h : SqL K H a xs) : SqL K H' a xs := e.same.seq h
theorem abs_nn (i : Int) : 0 ≤ (if i < 0 then -i else i) := by split <;> omega
theorem ok_state (T : Glo K mg) (D : Dn K mg "_law_state" s__law_state p__law_state) : Cal P w K mg base "_law_state" 1 p__law_state (sp_state K) := by
  refine D.ok sc__law_state (fun vs H Q E h => ?_) (fun f cdv A outer s H vs Q E hr h => ?_)
  · obtain ⟨_, _, rfl, _⟩ := h
    rfl
  obtain ⟨a, ns, rfl, hs, hl, q⟩ := h
  refine ⟨_, (pss_cons (ps_set (i := 1) sc__law_state.nd rfl (by first | exact Or.inl rfl | exact Or.inr rfl) pe_int) (pss_cons (ps_for PassesOwn.never rfl (pi_list (pv 0)) (pg_name (i := 2) sc__law_state.nd rfl (by first | exact Or.inl rfl | exact Or.inr rfl)) (pss_one (ps_set (i := 1) sc__law_state.nd rfl (by first | exact Or.inl rfl | exact Or.inr rfl) (pe_op op_mod (pe_callTy call_intA rfl T.n_int (by decide +kernel) (pa_cons (pe_op op_addA (pe_op op_mul (pv 1) pe_int) (pv 2)) pa_nil)) pe_int)))) (pss_one (ps_ret (pe_lst (pa_cons (pe_lc (own := [("cell", 2)]) (tt := tYes) rfl sc__law_state.nd (pi_list (pv 0)) (blkOk_by (N := ["script", "seed", "cell"]) (sc := defScope s__law_state) (by decide +kernel)) (fun _ _ _ _ _ => (pg_name (i := 2) sc__law_state.nd rfl (by first | exact Or.inl rfl | exact Or.inr rfl))) (fun _ _ _ _ _ => pts_nil) (fun _ _ _ _ _ => (pe_callB call_absA rfl T.n_abs (by decide +kernel) (pa_cons (pv 2) pa_nil)))) (pa_cons (pe_op op_addA (pv 1) pe_int) pa_nil))))))), ?_⟩
  try dsimp only [cxOf, Cx.nox]
  repeat' walk_at "st"
  refine w_list (xs := ns.map V.int) (fun i σ H' => H' = H ∧ ∃ (z : Int) (y : Option V), σ = [some (.ref a), some (.int z), y] ∧ 0 ≤ z ∧ z < 1000003) ?_ ?_ ?_ ?_
  · exact ⟨rfl, 7, none, rfl, by decide, by decide⟩
  · rintro i σ H' _ ⟨rfl, _⟩
    exact hs
  · rintro i x σ H' hx ⟨rfl, z, y, rfl, z0, z1⟩
    rw [List.getElem?_map] at hx
    obtain ⟨n, hn, rfl⟩ := Option.map_eq_some_iff.mp hx
    repeat' walk_at "st"
    refine ⟨rfl, _, some (.int n), rfl, ?_⟩
    exact int_mod _ (by decide)
  · rintro σ H' ⟨rfl, z, y, rfl, z0, z1⟩
    repeat' walk_at "st"
    intro L hL
    refine lc_list (xs := ns.map V.int) (fun i H2 => Ex H' H2 ∧ H2 L = some (.lst ((ns.take i).map fun n => V.int (if n < 0 then -n else n)))) ?_ ?_ ?_ ?_
    · exact ⟨Ex.mk hL rfl, upd_same⟩
    · rintro i H2 _ ⟨e, _⟩
      exact ex_sql e hs
    · rintro i x H2 hx ⟨e, h2⟩
      rw [List.getElem?_map] at hx
      obtain ⟨n, hn, rfl⟩ := Option.map_eq_some_iff.mp hx
      refine ⟨rfl, ?_⟩
      repeat' walk_at "st"
      refine ⟨_, h2, sl1000' ?_, ?_, ?_⟩
      · rw [List.length_map, List.length_take]
        omega
      · intro b u hb
        rw [upd_ne (ne_of_none hb hL)]
        exact e _ _ hb
      · rw [upd_same, List.take_add_one, hn, List.map_append]
        rfl
    · rintro H2 ⟨e, h2⟩
      repeat' walk_at "st"
      rw [List.take_of_length_le (by rw [List.length_map]; exact Nat.le_refl _)] at h2
      refine q p L _ (e.trans ke) (free_back e hp) hL ⟨⟨ns.map fun n => (if n < 0 then -n else n), z + 1, hn, ?_, ?_, by omega, by omega⟩, ?_⟩
      · rw [List.map_map]
        exact ke _ _ h2
      · intro n hn
        obtain ⟨m, _, rfl⟩ := List.mem_map.mp hn
        exact abs_nn m
      · exact ne_of_none h2 hp
def sp_draw : Sp := fun vs H Q _ => ∃ (st c : Addr) (many : Int), vs = [.ref st, .int many] ∧ StOk st c H ∧ 0 < many ∧ many < 1073741824 ∧ ∀ (n : Int) (H' : Hp), 0 ≤ n → n < many → Kp [st, c] H H' → StOk st c H' → Q (.int n) H'
theorem ok_draw (T : Glo K mg) (D : Dn K mg "_law_draw" s__law_draw p__law_draw) : Cal P w K mg base "_law_draw" 1 p__law_draw sp_draw := by
  refine D.ok sc__law_draw (fun vs H Q E h => ?_) (fun f cdv A outer s H vs Q E hr h => ?_)
  · obtain ⟨_, _, _, rfl, _⟩ := h
    rfl
  obtain ⟨st, c, many, rfl, ⟨⟨ns, z, hst, hc, hn, z0, z1⟩, hne⟩, m0, m1, q⟩ := h
  refine ⟨_, (pss_cons (ps_set (i := 2) sc__law_draw.nd rfl (by first | exact Or.inl rfl | exact Or.inr rfl) (pe_ix ix_seq (pv 0) pe_int (fun _ _ => rfl))) (pss_cons (ps_while PassesOwn.never (PW.pt (pw_and (pt_cmpR op_gt (pe_callB call_lenA rfl T.n_len (by decide +kernel) (pa_cons (pv 2) pa_nil)) pe_int (nomark _)) (pw_and1 (pt_cmpR (op_eqA (hu64 hr)) (pe_ix ix_seq (pv 2) pe_int (fun _ _ => rfl)) pe_int (nomark _))))) (pss_one (ps_expr (pe_bm PySem.F.plainAttrs_list PySem.F.slot_list_pop PySem.F.type_list_pop mt_popAt (pv 2) (pa_cons pe_int pa_nil))))) (pss_cons (ps_if (pt_cmpR op_gt (pe_callB call_lenA rfl T.n_len (by decide +kernel) (pa_cons (pv 2) pa_nil)) pe_int (nomark _)) (pss_cons (ps_set (i := 4) sc__law_draw.nd rfl (by first | exact Or.inl rfl | exact Or.inr rfl) (pe_ix ix_seq (pv 2) pe_int (fun _ _ => rfl))) (pss_cons (ps_asg (pe_op op_fdiv (pv 4) (pv 1)) (pg_sub (pv 2) pe_int set_list)) (pss_one (ps_ret (pe_op op_mod (pe_callTy call_intA rfl T.n_int (by decide +kernel) (pa_cons (pv 4) pa_nil)) (pv 1)))))) pss_nil) (pss_cons (ps_set (i := 3) sc__law_draw.nd rfl (by first | exact Or.inl rfl | exact Or.inr rfl) (pe_op op_mod (pe_callTy call_intA rfl T.n_int (by decide +kernel) (pa_cons (pe_op op_addA (pe_op op_mul (pe_ix ix_seq (pv 0) pe_int (fun _ _ => rfl)) pe_int) pe_int) pa_nil)) pe_int)) (pss_cons (ps_asg (pv 3) (pg_sub (pv 0) pe_int set_list)) (pss_one (ps_ret (pe_op op_mod (pe_callTy call_intA rfl T.n_int (by decide +kernel) (pa_cons (pe_op op_fdiv (pv 3) pe_int) pa_nil)) (pv 1))))))))), ?_⟩
  try dsimp only [cxOf, Cx.nox]
  repeat' walk_at "st"
  refine w_while (fun m σ H' => ∃ ns' : List Int, m = ns'.length ∧ σ = [some (.ref st), some (.int many), some (.ref c), none, none] ∧ H' st = some (.lst [.ref c, .int z]) ∧ H' c = some (.lst (ns'.map V.int)) ∧ (∀ n ∈ ns', 0 ≤ n) ∧ Kp [st, c] H H') ns.length ⟨ns, rfl, rfl, hst, hc, hn, Kp.refl _⟩ ?_ ?_
  · rintro m σ H' ⟨ns', rfl, rfl, h1, h2, h3, h4⟩
    have mc : c ∈ [st, c] := by simp
    have mst : st ∈ [st, c] := by simp
    have ht : ∀ xs, H' st ≠ some (.tup xs) := fun xs e => by rw [h1] at e; cases e
    have hu : ∀ xs, H' c ≠ some (.tup xs) := fun xs e => by rw [h2] at e; cases e
    cases ns' with
    | nil =>
      repeat' walk_at "st"
      refine q_setL (j := 1) h1 rfl ?_
      generalize hq : upd H' st _ = H2
      repeat' walk_at "st"
      have hz := int_mod (z * 48271 + 12345) (m := 2147483647) (by decide)
      refine q _ H2 (int_mod _ m0).1 (int_mod _ m0).2 (h4.trans (Kp.set mst ht hq)) ⟨⟨[], _, at_new hq, ?_, h3, hz.1, Int.lt_trans hz.2 (by decide)⟩, hne⟩
      rw [← hq, upd_ne hne]
      exact h2
    | cons n r =>
      rw [List.map_cons] at h2
      have hn0 := h3 n (List.mem_cons_self ..)
      have hr0 : ∀ n ∈ r, 0 ≤ n := fun k hk => h3 k (List.mem_cons_of_mem _ hk)
      repeat' walk_at "st"
      · refine q_tyL h2 ?_
        repeat' walk_at "st"
        refine q_pop0 h2 ?_
        refine ⟨r.length, Nat.lt_succ_self _, r, rfl, rfl, ?_, upd_same, hr0, h4.trans (Kp.set mc hu rfl)⟩
        rw [upd_ne (Ne.symm hne)]
        exact h1
      · refine q_setL (j := 0) h2 ix0 ?_
        generalize hq : upd H' c _ = H2
        repeat' walk_at "st"
        refine q _ H2 (int_mod _ m0).1 (int_mod _ m0).2 (h4.trans (Kp.set mc hu hq)) ⟨⟨n / many :: r, z, ?_, at_new hq, ?_, z0, z1⟩, hne⟩
        · rw [← hq, upd_ne (Ne.symm hne)]
          exact h1
        · intro k hk
          rcases List.mem_cons.mp hk with rfl | hk
          · exact Int.ediv_nonneg hn0 (by omega)
          · exact hr0 _ hk
  · intro σ H Q Q' hQ h
    exact mo_and (mo_test (mo_op mo_I0 (mo_cb mo_lenA (mo_cons mo_var mo_nil)) mo_c)) (mo_test (mo_op mo_eqA (mo_op mo_ix mo_var mo_c) mo_c)) _ _ _ _ hQ h
theorem c_draw {st c : Addr} {many : Int} {H : Hp} {Q : VK} {E : XK} (h1 : StOk st c H) (h2 : 0 < many ∧ many < 1073741824) (q : ∀ (n : Int) (H' : Hp), 0 ≤ n → n < many → Kp [st, c] H H' → StOk st c H' → Q (.int n) H') :
    sp_draw [.ref st, .int many] H Q E := ⟨st, c, many, rfl, h1, h2.1, h2.2, q⟩
set_option hygiene false in
local macro_rules | `(tactic| walk_at "i_c_draw") => `(tactic| intro dn Hn n0 n1 ke so)
local macro_rules | `(tactic| walk_at "own") => `(tactic| (refine c_draw (c := ?c) ?a ?b ?_; (case a => walk_at "st_ok"); (case b => walk_at "arx2"); walk_at "i_c_draw"))
local macro_rules | `(tactic| walk_at "arx2") => `(tactic| first
  | (refine And.intro ?_ ?_ <;> omega)
  | (simp only [List.length_cons, List.length_nil, List.length_map]; refine And.intro ?_ ?_ <;> omega)
  | (refine And.intro ?_ ?_ <;> decide +kernel))
def sp_pick (K : PySem.W.Frag) : Sp := fun vs H Q _ => ∃ (st c a : Addr) (xs : List V), vs = [.ref st, .ref a] ∧ StOk st c H ∧ H a = some (.lst xs) ∧ a ∉ [st, c] ∧ 0 < xs.length ∧ xs.length < 1000000 ∧ ∀ (i : Nat) (v : V) (H' : Hp), xs[i]? = some v → Kp [st, c] H H' → StOk st c H' → Q v H'
theorem ok_pick (T : Glo K mg) (D : Dn K mg "_law_pick" s__law_pick p__law_pick) (G__law_draw : Cal P w K mg base "_law_draw" 1 p__law_draw sp_draw) : Cal P w K mg base "_law_pick" 2 p__law_pick (sp_pick K) := by
  refine D.ok sc__law_pick (fun vs H Q E h => ?_) (fun f cdv A outer s H vs Q E hr h => ?_)
  · obtain ⟨_, _, _, _, rfl, _⟩ := h
    rfl
  obtain ⟨st, c, a, xs, rfl, so, ha, hn, l0, l1, q⟩ := h
  refine ⟨_, (pss_one (ps_ret (pe_ix ix_seq (pv 1) (pe_cal G__law_draw (hr.mono (by walk_at "lev")) rfl (pa_cons (pv 0) (pa_cons (pe_callB call_lenA rfl T.n_len (by decide +kernel) (pa_cons (pv 1) pa_nil)) pa_nil))) (fun _ _ => rfl)))), ?_⟩
  try dsimp only [cxOf, Cx.nox]
  repeat' walk_at "st"
  obtain ⟨v, e1, e2⟩ := at_i (n := dn) n0 n1
  exact q_ixL (sql (ke.out _ _ hn ha)) e2 (q _ v Hn e1 ke so)
theorem c_pick {st c a : Addr} {xs : List V} {H : Hp} {Q : VK} {E : XK} (h1 : StOk st c H) (h2 : H a = some (.lst xs)) (h3 : a ∉ [st, c]) (h4 : 0 < xs.length ∧ xs.length < 1000000) (q : ∀ (i : Nat) (v : V) (H' : Hp), xs[i]? = some v → Kp [st, c] H H' → StOk st c H' → Q v H') :
    sp_pick K [.ref st, .ref a] H Q E := ⟨st, c, a, xs, rfl, h1, h2, h3, h4.1, h4.2, q⟩
set_option hygiene false in
local macro_rules | `(tactic| walk_at "i_c_pick") => `(tactic| intro j v Hn ej ke so)
local macro_rules | `(tactic| walk_at "own") => `(tactic| (refine c_pick (c := ?c) (xs := ?xs) ?a ?b ?e ?d ?_; (case b => walk_at "lift"); (case a => walk_at "st_ok"); (case e => walk_at "nin"); (case d => walk_at "arx2"); walk_at "i_c_pick"))
abbrev s__law_words : Stmt := topS 24
theorem sc__law_words : FnScope ["text"] [] (defScope s__law_words) := ⟨rfl, rfl, rfl, by decide +kernel, rfl, by decide +kernel, by decide +kernel⟩
abbrev p__law_words : List Str := []
abbrev s__law_signs : Stmt := topS 25
theorem sc__law_signs : FnScope [] [] (defScope s__law_signs) := ⟨rfl, rfl, rfl, by decide +kernel, rfl, by decide +kernel, by decide +kernel⟩
abbrev p__law_signs : List Str := []
abbrev s__law_any_name : Stmt := topS 26
theorem sc__law_any_name : FnScope ["state", "letters", "name", "k"] ["state"] (defScope s__law_any_name) := ⟨rfl, rfl, rfl, by decide +kernel, rfl, by decide +kernel, by decide +kernel⟩
abbrev p__law_any_name : List Str := ["state"]
abbrev s__law_piece : Stmt := topS 27
theorem sc__law_piece : FnScope ["state", "kind", "sign", "word", "n", "name"] ["state"] (defScope s__law_piece) := ⟨rfl, rfl, rfl, by decide +kernel, rfl, by decide +kernel, by decide +kernel⟩
abbrev p__law_piece : List Str := ["state"]
abbrev s__law_gap : Stmt := topS 28
theorem sc__law_gap : FnScope ["state", "kind"] ["state"] (defScope s__law_gap) := ⟨rfl, rfl, rfl, by decide +kernel, rfl, by decide +kernel, by decide +kernel⟩
abbrev p__law_gap : List Str := ["state"]
abbrev s__law_apart : Stmt := topS 29
theorem sc__law_apart : FnScope ["before", "behind"] ["before", "behind"] (defScope s__law_apart) := ⟨rfl, rfl, rfl, by decide +kernel, rfl, by decide +kernel, by decide +kernel⟩
abbrev p__law_apart : List Str := ["before", "behind"]
abbrev s__law_line : Stmt := topS 30
theorem sc__law_line : FnScope ["text", "char"] ["text"] (defScope s__law_line) := ⟨rfl, rfl, rfl, by decide +kernel, rfl, by decide +kernel, by decide +kernel⟩
abbrev p__law_line : List Str := ["text"]
abbrev s__law_same : Stmt := topS 31
theorem sc__law_same : FnScope ["actual", "due", "k"] ["actual", "due"] (defScope s__law_same) := ⟨rfl, rfl, rfl, by decide +kernel, rfl, by decide +kernel, by decide +kernel⟩
abbrev p__law_same : List Str := ["actual", "due"]
abbrev s_law : Stmt := topS 32
theorem sc_law : FnScope ["script", "state", "text", "due", "pieces", "k", "piece", "told"] ["script"] (defScope s_law) := ⟨rfl, rfl, rfl, by decide +kernel, rfl, by decide +kernel, by decide +kernel⟩
abbrev p_law : List Str := ["script"]
def rSplitN : V → List V → Hp → VK → Prop := fun x xs H Q => ∃ a b, x = .str a ∧ xs = [.str b] ∧ (b.length == 0) = false ∧ a.length + 2 ≤ sizeLine ∧ rNewStrs (Txt.split a b) H Q
theorem mt_splitA {X : Cx} : MtR X "str.split" rSplitN := mt_split
def rAllN (K : PySem.W.Frag) : List V → Hp → VK → Prop := rAll K
theorem call_allA {X : Cx} (hc : X.calm = true) : CallR X (.builtin "all") (rAllN X.K) := cr_all hc
def rMulS : R2 := fun x y H Q => ∃ (c : Nat) (n : Nat), x = .str (Tx [c]) ∧ y = .int (n : Int) ∧ 1 ≤ n ∧ n ≤ 8 ∧ Q (.str (Tx (List.replicate n c))) H
theorem op_mulS {X : Cx} : OpR X (binaryOp .Mult) rMulS := by
  intro pins s σ H x y v u Q I rx ry h
  obtain ⟨z, n, rfl, rfl, h1, h8, q⟩ := h
  obtain ⟨t, rfl⟩ := rx
  obtain ⟨t', rfl⟩ := ry
  have hn : n = 1 ∨ n = 2 ∨ n = 3 ∨ n = 4 ∨ n = 5 ∨ n = 6 ∨ n = 7 ∨ n = 8 := by omega
  rcases hn with rfl | rfl | rfl | rfl | rfl | rfl | rfl | rfl
  · refine PySem.P.mul_str (by decide) (fun _ _ => by simp only [T_len, List.length_singleton]; decide) (fun _ _ => by simp only [T_len, List.length_singleton]; decide) ?_
    rw [if_neg (by decide), if_pos (by rfl)]
    exact ⟨.str (Tx [z]), H, I, ⟨t, rfl⟩, q⟩
  all_goals
    refine PySem.P.mul_str (by decide) (fun _ _ => by simp only [T_len, List.length_singleton]; decide) (fun _ _ => by simp only [T_len, List.length_singleton]; decide) ?_
    rw [if_neg (by decide), if_neg (by simp only [T_len, List.length_singleton]; decide)]
    refine ⟨?_, .str _, H, I.tok _, ⟨_, rfl⟩, q⟩
    refine Nat.le_trans (m := 8) ?_ (by decide)
    first | (show 2 ≤ 8; decide) | (show 3 ≤ 8; decide) | (show 4 ≤ 8; decide) | (show 5 ≤ 8; decide) | (show 6 ≤ 8; decide) | (show 7 ≤ 8; decide) | (show 8 ≤ 8; decide)
theorem q_split {z : Str} {b : Nat} {l : List Str} {H : Hp} {Q : VK} (e : Txt.split z (Tx [b]) = l) (hz : z.length ≤ 1000) (q : ∀ p Hn, H p = none → Ex H Hn → Hn p = some (.lst (l.map V.str)) → Q (.ref p) Hn) : rSplitN (.str z) [.str (Tx [b])] H Q :=
  ⟨z, Tx [b], rfl, rfl, rfl, Nat.le_trans (Nat.add_le_add_right hz 2) (by decide), fun p hp => q p _ hp (Ex.mk hp rfl) (by rw [upd_same, e])⟩
def SIG2 : List Str := ["{", "}", "(", ")", "[", "]", ";", ",", "=", "==", "!=", "<", "<=", "+", "-", "*", "/"]
def sp_strs (l : List Str) : Sp := fun vs H Q _ => vs = [] ∧ ∀ p Hn, H p = none → Ex H Hn → Hn p = some (.lst (l.map V.str)) → Q (.ref p) Hn
theorem c_strs {l : List Str} {H : Hp} {Q : VK} {E : XK} (q : ∀ p Hn, H p = none → Ex H Hn → Hn p = some (.lst (l.map V.str)) → Q (.ref p) Hn) : sp_strs l [] H Q E := ⟨rfl, q⟩
theorem ok_words (T : Glo K mg) (D : Dn K mg "_law_words" s__law_words p__law_words) : Cal P w K mg base "_law_words" 1 p__law_words (sp_strs RES) := by
  refine D.ok sc__law_words (fun vs H Q E h => ?_) (fun f cdv A outer s H vs Q E hr h => ?_)
  · obtain ⟨rfl, _⟩ := h
    rfl
  obtain ⟨rfl, q⟩ := h
  refine ⟨_, (pss_cons (ps_set (i := 0) sc__law_words.nd rfl (by first | exact Or.inl rfl | exact Or.inr rfl) pe_str) (pss_one (ps_ret (pe_bm PySem.F.plainAttrs_str PySem.F.slot_str_split PySem.F.type_str_split mt_splitA (pe_op op_addA (pv 0) pe_str) (pa_cons pe_str pa_nil))))), ?_⟩
  try dsimp only [cxOf, Cx.nox]
  repeat' walk_at "st"
  refine .inr (.inl ⟨_, _, rfl, rfl, by decide +kernel, ?_⟩)
  repeat' walk_at "st"
  refine q_tyS ?_
  repeat' walk_at "st"
  exact q_split (b := 32) (by decide +kernel) (by decide +kernel) q
theorem ok_signs (T : Glo K mg) (D : Dn K mg "_law_signs" s__law_signs p__law_signs) : Cal P w K mg base "_law_signs" 1 p__law_signs (sp_strs SIG2) := by
  refine D.ok sc__law_signs (fun vs H Q E h => ?_) (fun f cdv A outer s H vs Q E hr h => ?_)
  · obtain ⟨rfl, _⟩ := h
    rfl
  obtain ⟨rfl, q⟩ := h
  refine ⟨_, (pss_one (ps_ret (pe_bm PySem.F.plainAttrs_str PySem.F.slot_str_split PySem.F.type_str_split mt_splitA pe_str (pa_cons pe_str pa_nil)))), ?_⟩
  try dsimp only [cxOf, Cx.nox]
  repeat' walk_at "st"
  refine q_tyS ?_
  repeat' walk_at "st"
  exact q_split (b := 32) (by decide +kernel) (by decide +kernel) q
local macro_rules | `(tactic| walk_at "own") => `(tactic| (refine c_strs ?_; walk_at "i_new"))
theorem q_addS {a b : List Nat} {H : Hp} {Q : VK} (h : a.length + b.length ≤ 100000) (q : Q (.str (Tx (a ++ b))) H) : rAddA K (.str (Tx a)) (.str (Tx b)) H Q := .inr (.inl ⟨Tx a, Tx b, rfl, rfl, by rw [T_len, T_len]; exact sl1000 h, by rw [T_cat]; exact q⟩)
def rStrN : List V → Hp → VK → Prop := fun xs H Q => ∃ i : Int, xs = [V.int i] ∧ i.natAbs.log2 < 1920 ∧ Q (.str (toString i)) H
theorem call_strN {X : Cx} : CallR X (.type "str") rStrN := call_str_int
theorem q_strN {n : Nat} {H : Hp} {Q : VK} (h : n < 65536) (q : Q (.str (Tx (TL.numL n))) H) : rStrN [.int n] H Q := ⟨n, rfl, by
  rw [Int.natAbs_natCast]
  by_cases h0 : n = 0
  · subst h0; decide
  · exact Nat.lt_of_lt_of_le ((Nat.log2_lt h0).mpr (show n < 2 ^ 16 by omega)) (by decide), by
  have e : Str.ofString (toString ((n : Nat) : Int)) = Tx (TL.numL n) := SX.num_S n
  show Q (.str (Str.ofString (toString ((n : Nat) : Int)))) H
  rw [e]
  exact q⟩
theorem let_run {c : Nat} (h : c ∈ LET) : runC c = true := by unfold runC; rw [decide_eq_true h]; rfl
theorem dig_run {c : Nat} (h : c ∈ DIG) : runC c = true := by
  unfold runC
  rw [decide_eq_true h]
  cases decide (c ∈ LET) <;> rfl
theorem q_inStrsL {z : Str} {l : List Str} {p : Addr} {H : Hp} {Q : VK} (h : SqL K H p (l.map V.str)) (q : Q (.bl (decide (z ∈ l))) H) : rIn K false (.str z) (.ref p) H Q :=
  ⟨p, _, rfl, .inl h, rfl, flat_strs l, by rw [if_neg Bool.false_ne_true, inV_strs]; exact q⟩
def NameOk (a : List Nat) : Prop := ∃ c r, a = c :: r ∧ c ∈ LET ∧ (∀ x ∈ a, runC x = true) ∧ a.length ≤ 16 ∧ Tx a ∉ RES
def sp_aname : Sp := fun vs H Q _ => ∃ (st c : Addr), vs = [.ref st] ∧ StOk st c H ∧ ∀ (a : List Nat) (H' : Hp), NameOk a → Kp [st, c] H H' → StOk st c H' → Q (.str (Tx a)) H'
theorem res_no95 : (RES.all fun z => !decide (95 ∈ z.cps.toList)) = true := by decide +kernel
theorem all63 : (LET ++ (DIG ++ [95])).length = 63 := by decide +kernel
theorem run63 : ((LET ++ (DIG ++ [95])).all fun c => runC c) = true := by decide +kernel
theorem ok_aname (T : Glo K mg) (D : Dn K mg "_law_any_name" s__law_any_name p__law_any_name) (G__law_draw : Cal P w K mg base "_law_draw" 1 p__law_draw sp_draw) (G__law_words : Cal P w K mg base "_law_words" 1 p__law_words (sp_strs RES)) :
    Cal P w K mg base "_law_any_name" 2 p__law_any_name sp_aname := by
  refine D.ok sc__law_any_name (fun vs H Q E h => ?_) (fun f cdv A outer s H vs Q E hr h => ?_)
  · obtain ⟨_, _, rfl, _⟩ := h
    rfl
  obtain ⟨st, c, rfl, so, q⟩ := h
  refine ⟨_, (pss_cons (ps_set (i := 1) sc__law_any_name.nd rfl (by first | exact Or.inl rfl | exact Or.inr rfl) pe_str) (pss_cons (ps_set (i := 2) sc__law_any_name.nd rfl (by first | exact Or.inl rfl | exact Or.inr rfl) (pe_ix ix_seq (pv 1) (pe_cal G__law_draw (hr.mono (by walk_at "lev")) rfl (pa_cons (pv 0) (pa_cons pe_int pa_nil))) (fun _ _ => rfl))) (pss_cons (ps_for PassesOwn.never rfl (pi_range1 rfl T.n_range (pa_cons (pe_cal G__law_draw (hr.mono (by walk_at "lev")) rfl (pa_cons (pv 0) (pa_cons pe_int pa_nil))) pa_nil)) (pg_name (i := 3) sc__law_any_name.nd rfl (by first | exact Or.inl rfl | exact Or.inr rfl)) (pss_one (ps_set (i := 2) sc__law_any_name.nd rfl (by first | exact Or.inl rfl | exact Or.inr rfl) (pe_op op_addA (pv 2) (pe_ix ix_seq (pe_op op_addA (pv 1) pe_str) (pe_cal G__law_draw (hr.mono (by walk_at "lev")) rfl (pa_cons (pv 0) (pa_cons pe_int pa_nil))) (fun _ _ => rfl)))))) (pss_one (ps_ret (pe_ifExp (pt_cmpR op_in_seq (pv 2) (pe_cal0 G__law_words (hr.mono (by walk_at "lev")) rfl) (by rfl)) (pe_op op_addA (pv 2) pe_str) (pv 2))))))), ?_⟩
  try dsimp only [cxOf, Cx.nox]
  repeat' walk_at "st"
  have l52 : LET.length = 52 := by decide +kernel
  obtain ⟨c0, hc0, hat⟩ := at_i (xs := LET) (n := dn) n0 (by rw [l52]; exact n1)
  refine q_ixS (by decide +kernel) hat ?_
  have hm0 : c0 ∈ LET := List.mem_of_getElem? hc0
  repeat' walk_at "st"
  rename_i dn0 H1 n00 n10 ke0 so0
  refine w_rng (lo := 0) (n := dn.toNat) (fun i σ H' => ∃ (r : List Nat) (y : Option V), σ = [some (.ref st), some (.str LETs), some (.str (Tx (c0 :: r))), y] ∧ r.length = i ∧ (∀ x ∈ c0 :: r, runC x = true) ∧ Kp [st, c] H H' ∧ StOk st c H') ⟨[], none, rfl, rfl, ?_, by walk_at "kp", so⟩ ?_ ?_
  · intro x hx
    rw [List.mem_singleton.mp hx]
    exact let_run hm0
  · rintro i σ H' hi ⟨r, y, rfl, hr1, hr2, k2, so2⟩
    repeat' walk_at "st"
    have e1 : Str.ofString "0123456789_" = Tx (DIG ++ [95]) := by decide +kernel
    rw [e1]
    refine q_addS (a := LET) (by decide +kernel) ?_
    repeat' walk_at "st"
    obtain ⟨c1, hc1, hat1⟩ := at_i (xs := LET ++ (DIG ++ [95])) (n := dn) n0 (by rw [all63]; exact n1)
    refine q_ixS (by decide +kernel) hat1 ?_
    refine q_addS (a := c0 :: r) (b := [c1]) (by rw [List.length_cons, List.length_singleton]; omega) ?_
    repeat' walk_at "st"
    refine ⟨r ++ [c1], _, rfl, by rw [List.length_append, hr1]; rfl, ?_, by walk_at "kp", so⟩
    intro x hx
    rw [← List.cons_append, List.mem_append] at hx
    rcases hx with hx | hx
    · exact hr2 x hx
    · rw [List.mem_singleton.mp hx]
      exact List.all_eq_true.mp run63 c1 (List.mem_of_getElem? hc1)
  · rintro σ H' ⟨r, y, rfl, hr1, hr2, k2, so2⟩
    repeat' walk_at "st"
    refine q_inStrsL (sql hn) ?_
    by_cases hm : Tx (c0 :: r) ∈ RES
    · rw [decide_eq_true hm]
      repeat' walk_at "st"
      have hs := List.all_eq_true.mp res_heads _ hm
      have h16 : (c0 :: r).length ≤ 8 := by
        have h8 : (RES.all fun z => decide (z.cps.toList.length ≤ 8)) = true := by decide +kernel
        simpa using List.all_eq_true.mp h8 _ hm
      have e95 : Str.ofString "_" = Tx [95] := by decide +kernel
      rw [e95]
      refine q_addS (a := c0 :: r) (b := [95]) (by simp at h16 ⊢; omega) ?_
      refine q (c0 :: r ++ [95]) _ ⟨c0, r ++ [95], rfl, hm0, ?_, by rw [List.length_append]; simp at h16 ⊢; omega, ?_⟩ (by walk_at "kp") (by walk_at "st_ok")
      · intro x hx
        rcases List.mem_append.mp hx with hx | hx
        · exact hr2 x hx
        · rw [List.mem_singleton.mp hx]
          decide +kernel
      · intro hm2
        have := List.all_eq_true.mp res_no95 _ hm2
        simp at this
    · rw [decide_eq_false hm]
      repeat' walk_at "st"
      exact q (c0 :: r) _ ⟨c0, r, rfl, hm0, hr2, by rw [List.length_cons, hr1]; omega, hm⟩ (by walk_at "kp") (by walk_at "st_ok")
theorem c_aname {st c : Addr} {H : Hp} {Q : VK} {E : XK} (h1 : StOk st c H) (q : ∀ (a : List Nat) (H' : Hp), NameOk a → Kp [st, c] H H' → StOk st c H' → Q (.str (Tx a)) H') : sp_aname [.ref st] H Q E := ⟨st, c, rfl, h1, q⟩
set_option hygiene false in
local macro_rules | `(tactic| walk_at "i_c_aname") => `(tactic| intro na Hn nk ke so)
local macro_rules | `(tactic| walk_at "own") => `(tactic| (refine c_aname (c := ?c) ?a ?_; (case a => walk_at "st_ok"); walk_at "i_c_aname"))
/-! ### pieces and gaps -/
structure Pc where
  kd : Str
  v : V
  cs : List Nat
def Pc.ok (p : Pc) : Prop := TokOf p.cs p.kd p.v ∧ (p.kd ≠ "sign" → ∀ x ∈ p.cs, runC x = true) ∧ (p.kd = "sign" → ∃ z ∈ SIG, p.v = .str z ∧ p.cs = z.cps.toList) ∧ p.cs.length ≤ 16
def Pc.In (H : Hp) (p : Pc) (v : V) : Prop := ∃ q, v = .ref q ∧ H q = some (.tup [.str p.kd, p.v, .str (Tx p.cs)])
def sp_piece : Sp := fun vs H Q _ => ∃ (st c : Addr), vs = [.ref st] ∧ StOk st c H ∧ ∀ (p : Pc) (v : V) (H' : Hp), p.ok → p.In H' v → Kp [st, c] H H' → StOk st c H' → Q v H'
theorem sig2_sig : (SIG2.all fun z => decide (z ∈ SIG)) = true := by decide +kernel
theorem sig_len : (SIG.all fun z => decide (z.cps.toList.length ≤ 16)) = true := by decide +kernel
theorem res_run : (RES.all fun z => z.cps.toList.all fun c => runC c) = true := by decide +kernel
theorem kd_ne : ("word" : Str) ≠ "sign" ∧ ("name" : Str) ≠ "sign" ∧ ("number" : Str) ≠ "sign" := by decide +kernel
theorem ok_piece (T : Glo K mg) (D : Dn K mg "_law_piece" s__law_piece p__law_piece) (G__law_draw : Cal P w K mg base "_law_draw" 1 p__law_draw sp_draw) (G__law_pick : Cal P w K mg base "_law_pick" 2 p__law_pick (sp_pick K)) (G__law_words : Cal P w K mg base "_law_words" 1 p__law_words (sp_strs RES))
    (G__law_signs : Cal P w K mg base "_law_signs" 1 p__law_signs (sp_strs SIG2)) (G__law_any_name : Cal P w K mg base "_law_any_name" 2 p__law_any_name sp_aname) : Cal P w K mg base "_law_piece" 3 p__law_piece sp_piece := by
  refine D.ok sc__law_piece (fun vs H Q E h => ?_) (fun f cdv A outer s H vs Q E hr h => ?_)
  · obtain ⟨_, _, rfl, _⟩ := h
    rfl
  obtain ⟨st, c, rfl, so, q⟩ := h
  refine ⟨_, (pss_cons (ps_set (i := 1) sc__law_piece.nd rfl (by first | exact Or.inl rfl | exact Or.inr rfl) (pe_cal G__law_draw (hr.mono (by walk_at "lev")) rfl (pa_cons (pv 0) (pa_cons pe_int pa_nil)))) (pss_cons (ps_if (pt_cmpR (op_eqA (hu64 hr)) (pv 1) pe_int (nomark _)) (pss_cons (ps_set (i := 3) sc__law_piece.nd rfl (by first | exact Or.inl rfl | exact Or.inr rfl) (pe_cal G__law_pick (hr.mono (by walk_at "lev")) rfl (pa_cons (pv 0) (pa_cons (pe_cal0 G__law_words (hr.mono (by walk_at "lev")) rfl) pa_nil)))) (pss_one (ps_ret (pe_tup (pa_cons pe_str (pa_cons (pv 3) (pa_cons (pv 3) pa_nil))))))) pss_nil) (pss_cons (ps_if (pt_cmpR (op_eqA (hu64 hr)) (pv 1) pe_int (nomark _)) (pss_cons (ps_set (i := 4) sc__law_piece.nd rfl (by first | exact Or.inl rfl | exact Or.inr rfl) (pe_cal G__law_pick (hr.mono (by walk_at "lev")) rfl (pa_cons (pv 0) (pa_cons (pe_lst (pa_cons (pe_cal G__law_draw (hr.mono (by walk_at "lev")) rfl (pa_cons (pv 0) (pa_cons pe_int pa_nil))) (pa_cons (pe_op op_sub pe_int (pe_cal G__law_draw (hr.mono (by walk_at "lev")) rfl (pa_cons (pv 0) (pa_cons pe_int pa_nil)))) (pa_cons (pe_cal G__law_draw (hr.mono (by walk_at "lev")) rfl (pa_cons (pv 0) (pa_cons pe_int pa_nil))) pa_nil)))) pa_nil)))) (pss_one (ps_ret (pe_tup (pa_cons pe_str (pa_cons (pv 4) (pa_cons (pe_callTy call_strN rfl T.n_str (by decide +kernel) (pa_cons (pv 4) pa_nil)) pa_nil))))))) pss_nil) (pss_cons (ps_if (pt_cmpR op_lt (pv 1) pe_int (nomark _)) (pss_cons (ps_set (i := 5) sc__law_piece.nd rfl (by first | exact Or.inl rfl | exact Or.inr rfl) (pe_cal G__law_any_name (hr.mono (by walk_at "lev")) rfl (pa_cons (pv 0) pa_nil))) (pss_one (ps_ret (pe_tup (pa_cons pe_str (pa_cons (pv 5) (pa_cons (pv 5) pa_nil))))))) pss_nil) (pss_cons (ps_set (i := 2) sc__law_piece.nd rfl (by first | exact Or.inl rfl | exact Or.inr rfl) (pe_cal G__law_pick (hr.mono (by walk_at "lev")) rfl (pa_cons (pv 0) (pa_cons (pe_cal0 G__law_signs (hr.mono (by walk_at "lev")) rfl) pa_nil)))) (pss_one (ps_ret (pe_tup (pa_cons pe_str (pa_cons (pv 2) (pa_cons (pv 2) pa_nil))))))))))), ?_⟩
  try dsimp only [cxOf, Cx.nox]
  repeat' walk_at "st"
  · obtain ⟨z, hz, e⟩ := List.mem_map.mp (List.mem_of_getElem? (by assumption : (RES.map V.str)[_]? = some _))
    subst e
    have h16 : z.cps.toList.length ≤ 16 := by
      have h8 : (RES.all fun z => decide (z.cps.toList.length ≤ 16)) = true := by decide +kernel
      simpa using List.all_eq_true.mp h8 _ hz
    exact q ⟨"word", .str z, z.cps.toList⟩ _ _ ⟨.word hz, fun _ x hx => List.all_eq_true.mp (List.all_eq_true.mp res_run _ hz) x hx, fun h => absurd h kd_ne.1, h16⟩ ⟨_, rfl, hn⟩ (by walk_at "kp") (by walk_at "st_ok")
  · have hv := List.mem_of_getElem? ej
    simp only [List.mem_cons, List.not_mem_nil, or_false] at hv
    have hk : ∃ k : Nat, v = .int k ∧ k < 65536 := by
      rcases hv with rfl | rfl | rfl
      · exact ⟨_, congrArg V.int (Int.toNat_of_nonneg (by omega)).symm, by omega⟩
      · exact ⟨_, congrArg V.int (Int.toNat_of_nonneg (by omega)).symm, by omega⟩
      · exact ⟨_, congrArg V.int (Int.toNat_of_nonneg (by omega)).symm, by omega⟩
    obtain ⟨k, rfl, k1⟩ := hk
    refine q_strN k1 ?_
    repeat' walk_at "st"
    have hl := TL.numL_len (n := k) (k := 5) (by decide) (by omega)
    exact q ⟨"number", .int k, TL.numL k⟩ _ _ ⟨.num k1, fun _ x hx => dig_run (numL_dig k x hx), fun h => absurd h kd_ne.2.2, by show (TL.numL k).length ≤ 16; omega⟩ ⟨_, rfl, hn⟩ (by walk_at "kp") (by walk_at "st_ok")
  · obtain ⟨c1, r1, rfl, n1', n2', n3', n4'⟩ := nk
    exact q ⟨"name", .str (Tx (c1 :: r1)), c1 :: r1⟩ _ _ ⟨.name n1' n3' n4', fun _ => n2', fun h => absurd h kd_ne.2.1, n3'⟩ ⟨_, rfl, hn⟩ (by walk_at "kp") (by walk_at "st_ok")
  · obtain ⟨z, hz, e⟩ := List.mem_map.mp (List.mem_of_getElem? (by assumption : (SIG2.map V.str)[_]? = some _))
    subst e
    have hz' : z ∈ SIG := by simpa using List.all_eq_true.mp sig2_sig _ hz
    exact q ⟨"sign", .str z, z.cps.toList⟩ _ _ ⟨.sign hz', fun h => absurd rfl h, fun _ => ⟨z, hz', rfl, rfl⟩, by simpa using List.all_eq_true.mp sig_len _ hz'⟩ ⟨_, rfl, hn⟩ (by walk_at "kp") (by walk_at "st_ok")
theorem c_piece {st c : Addr} {H : Hp} {Q : VK} {E : XK} (h1 : StOk st c H) (q : ∀ (p : Pc) (v : V) (H' : Hp), p.ok → p.In H' v → Kp [st, c] H H' → StOk st c H' → Q v H') : sp_piece [.ref st] H Q E := ⟨st, c, rfl, h1, q⟩
/-- a gap: tokens go on behind it -/
def Gap (g : List Nat) : Prop := (∃ c r, g = c :: r ∧ (c = 32 ∨ c = 10 ∨ c = 35)) ∧ g.length ≤ 20 ∧ ∀ (n : Int) (rest : List Nat) (ts : List Tok) (m : Int), Tk rest (n + (g.count 10 : Int)) ts m → Tk (g ++ rest) n ts m
theorem tk_ws : ∀ (g : List Nat), (∀ c ∈ g, c = 32 ∨ c = 10) → ∀ (n : Int) (rest : List Nat) (ts : List Tok) (m : Int), Tk rest (n + (g.count 10 : Int)) ts m → Tk (g ++ rest) n ts m
  | [], _, n, rest, ts, m, h => by simpa using h
  | c :: r, hc, n, rest, ts, m, h => by
    have hr := fun x hx => hc x (List.mem_cons_of_mem c hx)
    rcases hc c (List.mem_cons_self ..) with rfl | rfl
    · rw [List.count_cons_of_ne (by decide)] at h
      exact .sp (tk_ws r hr n rest ts m h)
    · rw [List.count_cons_self] at h
      refine .nl (tk_ws r hr (n + 1) rest ts m ?_)
      have e : n + 1 + (r.count 10 : Int) = n + ((r.count 10 + 1 : Nat) : Int) := by omega
      rw [e]
      exact h
theorem gap_ws {g : List Nat} (hn : g ≠ []) (hl : g.length ≤ 20) (h : ∀ c ∈ g, c = 32 ∨ c = 10) : Gap g := by
  cases g with
  | nil => exact absurd rfl hn
  | cons c r => exact ⟨⟨c, r, rfl, by rcases h c (List.mem_cons_self ..) with z | z <;> simp [z]⟩, hl, tk_ws _ h⟩
theorem restNl_app : ∀ {a : List Nat}, (∀ c ∈ a, c ≠ 10) → ∀ r, restNl (a ++ 10 :: r) = a
  | [], _, r => by unfold restNl; rw [List.nil_append, List.takeWhile_cons, if_neg (by decide)]
  | c :: a, h, r => by
    have ih := restNl_app (a := a) (fun x hx => h x (List.mem_cons_of_mem c hx)) r
    unfold restNl at ih ⊢
    rw [List.cons_append, List.takeWhile_cons, if_pos (by simpa using h c (List.mem_cons_self ..)), ih]
theorem gap_cm {a : List Nat} (hl : a.length ≤ 10) (h : ∀ c ∈ a, c ≠ 10) : Gap (35 :: a ++ [10]) := by
  refine ⟨⟨35, a ++ [10], rfl, by simp⟩, by simp; omega, fun n rest ts m hk => ?_⟩
  have hc : (35 :: a ++ [10]).count 10 = 1 := by
    rw [List.count_append, List.count_eq_zero.mpr (fun hm => by
      rcases List.mem_cons.mp hm with e | hm
      · cases e
      · exact h 10 hm rfl)]
    rfl
  rw [hc] at hk
  rw [List.append_assoc, List.cons_append]
  refine .cm ?_
  rw [show [10] ++ rest = 10 :: rest from rfl, restNl_app h, List.drop_left]
  exact .nl hk
theorem s_sp : Str.ofString " " = Tx [32] := by decide +kernel
theorem s_nl : Str.ofString "\n" = Tx [10] := by decide +kernel
theorem s_sp2 : Str.ofString "  " = Tx [32, 32] := by decide +kernel
theorem s_hash : Str.ofString "#" = Tx [35] := by decide +kernel
theorem q_mulS {c : Nat} {n : Nat} {z : Int} {H : Hp} {Q : VK} (hz : z = (n : Int)) (h : 1 ≤ n ∧ n ≤ 8) (q : Q (.str (Tx (List.replicate n c))) H) : rMulS (.str (Tx [c])) (.int z) H Q := ⟨c, n, rfl, by rw [hz], h.1, h.2, q⟩
def sp_gap : Sp := fun vs H Q _ => ∃ (st c : Addr), vs = [.ref st] ∧ StOk st c H ∧ ∀ (g : List Nat) (H' : Hp), Gap g → Kp [st, c] H H' → StOk st c H' → Q (.str (Tx g)) H'
theorem ok_gap (T : Glo K mg) (D : Dn K mg "_law_gap" s__law_gap p__law_gap) (G__law_draw : Cal P w K mg base "_law_draw" 1 p__law_draw sp_draw) (G__law_pick : Cal P w K mg base "_law_pick" 2 p__law_pick (sp_pick K)) : Cal P w K mg base "_law_gap" 3 p__law_gap sp_gap := by
  refine D.ok sc__law_gap (fun vs H Q E h => ?_) (fun f cdv A outer s H vs Q E hr h => ?_)
  · obtain ⟨_, _, rfl, _⟩ := h
    rfl
  obtain ⟨st, c, rfl, so, q⟩ := h
  refine ⟨_, (pss_cons (ps_set (i := 1) sc__law_gap.nd rfl (by first | exact Or.inl rfl | exact Or.inr rfl) (pe_cal G__law_draw (hr.mono (by walk_at "lev")) rfl (pa_cons (pv 0) (pa_cons pe_int pa_nil)))) (pss_cons (ps_if (pt_cmpR op_lt (pv 1) pe_int (nomark _)) (pss_one (ps_ret (pe_op op_mulS pe_str (pe_op op_addA pe_int (pe_cal G__law_draw (hr.mono (by walk_at "lev")) rfl (pa_cons (pv 0) (pa_cons pe_int pa_nil))))))) pss_nil) (pss_cons (ps_if (pt_cmpR (op_eqA (hu64 hr)) (pv 1) pe_int (nomark _)) (pss_one (ps_ret pe_str)) pss_nil) (pss_cons (ps_if (pt_cmpR (op_eqA (hu64 hr)) (pv 1) pe_int (nomark _)) (pss_one (ps_ret (pe_op op_addA (pe_op op_addA pe_str (pe_op op_mulS pe_str (pe_op op_addA pe_int (pe_cal G__law_draw (hr.mono (by walk_at "lev")) rfl (pa_cons (pv 0) (pa_cons pe_int pa_nil)))))) pe_str))) pss_nil) (pss_one (ps_ret (pe_op op_addA (pe_op op_addA pe_str (pe_cal G__law_pick (hr.mono (by walk_at "lev")) rfl (pa_cons (pv 0) (pa_cons (pe_lst (pa_cons pe_str (pa_cons pe_str (pa_cons pe_str (pa_cons pe_str pa_nil))))) pa_nil)))) pe_str))))))), ?_⟩
  try dsimp only [cxOf, Cx.nox]
  repeat' walk_at "st"
  · rw [s_sp]
    refine q_mulS (n := (1 + dn).toNat) (by omega) (by omega) ?_
    exact q _ _ (gap_ws (by intro e; have := congrArg List.length e; simp at this; omega) (by simp; omega) (fun x hx => .inl (List.eq_of_mem_replicate hx))) (by walk_at "kp") so
  · rw [s_nl]
    exact q _ _ (gap_ws (by simp) (by simp) (fun x hx => .inr (List.mem_singleton.mp hx))) (by walk_at "kp") so
  · rw [s_nl, s_sp]
    refine q_mulS (n := (1 + dn).toNat) (by omega) (by omega) ?_
    refine q_addS (by simp; omega) ?_
    repeat' walk_at "st"
    rw [s_sp2]
    refine q_addS (by simp; omega) ?_
    refine q _ _ (gap_ws (by simp) (by simp; omega) (fun x hx => ?_)) (by walk_at "kp") so
    simp only [List.mem_append, List.mem_cons, List.not_mem_nil, or_false] at hx
    rcases hx with (hx | hx) | hx
    · exact .inl hx
    · exact .inr (List.eq_of_mem_replicate hx)
    · rcases hx with hx | hx <;> exact .inl hx
  · have hv := List.mem_of_getElem? ej
    simp only [List.mem_cons, List.not_mem_nil, or_false] at hv
    have hk : ∃ a : List Nat, v = .str (Tx a) ∧ a.length ≤ 10 ∧ ∀ c ∈ a, c ≠ 10 := by
      rcases hv with rfl | rfl | rfl | rfl
      · exact ⟨(Str.ofString "").cps.toList, rfl, by decide +kernel, by decide +kernel⟩
      · exact ⟨(Str.ofString " x <=").cps.toList, rfl, by decide +kernel, by decide +kernel⟩
      · exact ⟨(Str.ofString "$@!").cps.toList, rfl, by decide +kernel, by decide +kernel⟩
      · exact ⟨(Str.ofString "# 07").cps.toList, rfl, by decide +kernel, by decide +kernel⟩
    obtain ⟨a, rfl, a1, a2⟩ := hk
    rw [s_hash, s_nl]
    refine q_addS (by simp; omega) ?_
    repeat' walk_at "st"
    refine q_addS (by simp; omega) ?_
    exact q _ _ (gap_cm a1 a2) (by walk_at "kp") (by walk_at "st_ok")
theorem c_gap {st c : Addr} {H : Hp} {Q : VK} {E : XK} (h1 : StOk st c H) (q : ∀ (g : List Nat) (H' : Hp), Gap g → Kp [st, c] H H' → StOk st c H' → Q (.str (Tx g)) H') : sp_gap [.ref st] H Q E := ⟨st, c, rfl, h1, q⟩
/-- must something stand between two pieces -/
def apart (a b : Pc) : Bool := if a.kd ≠ "sign" ∧ b.kd ≠ "sign" then true else decide (a.v = .str "=" ∨ a.v = .str "<")
def sp_apart : Sp := fun vs H Q _ => ∃ (a b : Pc) (va vb : V), vs = [va, vb] ∧ a.ok ∧ b.ok ∧ a.In H va ∧ b.In H vb ∧ ∀ H', Ex H H' → Q (.bl (apart a b)) H'
theorem flat_tok {p : List Nat} {kd : Str} {v : V} (h : TokOf p kd v) : flatV v = true := by cases h <;> rfl
theorem inV2 {p : List Nat} {kd : Str} {v : V} (h : TokOf p kd v) : inV v [.str "=", .str "<"] = decide (v = .str "=" ∨ v = .str "<") := by
  have key : ∀ z : Str, inV (.str z) [.str "=", .str "<"] = decide (V.str z = .str "=" ∨ V.str z = .str "<") := fun z => by
    have e := inV_strs (z := z) ["=", "<"]
    rw [show ([V.str "=", V.str "<"] : List V) = (["=", "<"] : List Str).map V.str from rfl, e]
    simp
  cases h with
  | sign => exact key _
  | word => exact key _
  | name => exact key _
  | num => simp [inV, eqV]
theorem ok_apart (T : Glo K mg) (D : Dn K mg "_law_apart" s__law_apart p__law_apart) : Cal P w K mg base "_law_apart" 1 p__law_apart sp_apart := by
  refine D.ok sc__law_apart (fun vs H Q E h => ?_) (fun f cdv A outer s H vs Q E hr h => ?_)
  · obtain ⟨_, _, _, _, rfl, _⟩ := h
    rfl
  obtain ⟨a, b, va, vb, rfl, ⟨ha, _⟩, ⟨hb, _⟩, ⟨pa, rfl, hpa⟩, ⟨pb, rfl, hpb⟩, q⟩ := h
  refine ⟨_, (pss_cons (ps_if (PW.pt (pw_and (pt_cmpR (op_neA (hu64 hr)) (pe_ix ix_seq (pv 0) pe_int (fun _ _ => rfl)) pe_str (nomark _)) (pw_and1 (pt_cmpR (op_neA (hu64 hr)) (pe_ix ix_seq (pv 1) pe_int (fun _ _ => rfl)) pe_str (nomark _))))) (pss_one (ps_ret pe_bl)) pss_nil) (pss_one (ps_ret (pe_cmpR op_in_seq (pe_ix ix_seq (pv 0) pe_int (fun _ _ => rfl)) (pe_tup (pa_cons pe_str (pa_cons pe_str pa_nil))) (by rfl))))), ?_⟩
  try dsimp only [cxOf, Cx.nox]
  have fin : ∀ H1, Ex H H1 → ¬ (a.kd ≠ "sign" ∧ b.kd ≠ "sign") → H1 pa = some (.tup [.str a.kd, a.v, .str (Tx a.cs)]) → ∀ p Hn, Ex H1 Hn → Hn p = some (.tup [.str "=", .str "<"]) → rIn K false a.v (.ref p) Hn Q := fun H1 e1 hc _ p Hn e2 h2 =>
    ⟨p, _, rfl, .inr (sqt h2), flat_tok ha, rfl, by
      rw [if_neg Bool.false_ne_true, inV2 ha]
      have := q Hn (e1.trans e2)
      unfold apart at this
      rw [if_neg hc] at this
      exact this⟩
  repeat' walk_at "st"
  · rename_i c1 c2
    have := q H (Ex.refl H)
    unfold apart at this
    rw [if_pos ⟨c1, c2⟩] at this
    exact this
  · rename_i c1 c2
    exact fin H (Ex.refl H) (fun h => h.2 c2) hpa _ _ ke hn
  · rename_i c1
    exact fin H (Ex.refl H) (fun h => h.1 c1) hpa _ _ ke hn
theorem c_apart {a b : Pc} {va vb : V} {H : Hp} {Q : VK} {E : XK} (h1 : a.ok) (h2 : b.ok) (h3 : a.In H va) (h4 : b.In H vb) (q : ∀ H', Ex H H' → Q (.bl (apart a b)) H') : sp_apart [va, vb] H Q E := ⟨a, b, va, vb, rfl, h1, h2, h3, h4, q⟩
def sp_line : Sp := fun vs H Q _ => ∃ a : List Nat, vs = [.str (Tx a)] ∧ a.length ≤ 50000 ∧ ∀ H', Ex H H' → Q (.int (1 + (a.count 10 : Int))) H'
theorem lc_str {x : Str} {g : TG} {tt : TT} {te : TE} {vs : List Nat} {σ : L2.St} {H1 : Hp} {D : Addr} {Qd : Hp → Prop} (Pv : Nat → Hp → Prop) (h0 : Pv 0 (upd H1 D (.lst [])))
    (hs : ∀ i c H, x.cps.toList[i]? = some c → Pv i H → g (.str ⟨#[c]⟩) (wipe σ vs) H fun σ2 H2 => wipe σ2 vs = wipe σ vs ∧ tt σ2 H2 fun b H3 =>
      if b = true then te σ2 H3 fun y H4 => ∃ acc, H4 D = some (.lst acc) ∧ acc.length < sizeLine ∧ Pv (i + 1) (upd H4 D (.lst (acc ++ [y]))) else Pv (i + 1) H3) (hd : ∀ H, Pv x.cps.toList.length H → Qd H) :
    ∃ W : Nat → Nat → Hp → Prop, (∃ m, W 0 m (upd H1 D (.lst []))) ∧ ∀ i m H, W i m H →
      ((Its x).stop i H ∧ Qd H) ∨ ((Its x).go i H ∧ ∃ Nx : Hp → Prop, (∀ H', Nx H' → ∃ m', m' < m ∧ W (i + 1) m' H') ∧ ∀ v H', (Its x).yld i H v H' → g v (wipe σ vs) H' fun σ2 H2 => wipe σ2 vs = wipe σ vs ∧ tt σ2 H2 fun b H3 =>
        if b = true then te σ2 H3 fun y H4 => ∃ acc, H4 D = some (.lst acc) ∧ acc.length < sizeLine ∧ Nx (upd H4 D (.lst (acc ++ [y]))) else Nx H3) := by
  have hz : x.cps.toList.length = x.cps.size := Array.length_toList
  refine ⟨fun i m H => m = x.cps.size - i ∧ i ≤ x.cps.size ∧ Pv i H, ⟨x.cps.size, by simp, Nat.zero_le _, h0⟩, ?_⟩
  rintro i m H ⟨rfl, hi, p⟩
  by_cases hlt : i < x.cps.size
  · refine .inr ⟨hlt, Pv (i + 1), fun H' p' => ⟨x.cps.size - (i + 1), by omega, rfl, hlt, p'⟩, fun v H' y => ?_⟩
    obtain ⟨e, c, hc, ev⟩ := y
    subst e
    subst ev
    exact hs i c _ (by rw [Array.getElem?_toList]; exact hc) p
  · have e : i = x.cps.toList.length := by omega
    subst e
    exact .inl ⟨by show x.cps.size ≤ _; omega, hd _ p⟩
theorem ok_line (T : Glo K mg) (D : Dn K mg "_law_line" s__law_line p__law_line) : Cal P w K mg base "_law_line" 1 p__law_line sp_line := by
  refine D.ok sc__law_line (fun vs H Q E h => ?_) (fun f cdv A outer s H vs Q E hr h => ?_)
  · obtain ⟨_, rfl, _⟩ := h
    rfl
  obtain ⟨a, rfl, hl, q⟩ := h
  refine ⟨_, (pss_one (ps_ret (pe_op op_addA pe_int (pe_callB call_lenA rfl T.n_len (by decide +kernel) (pa_cons (pe_lc (own := [("char", 1)]) rfl sc__law_line.nd (pi_str (pv 0)) (blkOk_by (N := ["text", "char"]) (sc := defScope s__law_line) (by decide +kernel)) (fun _ _ _ _ _ => (pg_name (i := 1) sc__law_line.nd rfl (by first | exact Or.inl rfl | exact Or.inr rfl))) (fun _ _ _ _ _ => (pts_one (pt_cmpR (op_eqK (K := K) rfl (hu64 hr)) (pv 1) pe_str (nomark _)))) (fun _ _ _ _ _ => (pv 1))) pa_nil))))), ?_⟩
  try dsimp only [cxOf, Cx.nox]
  repeat' walk_at "st"
  intro L hL
  refine lc_str (x := Tx a) (fun i H2 => Ex H H2 ∧ ∃ acc : List V, H2 L = some (.lst acc) ∧ (acc.length : Nat) = (a.take i).count 10) ⟨Ex.mk hL rfl, [], upd_same, rfl⟩ ?_ ?_
  · rintro i c H2 hc ⟨e, acc, h2, hlen⟩
    have hc' : a[i]? = some c := hc
    have hcount : acc.length ≤ a.length := by
      rw [hlen]
      exact Nat.le_trans List.count_le_length (by rw [List.length_take]; omega)
    refine ⟨rfl, ?_⟩
    repeat' walk_at "st"
    · rename_i ec
      have e10 : c = 10 := by have := T_inj (a := [c]) (b := [10]) ec; simpa using this
      refine ⟨acc, h2, sl1000' (by omega), ?_, acc ++ [.str ⟨#[c]⟩], upd_same, ?_⟩
      · intro b u hb
        rw [upd_ne (ne_of_none hb hL)]
        exact e _ _ hb
      · rw [List.take_add_one, hc', List.length_append, hlen, List.count_append, e10]
        rfl
    · rename_i ec
      have n10 : c ≠ 10 := fun z => ec (by rw [z]; decide +kernel)
      refine ⟨e, acc, h2, ?_⟩
      rw [List.take_add_one, hc', hlen, List.count_append]
      show _ = _ + List.count 10 [c]
      rw [List.count_cons_of_ne (by exact fun z => n10 (by simpa using z))]
      rfl
  · rintro H2 ⟨e, acc, h2, hlen⟩
    rw [show (Tx a).cps.toList = a from rfl, List.take_length] at hlen
    repeat' walk_at "st"
    rw [hlen]
    exact q _ e
theorem c_line {a : List Nat} {H : Hp} {Q : VK} {E : XK} (h : a.length ≤ 50000) (q : ∀ H', Ex H H' → Q (.int (1 + (a.count 10 : Int))) H') : sp_line [.str (Tx a)] H Q E := ⟨a, rfl, h, q⟩
/-! ### the law's comparison -/
def Sm : Nat → Hp → V → V → Prop
  | 0, _, _, _ => False
  | d + 1, H, a, b => (∃ z, a = .str z ∧ b = .str z) ∨ (∃ i, a = .int i ∧ b = .int i) ∨ (∃ p q xs ys, a = .ref p ∧ b = .ref q ∧ H p = some (.tup xs) ∧ H q = some (.tup ys) ∧ xs.length ≤ 1000 ∧ Paired (Sm d H) xs ys) ∨
    (∃ p q xs ys, a = .ref p ∧ b = .ref q ∧ H p = some (.lst xs) ∧ H q = some (.lst ys) ∧ xs.length ≤ 1000 ∧ Paired (Sm d H) xs ys)
theorem Sm.ex {H H' : Hp} (e : Ex H H') : ∀ {d : Nat} {a b : V}, Sm d H a b → Sm d H' a b
  | 0, _, _, h => h
  | d + 1, a, b, h => by
    rcases h with h | h | ⟨p, q, xs, ys, h1, h2, h3, h4, h5, h6⟩ | ⟨p, q, xs, ys, h1, h2, h3, h4, h5, h6⟩
    · exact .inl h
    · exact .inr (.inl h)
    · exact .inr (.inr (.inl ⟨p, q, xs, ys, h1, h2, e _ _ h3, e _ _ h4, h5, Paired.mapP h6 fun _ _ z => Sm.ex e z⟩))
    · exact .inr (.inr (.inr ⟨p, q, xs, ys, h1, h2, e _ _ h3, e _ _ h4, h5, Paired.mapP h6 fun _ _ z => Sm.ex e z⟩))
theorem Paired.at {α β : Type} {F : α → β → Prop} : ∀ {xs : List α} {ys : List β} {i : Nat} {x : α}, Paired F xs ys → xs[i]? = some x → ∃ y, ys[i]? = some y ∧ F x y
  | _, _, _, _, .nil, h => by simp at h
  | _, _, 0, _, .cons a t, h => by
    simp at h
    subst h
    exact ⟨_, rfl, a⟩
  | _, _, i + 1, _, .cons a t, h => by
    obtain ⟨y, h1, h2⟩ := Paired.at (i := i) t (by simpa using h)
    exact ⟨y, by simpa using h1, h2⟩
theorem Paired.len {α β : Type} {F : α → β → Prop} {xs : List α} {ys : List β} (h : Paired F xs ys) : xs.length = ys.length := Paired.length h
local macro_rules | `(tactic| walk_at "isi") => `(tactic| first
  | refine q_isi (.str _) (kit_ty (r := true) (by decide +kernel)) ?_
  | refine q_isi (.str _) (kit_ty (r := false) (by decide +kernel)) ?_
  | refine q_isi (.int _) (kit_ty (r := true) (by decide +kernel)) ?_
  | refine q_isi (.int _) (kit_ty (r := false) (by decide +kernel)) ?_
  | refine q_isi (.bl _) (kit_ty (r := true) (by decide +kernel)) ?_
  | refine q_isi (.bl _) (kit_ty (r := false) (by decide +kernel)) ?_
  | refine q_isi (.tup (by assumption)) (kit_ty (r := true) (by decide +kernel)) ?_
  | refine q_isi (.tup (by assumption)) (kit_ty (r := false) (by decide +kernel)) ?_
  | refine q_isi (.lst (by assumption)) (kit_ty (r := true) (by decide +kernel)) ?_
  | refine q_isi (.lst (by assumption)) (kit_ty (r := false) (by decide +kernel)) ?_
  | fail)
local macro_rules | `(tactic| walk_at "own") => `(tactic| walk_at "isi")
def sp_same (d : Nat) : Sp := fun vs H Q _ => ∃ a b, vs = [a, b] ∧ Sm d H a b ∧ ∀ H', Ex H H' → Q (.bl true) H'
theorem c_same {d : Nat} {a b : V} {H : Hp} {Q : VK} {E : XK} (h : Sm d H a b) (q : ∀ H', Ex H H' → Q (.bl true) H') : sp_same d [a, b] H Q E := ⟨a, b, rfl, h, q⟩
theorem ok_same (T : Glo K mg) (D : Dn K mg "_law_same" s__law_same p__law_same) {d : Nat} (G__law_same : Cal P w K mg base "_law_same" (d + 1) p__law_same (sp_same d)) : Cal P w K mg base "_law_same" (d + 2) p__law_same (sp_same (d + 1)) := by
  refine D.ok sc__law_same (fun vs H Q E h => ?_) (fun f cdv A outer s H vs Q E hr h => ?_)
  · obtain ⟨_, _, rfl, _⟩ := h
    rfl
  obtain ⟨a, b, rfl, hs, q⟩ := h
  refine ⟨_, (pss_cons (ps_if (PW.pt (pw_or (pt_val (pe_callB call_isi rfl T.n_isinstance (by decide +kernel) (pa_cons (pv 1) (pa_cons (pe_ty (n := "tuple") rfl T.n_tuple (by decide +kernel)) pa_nil)))) (pw_or1 (pt_val (pe_callB call_isi rfl T.n_isinstance (by decide +kernel) (pa_cons (pv 1) (pa_cons (pe_ty (n := "list") rfl T.n_list (by decide +kernel)) pa_nil))))))) (pss_cons (ps_if (PW.pt (pw_or (pt_cmpR (op_neA (hu64 hr)) (pe_callB call_isi rfl T.n_isinstance (by decide +kernel) (pa_cons (pv 0) (pa_cons (pe_ty (n := "tuple") rfl T.n_tuple (by decide +kernel)) pa_nil))) (pe_callB call_isi rfl T.n_isinstance (by decide +kernel) (pa_cons (pv 1) (pa_cons (pe_ty (n := "tuple") rfl T.n_tuple (by decide +kernel)) pa_nil))) (nomark _)) (pw_or1 (pt_cmpR (op_neA (hu64 hr)) (pe_callB call_isi rfl T.n_isinstance (by decide +kernel) (pa_cons (pv 0) (pa_cons (pe_ty (n := "list") rfl T.n_list (by decide +kernel)) pa_nil))) (pe_callB call_isi rfl T.n_isinstance (by decide +kernel) (pa_cons (pv 1) (pa_cons (pe_ty (n := "list") rfl T.n_list (by decide +kernel)) pa_nil))) (nomark _))))) (pss_one (ps_ret pe_bl)) pss_nil) (pss_cons (ps_if (pt_cmpR (op_neA (hu64 hr)) (pe_callB call_lenA rfl T.n_len (by decide +kernel) (pa_cons (pv 0) pa_nil)) (pe_callB call_lenA rfl T.n_len (by decide +kernel) (pa_cons (pv 1) pa_nil)) (nomark _)) (pss_one (ps_ret pe_bl)) pss_nil) (pss_one (ps_ret (pe_callB (call_allA rfl) rfl T.n_all (by decide +kernel) (pa_cons (pe_lc (own := [("k", 2)]) (tt := tYes) rfl sc__law_same.nd (pi_range1 rfl T.n_range (pa_cons (pe_callB call_lenA rfl T.n_len (by decide +kernel) (pa_cons (pv 1) pa_nil)) pa_nil)) (blkOk_by (N := ["actual", "due", "k"]) (sc := defScope s__law_same) (by decide +kernel)) (fun _ _ _ _ _ => (pg_name (i := 2) sc__law_same.nd rfl (by first | exact Or.inl rfl | exact Or.inr rfl))) (fun _ _ _ _ _ => pts_nil) (fun _ _ _ _ _ => (pe_cal G__law_same (hr.mono (by walk_at "lev")) rfl (pa_cons (pe_ix (ix_seqK (K := K) rfl) (pv 0) (pv 2) (fun _ _ => rfl)) (pa_cons (pe_ix (ix_seqK (K := K) rfl) (pv 1) (pv 2) (fun _ _ => rfl)) pa_nil))))) pa_nil)))))) pss_nil) (pss_cons (ps_if (pt_cmpR op_isN1 (pv 1) pe_non (nomark _)) (pss_one (ps_ret (pe_cmpR op_isN1 (pv 0) pe_non (nomark _)))) pss_nil) (pss_cons (ps_if (PW.pt (pw_or (pt_val (pe_callB call_isi rfl T.n_isinstance (by decide +kernel) (pa_cons (pv 0) (pa_cons (pe_ty (n := "bool") rfl T.n_bool (by decide +kernel)) pa_nil)))) (pw_or1 (pt_cmpR (op_neA (hu64 hr)) (pe_callB call_isi rfl T.n_isinstance (by decide +kernel) (pa_cons (pv 0) (pa_cons (pe_ty (n := "str") rfl T.n_str (by decide +kernel)) pa_nil))) (pe_callB call_isi rfl T.n_isinstance (by decide +kernel) (pa_cons (pv 1) (pa_cons (pe_ty (n := "str") rfl T.n_str (by decide +kernel)) pa_nil))) (nomark _))))) (pss_one (ps_ret pe_bl)) pss_nil) (pss_one (ps_ret (pe_and (pe_cmpR (op_eqA (hu64 hr)) (pe_callB call_isi rfl T.n_isinstance (by decide +kernel) (pa_cons (pv 0) (pa_cons (pe_ty (n := "int") rfl T.n_int (by decide +kernel)) pa_nil))) (pe_callB call_isi rfl T.n_isinstance (by decide +kernel) (pa_cons (pv 1) (pa_cons (pe_ty (n := "int") rfl T.n_int (by decide +kernel)) pa_nil))) (nomark _)) (pe_one (pe_cmpR (op_eqA (hu64 hr)) (pv 0) (pv 1) (nomark _))))))))), ?_⟩
  try dsimp only [cxOf, Cx.nox]
  rcases hs with ⟨z, rfl, rfl⟩ | ⟨z, rfl, rfl⟩ | ⟨p1, p2, xs, ys, rfl, rfl, h1, h2, hl, hp⟩ | ⟨p1, p2, xs, ys, rfl, rfl, h1, h2, hl, hp⟩
  · repeat' walk_at "st"
    exact q H (Ex.refl H)
  · repeat' walk_at "st"
    exact q H (Ex.refl H)
  · have hlen := Paired.len hp
    repeat' walk_at "st"
    · rename_i cc
      exact absurd (by omega) cc
    · intro L hL
      refine lc_range (lo := 0) (n := ((ys.length : Nat) : Int).toNat) (fun i H2 => Ex H H2 ∧ H2 L = some (.lst ((List.replicate i true).map V.bl))) ⟨Ex.mk hL rfl, upd_same⟩ ?_ ?_
      · rintro i H2 hi ⟨e2, hL2⟩
        rw [Int.toNat_natCast] at hi
        have hx : xs[i]? = some xs[i] := List.getElem?_eq_getElem (by omega)
        obtain ⟨y, hy, hxy⟩ := Paired.at hp hx
        have ei : (0 : Int) + (i : Int) = (i : Int) := Int.zero_add _
        have ax : atI xs (0 + (i : Int)) = some xs[i] := by rw [ei]; exact atI_nat hx
        have ay : atI ys (0 + (i : Int)) = some y := by rw [ei]; exact atI_nat hy
        have h1' := e2 _ _ h1
        have h2' := e2 _ _ h2
        refine ⟨rfl, ?_⟩
        repeat' walk_at "st"
        refine q_ixT (sqt h1') ax ?_
        repeat' walk_at "st"
        refine q_ixT (sqt h2') ay ?_
        repeat' walk_at "st"
        refine c_same (hxy.ex e2) (fun H3 e3 => ?_)
        refine ⟨_, e3 _ _ hL2, sl1000' (by rw [List.length_map, List.length_replicate]; omega), ?_, ?_⟩
        · intro b u hb
          rw [upd_ne (ne_of_none hb hL)]
          exact e3 _ _ (e2 _ _ hb)
        · rw [upd_same, List.replicate_succ', List.map_append]
          rfl
      · rintro H2 ⟨e2, hL2⟩
        repeat' walk_at "st"
        refine ⟨L, _, rfl, sql hL2, ?_⟩
        rw [List.all_replicate]
        have := q H2 e2
        simpa using this
  · have hlen := Paired.len hp
    repeat' walk_at "st"
    · rename_i cc
      exact absurd (by omega) cc
    · intro L hL
      refine lc_range (lo := 0) (n := ((ys.length : Nat) : Int).toNat) (fun i H2 => Ex H H2 ∧ H2 L = some (.lst ((List.replicate i true).map V.bl))) ⟨Ex.mk hL rfl, upd_same⟩ ?_ ?_
      · rintro i H2 hi ⟨e2, hL2⟩
        rw [Int.toNat_natCast] at hi
        have hx : xs[i]? = some xs[i] := List.getElem?_eq_getElem (by omega)
        obtain ⟨y, hy, hxy⟩ := Paired.at hp hx
        have ei : (0 : Int) + (i : Int) = (i : Int) := Int.zero_add _
        have ax : atI xs (0 + (i : Int)) = some xs[i] := by rw [ei]; exact atI_nat hx
        have ay : atI ys (0 + (i : Int)) = some y := by rw [ei]; exact atI_nat hy
        have h1' := e2 _ _ h1
        have h2' := e2 _ _ h2
        refine ⟨rfl, ?_⟩
        repeat' walk_at "st"
        refine c_same (hxy.ex e2) (fun H3 e3 => ?_)
        refine ⟨_, e3 _ _ hL2, sl1000' (by rw [List.length_map, List.length_replicate]; omega), ?_, ?_⟩
        · intro b u hb
          rw [upd_ne (ne_of_none hb hL)]
          exact e3 _ _ (e2 _ _ hb)
        · rw [upd_same, List.replicate_succ', List.map_append]
          rfl
      · rintro H2 ⟨e2, hL2⟩
        repeat' walk_at "st"
        refine ⟨L, _, rfl, sql hL2, ?_⟩
        rw [List.all_replicate]
        have := q H2 e2
        simpa using this
theorem same_all (T : Glo K mg) (D : Dn K mg "_law_same" s__law_same p__law_same) : ∀ d, Cal P w K mg base "_law_same" (d + 1) p__law_same (sp_same d)
  | 0 => by
    refine D.ok sc__law_same (fun vs H Q E h => ?_) (fun f cdv A outer s H vs Q E hr h => ?_)
    · obtain ⟨_, _, rfl, _⟩ := h
      rfl
    · obtain ⟨_, _, _, h, _⟩ := h
      exact h.elim
  | d + 1 => ok_same T D (same_all T D d)
/-! ### what a text's pieces are told as -/
def SIGC : List (List Nat) := [[61, 61], [33, 61], [60, 61], [123], [125], [40], [41], [91], [93], [59], [44], [61], [60], [43], [45], [42], [47]]
theorem sigc : (SIG.map fun s => s.cps.toList) = SIGC := by decide +kernel
theorem find_c (r : List Nat) : ∀ L : List Str, (match L.find? fun s => s.cps.toList.isPrefixOf r with | some s => s.cps.toList | none => r.take 1) = (match (L.map fun s => s.cps.toList).find? fun a => a.isPrefixOf r with | some a => a | none => r.take 1)
  | [] => rfl
  | s :: l => by
    have ih := find_c r l
    rw [List.map_cons, List.find?_cons, List.find?_cons]
    cases s.cps.toList.isPrefixOf r
    · exact ih
    · rfl
theorem sig_part {a rest : List Nat} (ha : a ∈ SIGC) (h : a = [61] ∨ a = [60] → ∀ c r, rest = c :: r → c ≠ 61) : (match SIGC.find? fun b => b.isPrefixOf (a ++ rest) with | some b => b | none => (a ++ rest).take 1) = a := by
  have e1 : ∀ c r, rest = c :: r → (a = [61] ∨ a = [60]) → (61 == c) = false := fun c r e z => by
    have := h z c r e
    simp only [beq_eq_false_iff_ne]
    exact fun w => this w.symm
  simp only [SIGC, List.mem_cons, List.not_mem_nil, or_false] at ha
  rcases ha with rfl | rfl | rfl | rfl | rfl | rfl | rfl | rfl | rfl | rfl | rfl | rfl | rfl | rfl | rfl | rfl | rfl
  case inr.inr.inr.inr.inr.inr.inr.inr.inr.inr.inr.inl =>
    cases rest with
    | nil => rfl
    | cons c r => simp [SIGC, List.find?, List.isPrefixOf, e1 c r rfl (.inl rfl)]
  case inr.inr.inr.inr.inr.inr.inr.inr.inr.inr.inr.inr.inl =>
    cases rest with
    | nil => rfl
    | cons c r => simp [SIGC, List.find?, List.isPrefixOf, e1 c r rfl (.inr rfl)]
  all_goals simp [SIGC, List.find?, List.isPrefixOf]
theorem sigc_run : (SIGC.all fun a => match a with | c :: _ => !runC c && !decide (c = 10) && !decide (c = 32) && !decide (c = 35) | [] => false) = true := by decide +kernel
theorem sigc_10 : (SIGC.all fun a => !decide (10 ∈ a)) = true := by decide +kernel
theorem sig_eq : (SIG.all fun z => !(decide (z.cps.toList = [61]) || decide (z.cps.toList = [60])) || decide (z = "=" ∨ z = "<")) = true := by decide +kernel
theorem run_not {c : Nat} (h : runC c = true) : c ≠ 10 ∧ c ≠ 32 ∧ c ≠ 35 := by
  refine ⟨?_, ?_, ?_⟩ <;> (intro e; subst e; revert h; decide +kernel)
theorem Pc.sig {p : Pc} (hp : p.ok) (k : p.kd = "sign") : p.cs ∈ SIGC := by
  obtain ⟨z, hz, _, e⟩ := hp.2.2.1 k
  rw [← sigc, e]
  exact List.mem_map.mpr ⟨z, hz, rfl⟩
/-- a piece begins with no sign of a gap -/
theorem Pc.head {p : Pc} (hp : p.ok) : ∃ c r, p.cs = c :: r ∧ c ≠ 10 ∧ c ≠ 32 ∧ c ≠ 35 ∧ (p.kd = "sign" → runC c = false) := by
  have hl := tokOf_pos hp.1
  rcases hc : p.cs with _ | ⟨c, r⟩
  · rw [hc] at hl
    cases hl
  · by_cases k : p.kd = "sign"
    · have hm := Pc.sig hp k
      rw [hc] at hm
      have := List.all_eq_true.mp sigc_run _ hm
      simp at this
      exact ⟨c, r, rfl, this.1.1.2, this.1.2, this.2, fun _ => this.1.1.1⟩
    · have := run_not (hp.2.1 k c (by rw [hc]; exact List.mem_cons_self ..))
      exact ⟨c, r, rfl, this.1, this.2.1, this.2.2, fun z => absurd z k⟩
theorem Pc.no10 {p : Pc} (hp : p.ok) : p.cs.count 10 = 0 := by
  refine List.count_eq_zero.mpr fun h => ?_
  by_cases k : p.kd = "sign"
  · have := List.all_eq_true.mp sigc_10 _ (Pc.sig hp k)
    simp [h] at this
  · exact (run_not (hp.2.1 k 10 h)).1 rfl
theorem part_ok {p : Pc} (hp : p.ok) {rest : List Nat} (h1 : p.kd ≠ "sign" → ∀ c r, rest = c :: r → runC c = false) (h2 : p.kd = "sign" → (p.v = .str "=" ∨ p.v = .str "<") → ∀ c r, rest = c :: r → c ≠ 61) : partL (p.cs ++ rest) = p.cs := by
  obtain ⟨c0, r0, hc, _, _, _, hs⟩ := Pc.head hp
  unfold partL
  by_cases k : p.kd = "sign"
  · have ht : (p.cs ++ rest).takeWhile runC = [] := by
      rw [hc, List.cons_append, List.takeWhile_cons, if_neg (by rw [hs k]; exact Bool.false_ne_true)]
    rw [if_pos ht]
    refine (find_c _ SIG).trans ?_
    rw [sigc]
    refine sig_part (Pc.sig hp k) (fun z => h2 k ?_)
    obtain ⟨x, hx, hv, e⟩ := hp.2.2.1 k
    have := List.all_eq_true.mp sig_eq _ hx
    rw [e] at z
    have hz : (decide (x.cps.toList = [61]) || decide (x.cps.toList = [60])) = true := by simpa using z
    rw [hz] at this
    rw [hv]
    have this : x = "=" ∨ x = "<" := by simpa using this
    rcases this with w | w
    · exact .inl (by rw [w])
    · exact .inr (by rw [w])
  · have ht : (p.cs ++ rest).takeWhile runC = p.cs := by
      rw [List.takeWhile_append_of_pos (hp.2.1 k)]
      cases rest with
      | nil => simp
      | cons c r => rw [List.takeWhile_cons, if_neg (by rw [h1 k c r rfl]; exact Bool.false_ne_true), List.append_nil]
    rw [ht, if_neg (by rw [hc]; exact List.cons_ne_nil _ _)]
/-- what may stand right behind a piece -/
def After (l : Option Pc) (rest : List Nat) : Prop := ∀ p, l = some p → partL (p.cs ++ rest) = p.cs
def PcOk (l : Option Pc) : Prop := ∀ p, l = some p → p.ok
theorem after_gap {l : Option Pc} (hl : PcOk l) {c : Nat} {r : List Nat} (h : c = 32 ∨ c = 10 ∨ c = 35) : After l (c :: r) := fun p e => part_ok (hl p e)
  (fun _ c' r' e' => by
    cases e'
    rcases h with rfl | rfl | rfl <;> decide +kernel)
  (fun _ _ c' r' e' => by
    cases e'
    rcases h with rfl | rfl | rfl <;> decide)
theorem after_nil {l : Option Pc} (hl : PcOk l) : After l [] := fun p e => part_ok (hl p e) (fun _ _ _ z => by cases z) (fun _ _ _ _ z => by cases z)
theorem after_piece {a b : Pc} (ha : a.ok) (hb : b.ok) (h : apart a b = false) (rest : List Nat) : After (some a) (b.cs ++ rest) := by
  rintro p e
  cases e
  obtain ⟨c0, r0, hc, _, _, _, hs⟩ := Pc.head hb
  unfold apart at h
  refine part_ok ha (fun k c r e => ?_) (fun k w c r e => ?_)
  · rw [hc, List.cons_append] at e
    cases e
    by_cases kb : b.kd = "sign"
    · exact hs kb
    · rw [if_pos ⟨k, kb⟩] at h
      cases h
  · rw [if_neg (fun z => z.1 k), decide_eq_true w] at h
    cases h
/-- the text so far and the tokens due -/
def Inv (X : List Nat) (D : List Tok) (l : Option Pc) : Prop := PcOk l ∧ ∀ rest ts m, After l rest → Tk rest (1 + (X.count 10 : Int)) ts m → Tk (X ++ rest) 1 (D ++ ts) m
theorem inv_nil : Inv [] [] none := ⟨fun p h => (by cases h), fun rest ts m _ h => by simpa using h⟩
theorem inv_gap {X g : List Nat} {D : List Tok} {l : Option Pc} (h : Inv X D l) (hg : Gap g) : Inv (X ++ g) D none := by
  refine ⟨fun p h => (by cases h), fun rest ts m _ hk => ?_⟩
  obtain ⟨⟨c, r, e, hc⟩, _, hs⟩ := hg
  rw [List.append_assoc]
  refine h.2 _ ts m ?_ (hs _ _ _ _ ?_)
  · rw [e]
    exact after_gap h.1 hc
  · rw [List.count_append] at hk
    have e2 : (1 : Int) + (X.count 10 : Int) + (g.count 10 : Int) = 1 + ((X.count 10 + g.count 10 : Nat) : Int) := by omega
    rw [e2]
    exact hk
theorem inv_piece {X : List Nat} {D : List Tok} {l : Option Pc} {p : Pc} (h : Inv X D l) (hp : p.ok) (hl : ∀ a, l = some a → apart a p = false) : Inv (X ++ p.cs) (D ++ [(p.kd, p.v, 1 + (X.count 10 : Int))]) (some p) := by
  refine ⟨fun a e => by cases e; exact hp, fun rest ts m ha hk => ?_⟩
  obtain ⟨c0, r0, hc, n10, n32, n35, _⟩ := Pc.head hp
  rw [List.append_assoc, List.append_assoc]
  refine h.2 _ _ m (fun a e => after_piece (h.1 a e) hp (hl a e) rest a rfl) ?_
  have hpart := ha p rfl
  rw [List.count_append, Pc.no10 hp, Nat.add_zero] at hk
  rw [hc, List.cons_append] at hpart ⊢
  refine .part n10 n32 n35 hpart rfl ?_ hk
  rw [← hc]
  exact hp.1
theorem inv_done {X : List Nat} {D : List Tok} {l : Option Pc} (h : Inv X D l) : Tk X 1 D (1 + (X.count 10 : Int)) := by
  have := h.2 [] [] _ (after_nil h.1) .nil
  simpa using this
def ENDc : List Nat := [32, 35, 32, 101, 110, 100]
theorem s_end : Str.ofString " # end" = Tx ENDc := by decide +kernel
theorem inv_end {X : List Nat} {D : List Tok} {l : Option Pc} (h : Inv X D l) : Tk (X ++ ENDc) 1 D (1 + ((X ++ ENDc).count 10 : Int)) := by
  have e : (X ++ ENDc).count 10 = X.count 10 := by rw [List.count_append]; rfl
  rw [e]
  have := h.2 ENDc [] (1 + (X.count 10 : Int)) (after_gap h.1 (.inl rfl)) (.sp (.cm (by
    have : (restNl [32, 101, 110, 100]).length = 4 := by decide +kernel
    rw [this]
    exact .nil)))
  simpa using this
theorem st_upd {st c p : Addr} {o : HO} {H : Hp} (h : StOk st c H) (hp : p ∉ [st, c]) : StOk st c (upd H p o) := by
  obtain ⟨⟨ns, s, a, b, d⟩, n⟩ := h
  simp only [List.mem_cons, List.not_mem_nil, or_false, not_or] at hp
  exact ⟨⟨ns, s, by rw [upd_ne (Ne.symm hp.1)]; exact a, by rw [upd_ne (Ne.symm hp.2)]; exact b, d⟩, n⟩
theorem c_state {a : Addr} {ns : List Int} {H : Hp} {Q : VK} {E : XK} (h1 : SqL K H a (ns.map V.int)) (h2 : ns.length ≤ 63) (q : ∀ st c H', Ex H H' → H st = none → H c = none → StOk st c H' → Q (.ref st) H') : sp_state K [.ref a] H Q E := ⟨a, ns, rfl, h1, h2, q⟩
def sp_law (K : PySem.W.Frag) : Sp := fun vs H Q _ => ∃ (a : Addr) (ns : List Int), vs = [.ref a] ∧ SqL K H a (ns.map V.int) ∧ ns.length ≤ 63 ∧ ∀ H', Q (.bl true) H'
theorem c_tokenize {cs : List Nat} {ts : List Tok} {m : Int} {H : Hp} {Q : VK} {E : XK} (h1 : cs.length ≤ 90000) (h2 : Tk cs 1 ts m) (q : ∀ p H' ws, H p = none → Ex H H' → H' p = some (.lst ws) → ToksIn H' ws (ts ++ [(("end" : Str), V.str "", m)]) → Q (.ref p) H') : sp_tokenize [.str (Tx cs)] H Q E := ⟨cs, ts, m, rfl, h1, h2, q⟩
set_option hygiene false in
local macro_rules | `(tactic| walk_at "i_c_gap") => `(tactic| intro g Hn gk ke so)
local macro_rules | `(tactic| walk_at "own") => `(tactic| (refine c_gap (c := ?c) ?a ?_; (case a => walk_at "st_ok"); walk_at "i_c_gap"))
set_option hygiene false in
local macro_rules | `(tactic| walk_at "i_c_piece") => `(tactic| (rintro pc _ Hn pk ⟨pa, rfl, hpa⟩ ke so))
local macro_rules | `(tactic| walk_at "own") => `(tactic| (refine c_piece (c := ?c) ?a ?_; (case a => walk_at "st_ok"); walk_at "i_c_piece"))
local macro_rules | `(tactic| walk_at "own") => `(tactic| ((with_reducible refine q_tyL (xs := ?xs) ?h ?_); (case h => walk_at "lift")))
theorem tk_scalar {cs : List Nat} {n m : Int} {ts : List Tok} (h : Tk cs n ts m) : ∀ t ∈ ts, (∃ z, t.2.1 = .str z) ∨ ∃ i, t.2.1 = .int i := by
  induction h with
  | nil => intro t ht; cases ht
  | nl _ ih => exact ih
  | sp _ ih => exact ih
  | cm _ ih => exact ih
  | part _ _ _ _ _ hto _ ih =>
    intro t ht
    rcases List.mem_cons.mp ht with rfl | ht
    · cases hto with
      | sign => exact .inl ⟨_, rfl⟩
      | word => exact .inl ⟨_, rfl⟩
      | name => exact .inl ⟨_, rfl⟩
      | num => exact .inr ⟨_, rfl⟩
    · exact ih t ht
theorem toks_same {H : Hp} : ∀ {xs ys : List V} {ts : List Tok}, (∀ t ∈ ts, (∃ z, t.2.1 = .str z) ∨ ∃ i, t.2.1 = .int i) → ToksIn H xs ts → ToksIn H ys ts → Paired (Sm 2 H) xs ys
  | _, _, _, _, .nil, .nil => .nil
  | _, _, t :: ts, hs, .cons ⟨p, e1, h1⟩ r1, .cons ⟨q, e2, h2⟩ r2 => by
    refine .cons ?_ (toks_same (fun t ht => hs t (List.mem_cons_of_mem _ ht)) r1 r2)
    refine .inr (.inr (.inl ⟨p, q, _, _, e1, e2, h1, h2, by show 3 ≤ 1000; decide, .cons (.inl ⟨_, rfl, rfl⟩) (.cons ?_ (.cons (.inr (.inl ⟨_, rfl, rfl⟩)) .nil))⟩))
    rcases hs t (List.mem_cons_self ..) with ⟨z, e⟩ | ⟨i, e⟩
    · exact .inl ⟨z, e, e⟩
    · exact .inr (.inl ⟨i, e, e⟩)
theorem sm_toks {H : Hp} {p q : Addr} {xs ys : List V} {cs : List Nat} {n m : Int} {ts : List Tok} (h1 : H p = some (.lst xs)) (h2 : H q = some (.lst ys)) (hk : Tk cs n ts m) (hl : ts.length ≤ 900) (a : ToksIn H xs (ts ++ [(("end" : Str), V.str "", m)])) (b : ToksIn H ys (ts ++ [(("end" : Str), V.str "", m)])) :
    Sm 3 H (.ref p) (.ref q) := by
  refine .inr (.inr (.inr ⟨p, q, xs, ys, rfl, rfl, h1, h2, ?_, toks_same ?_ a b⟩))
  · rw [Paired.len a, List.length_append]
    show _ + 1 ≤ 1000
    omega
  · intro t ht
    rcases List.mem_append.mp ht with ht | ht
    · exact tk_scalar hk t ht
    · rw [List.mem_singleton.mp ht]
      exact .inl ⟨_, rfl⟩
theorem s_emp : Str.ofString "" = Tx [] := by decide +kernel
theorem atI_last {α : Type} {xs : List α} {x : α} (h : xs.getLast? = some x) : atI xs (-1) = some x := by
  rw [List.getLast?_eq_getElem?] at h
  have hl : 0 < xs.length := by
    rcases xs with _ | ⟨y, r⟩
    · simp at h
    · simp
  unfold atI ixN
  rw [if_neg (by decide), if_pos (by omega)]
  show xs[_]? = _
  rw [← h]
  congr 1
  omega
theorem Paired.last {α β : Type} {F : α → β → Prop} {xs : List α} {ys : List β} (h : Paired F xs ys) (hl : 0 < xs.length) : ∃ x y, xs.getLast? = some x ∧ ys.getLast? = some y ∧ F x y := by
  have e := Paired.len h
  have hx : xs[xs.length - 1]? = some xs[xs.length - 1] := List.getElem?_eq_getElem (by omega)
  obtain ⟨y, hy, f⟩ := Paired.at h hx
  refine ⟨_, y, ?_, ?_, f⟩
  · rw [List.getLast?_eq_getElem?, hx]
  · rw [List.getLast?_eq_getElem?, ← e, hy]
theorem body_law {fd : FuncData} {fa : Addr} {F : Fun K "law" "law" s_law fa fd} (T : Glo K mg) (G__law_state : Cal P w K mg base "_law_state" 1 p__law_state (sp_state K)) (G__law_draw : Cal P w K mg base "_law_draw" 1 p__law_draw sp_draw) (G__law_gap : Cal P w K mg base "_law_gap" 3 p__law_gap sp_gap)
    (G__law_piece : Cal P w K mg base "_law_piece" 3 p__law_piece sp_piece) (G__law_apart : Cal P w K mg base "_law_apart" 1 p__law_apart sp_apart) (G__law_line : Cal P w K mg base "_law_line" 1 p__law_line sp_line) (G__law_same : Cal P w K mg base "_law_same" 4 p__law_same (sp_same 3))
    (G_tokenize : Cal P w K mg base "tokenize" 4 p_tokenize sp_tokenize) (G_is_reserved : Cal P w K mg base "is_reserved" 1 p_is_reserved sp_res) : FnOk P w K mg base CX0 5 fa fd ["script"] (sp_law K) := by
  refine F.ok sc_law (fun vs H Q E h => ?_) (fun cdv A outer s H vs Q E hr h => ?_)
  · obtain ⟨_, _, rfl, _⟩ := h
    rfl
  obtain ⟨a, ns, rfl, hs, hl, q⟩ := h
  refine ⟨_, (pss_cons (ps_set (i := 1) sc_law.nd rfl (by first | exact Or.inl rfl | exact Or.inr rfl) (pe_cal G__law_state (hr.mono (by walk_at "lev")) rfl (pa_cons (pv 0) pa_nil))) (pss_cons (ps_set (i := 2) sc_law.nd rfl (by first | exact Or.inl rfl | exact Or.inr rfl) (pe_ifExp (pt_cmpR (op_eqA (hu64 hr)) (pe_cal G__law_draw (hr.mono (by walk_at "lev")) rfl (pa_cons (pv 1) (pa_cons pe_int pa_nil))) pe_int (nomark _)) (pe_cal G__law_gap (hr.mono (by walk_at "lev")) rfl (pa_cons (pv 1) pa_nil)) pe_str)) (pss_cons (ps_set (i := 3) sc_law.nd rfl (by first | exact Or.inl rfl | exact Or.inr rfl) (pe_lst pa_nil)) (pss_cons (ps_set (i := 4) sc_law.nd rfl (by first | exact Or.inl rfl | exact Or.inr rfl) (pe_lst pa_nil)) (pss_cons (ps_for PassesOwn.never rfl (pi_range1 rfl T.n_range (pa_cons (pe_cal G__law_draw (hr.mono (by walk_at "lev")) rfl (pa_cons (pv 1) (pa_cons pe_int pa_nil))) pa_nil)) (pg_name (i := 5) sc_law.nd rfl (by first | exact Or.inl rfl | exact Or.inr rfl)) (pss_cons (ps_set (i := 6) sc_law.nd rfl (by first | exact Or.inl rfl | exact Or.inr rfl) (pe_cal G__law_piece (hr.mono (by walk_at "lev")) rfl (pa_cons (pv 1) pa_nil))) (pss_cons (ps_if (pt_cmpR op_gt (pe_callB call_lenA rfl T.n_len (by decide +kernel) (pa_cons (pv 4) pa_nil)) pe_int (nomark _)) (pss_one (ps_if (PW.pt (pw_or (pt_val (pe_cal G__law_apart (hr.mono (by walk_at "lev")) rfl (pa_cons (pe_ix ix_seq (pv 4) (pe_un un_neg pe_int) (fun _ _ => rfl)) (pa_cons (pv 6) pa_nil)))) (pw_or1 (pt_cmpR (op_eqA (hu64 hr)) (pe_cal G__law_draw (hr.mono (by walk_at "lev")) rfl (pa_cons (pv 1) (pa_cons pe_int pa_nil))) pe_int (nomark _))))) (pss_one (ps_set (i := 2) sc_law.nd rfl (by first | exact Or.inl rfl | exact Or.inr rfl) (pe_op op_addA (pv 2) (pe_cal G__law_gap (hr.mono (by walk_at "lev")) rfl (pa_cons (pv 1) pa_nil))))) pss_nil)) pss_nil) (pss_cons (ps_expr (pe_bm PySem.F.plainAttrs_list PySem.F.slot_list_append PySem.F.type_list_append mt_append (pv 3) (pa_cons (pe_tup (pa_cons (pe_ix ix_seq (pv 6) pe_int (fun _ _ => rfl)) (pa_cons (pe_ix ix_seq (pv 6) pe_int (fun _ _ => rfl)) (pa_cons (pe_cal G__law_line (hr.mono (by walk_at "lev")) rfl (pa_cons (pv 2) pa_nil)) pa_nil)))) pa_nil))) (pss_cons (ps_expr (pe_bm PySem.F.plainAttrs_list PySem.F.slot_list_append PySem.F.type_list_append mt_append (pv 4) (pa_cons (pv 6) pa_nil))) (pss_one (ps_set (i := 2) sc_law.nd rfl (by first | exact Or.inl rfl | exact Or.inr rfl) (pe_op op_addA (pv 2) (pe_ix ix_seq (pv 6) pe_int (fun _ _ => rfl)))))))))) (pss_cons (ps_if (pt_cmpR (op_eqA (hu64 hr)) (pe_cal G__law_draw (hr.mono (by walk_at "lev")) rfl (pa_cons (pv 1) (pa_cons pe_int pa_nil))) pe_int (nomark _)) (pss_one (ps_set (i := 2) sc_law.nd rfl (by first | exact Or.inl rfl | exact Or.inr rfl) (pe_op op_addA (pv 2) (pe_cal G__law_gap (hr.mono (by walk_at "lev")) rfl (pa_cons (pv 1) pa_nil))))) pss_nil) (pss_cons (ps_if (pt_cmpR (op_eqA (hu64 hr)) (pe_cal G__law_draw (hr.mono (by walk_at "lev")) rfl (pa_cons (pv 1) (pa_cons pe_int pa_nil))) pe_int (nomark _)) (pss_one (ps_set (i := 2) sc_law.nd rfl (by first | exact Or.inl rfl | exact Or.inr rfl) (pe_op op_addA (pv 2) pe_str))) pss_nil) (pss_cons (ps_expr (pe_bm PySem.F.plainAttrs_list PySem.F.slot_list_append PySem.F.type_list_append mt_append (pv 3) (pa_cons (pe_tup (pa_cons pe_str (pa_cons pe_str (pa_cons (pe_cal G__law_line (hr.mono (by walk_at "lev")) rfl (pa_cons (pv 2) pa_nil)) pa_nil)))) pa_nil))) (pss_cons (ps_if (pt_not (pt_val (pe_cal G__law_same (hr.mono (by walk_at "lev")) rfl (pa_cons (pe_cal G_tokenize (hr.mono (by walk_at "lev")) rfl (pa_cons (pv 2) pa_nil)) (pa_cons (pv 3) pa_nil))))) (pss_one (ps_ret pe_bl)) pss_nil) (pss_cons (ps_for PassesOwn.never rfl (pi_list (pv 4)) (pg_name (i := 6) sc_law.nd rfl (by first | exact Or.inl rfl | exact Or.inr rfl)) (pss_one (ps_if (pt_cmpR op_in_seq (pe_ix ix_seq (pv 6) pe_int (fun _ _ => rfl)) (pe_tup (pa_cons pe_str (pa_cons pe_str pa_nil))) (by rfl)) (pss_cons (ps_set (i := 7) sc_law.nd rfl (by first | exact Or.inl rfl | exact Or.inr rfl) (pe_cal G_is_reserved (hr.mono (by walk_at "lev")) rfl (pa_cons (pe_ix ix_seq (pv 6) pe_int (fun _ _ => rfl)) pa_nil))) (pss_one (ps_if (PW.pt (pw_or (pt_not (pt_val (pe_callB call_isi rfl T.n_isinstance (by decide +kernel) (pa_cons (pv 7) (pa_cons (pe_ty (n := "bool") rfl T.n_bool (by decide +kernel)) pa_nil))))) (pw_or1 (pt_cmpR (op_neA (hu64 hr)) (pv 7) (pe_cmpR (op_eqA (hu64 hr)) (pe_ix ix_seq (pv 6) pe_int (fun _ _ => rfl)) pe_str (nomark _)) (nomark _))))) (pss_one (ps_ret pe_bl)) pss_nil))) pss_nil))) (pss_one (ps_ret pe_bl)))))))))))), ?_⟩
  try dsimp only [cxOf, Cx.nox]
  repeat' walk_at "st"
  refine c_state hs hl ?_
  intro st c H1 e1 hst hc so0
  repeat' walk_at "st"
  case refine_2.refine_1 =>
    rename_i pd Hd hpd ked hnd Hp0 kep
    obtain ⟨pp, rfl⟩ : ∃ pp, pp = p := ⟨p, rfl⟩
    have hpp := hp
    obtain ⟨X0, e0, iv0, l0⟩ : ∃ X0, X0 = g ∧ Inv X0 [] none ∧ X0.length ≤ 20 := ⟨g, rfl, by simpa using inv_gap inv_nil gk, gk.2.1⟩
    rw [← e0]
    have nfd : pd ∉ [st, c] := st_fresh (by walk_at "st_ok") hpd
    have nfp : pp ∉ [st, c] := st_fresh (by walk_at "st_ok") hpp
    have npd : pd ≠ pp := ne_of_none hnd hpp
    have hD : Hn pd = some (.lst []) := by walk_at "lift"
    have hP : Hn pp = some (.lst []) := by walk_at "lift"
    clear hs
    clear hpp hnd hpd hp hn kep ked
    refine w_rng (lo := 0) (n := dn.toNat) (fun i σ H' => ∃ (X : List Nat) (D : List Tok) (ps : List Pc) (ws vs : List V) (y5 y6 : Option V), σ = [some (.ref a), some (.ref st), some (.str (Tx X)), some (.ref pd), some (.ref pp), y5, y6, none] ∧ X.length ≤ 20 + 40 * i ∧ Inv X D ps.getLast? ∧ D.length = i ∧ ps.length = i ∧ (∀ x ∈ ps, x.ok) ∧ StOk st c H' ∧
      H' pd = some (.lst ws) ∧ ToksIn H' ws D ∧ H' pp = some (.lst vs) ∧ Paired (fun v x => Pc.In H' x v) vs ps) ⟨X0, [], [], [], [], none, none, rfl, by omega, iv0, rfl, rfl, (by simp), so, hD, .nil, hP, .nil⟩ ?_ ?_
    · clear q hD hP gk e0 iv0 l0
      rintro i σ H' hi ⟨X, D, ps, ws, vs, y5, y6, rfl, hX, iv, lD, lP, hok, so, hD, hin, hP, hps⟩
      have hi40 : i ≤ 40 := by omega
      have lw : ws.length = i := by rw [Paired.len hin]; exact lD
      have lv : vs.length = i := by rw [Paired.len hps]; exact lP
      repeat' walk_at "st"
      case' refine_1 =>
        obtain ⟨vl, pl, hvl, hpl, ⟨pb, rfl, hpb⟩⟩ := Paired.last hps (by omega)
        have okl : pl.ok := hok _ (List.mem_of_getLast? hpl)
        refine q_ixL (sql (by walk_at "lift" : Hn pp = some (.lst vs))) (atI_last hvl) ?_
        repeat' walk_at "st"
        refine c_apart okl pk ⟨_, rfl, by walk_at "lift"⟩ ⟨_, rfl, hpa⟩ (fun Ha ka => ?_)
        have soa := st_ex ka so
        cases hap : apart pl pc
        all_goals (repeat' walk_at "st")
      case' refine_1.refine_1.false.refine_1 =>
        obtain ⟨Y, eY, ivY, lY⟩ : ∃ Y, Y = X ++ g ∧ Inv (Y ++ pc.cs) (D ++ [(pc.kd, pc.v, 1 + (Y.count 10 : Int))]) (some pc) ∧ Y.length ≤ 40 + 40 * i := ⟨_, rfl, inv_piece (inv_gap iv gk) pk (fun _ e => by cases e), by rw [List.length_append]; have := gk.2.1; omega⟩
        refine q_addS (by have := gk.2.1; omega) ?_
        rw [← eY]
        repeat' walk_at "st"
      case' refine_1.refine_1.false.refine_2 =>
        obtain ⟨Y, eY, ivY, lY⟩ : ∃ Y, Y = X ∧ Inv (Y ++ pc.cs) (D ++ [(pc.kd, pc.v, 1 + (Y.count 10 : Int))]) (some pc) ∧ Y.length ≤ 40 + 40 * i := ⟨_, rfl, inv_piece iv pk (fun y e => by rw [hpl] at e; cases e; exact hap), by omega⟩
        rw [← eY]
      case' refine_1.refine_1.true =>
        obtain ⟨Y, eY, ivY, lY⟩ : ∃ Y, Y = X ++ g ∧ Inv (Y ++ pc.cs) (D ++ [(pc.kd, pc.v, 1 + (Y.count 10 : Int))]) (some pc) ∧ Y.length ≤ 40 + 40 * i := ⟨_, rfl, inv_piece (inv_gap iv gk) pk (fun _ e => by cases e), by rw [List.length_append]; have := gk.2.1; omega⟩
        refine q_addS (by have := gk.2.1; omega) ?_
        rw [← eY]
        repeat' walk_at "st"
      case' refine_1.refine_2 =>
        have hps0 : ps = [] := List.eq_nil_of_length_eq_zero (by omega)
        obtain ⟨Y, eY, ivY, lY⟩ : ∃ Y, Y = X ∧ Inv (Y ++ pc.cs) (D ++ [(pc.kd, pc.v, 1 + (Y.count 10 : Int))]) (some pc) ∧ Y.length ≤ 40 + 40 * i := ⟨_, rfl, inv_piece iv pk (fun y e => by rw [hps0] at e; cases e), by omega⟩
        rw [← eY]
      all_goals refine c_line (by omega) (fun H6 k6 => ?_)
      all_goals have so6 := st_ex k6 so
      all_goals (repeat' walk_at "st")
      all_goals have hD7 : Hn pd = some (.lst ws) := by walk_at "lift"
      all_goals have hP7 : Hn pp = some (.lst vs) := by walk_at "lift"
      all_goals have so7 : StOk st c Hn := by walk_at "st_ok"
      all_goals have hpa7 : Hn pa = some (.tup [.str pc.kd, pc.v, .str (Tx pc.cs)]) := by walk_at "lift"
      all_goals have t7 : ∀ b xs, H' b = some (.tup xs) → Hn b = some (.tup xs) := fun b xs hb => by walk_at "lift"
      all_goals refine q_append hD7 (by omega) ?_
      all_goals generalize hq : upd Hn pd _ = H8
      all_goals have k8 : Kp [pd, pp] Hn H8 := Kp.set (by simp) (fun xs e => by rw [hD7] at e; cases e) hq
      all_goals have hP8 : H8 pp = some (.lst vs) := by rw [← hq, upd_ne npd.symm]; exact hP7
      all_goals have hD8 := at_new hq
      all_goals have so8 : StOk st c H8 := by rw [← hq]; exact st_upd so7 nfd
      all_goals (repeat' walk_at "st")
      all_goals refine q_append hP8 (by omega) ?_
      all_goals generalize hq9 : upd H8 pp _ = H9
      all_goals have k9 : Kp [pd, pp] H8 H9 := Kp.set (by simp) (fun xs e => by rw [hP8] at e; cases e) hq9
      all_goals have hP9 := at_new hq9
      all_goals have hD9 : H9 pd = some (.lst (ws ++ [.ref p])) := by rw [← hq9, upd_ne npd]; exact hD8
      all_goals have so9 : StOk st c H9 := by rw [← hq9]; exact st_upd so8 nfp
      all_goals (repeat' walk_at "st")
      all_goals refine q_addS (by have := pk.2.2.2; omega) ?_
      all_goals have t9 : ∀ b xs, H' b = some (.tup xs) → H9 b = some (.tup xs) := fun b xs hb => k9.tup _ _ (k8.tup _ _ (t7 _ _ hb))
      all_goals exact ⟨Y ++ pc.cs, D ++ [(pc.kd, pc.v, 1 + (Y.count 10 : Int))], ps ++ [pc], ws ++ [.ref p], vs ++ [.ref pa], _, _, rfl, by rw [List.length_append]; have := pk.2.2.2; omega, by rw [List.getLast?_concat]; exact ivY,
        by rw [List.length_append, lD]; rfl, by rw [List.length_append, lP]; rfl, fun x hx => by
          rcases List.mem_append.mp hx with hx | hx
          · exact hok x hx
          · rw [List.mem_singleton.mp hx]; exact pk, so9, hD9, Paired.snoc (hin.up t9) ⟨p, rfl, k9.tup _ _ (k8.tup _ _ hn)⟩, hP9, Paired.snoc (Paired.mapP hps fun v x ⟨q, e, z⟩ => ⟨q, e, t9 _ _ z⟩) ⟨pa, rfl, k9.tup _ _ (k8.tup _ _ hpa7)⟩⟩
    · rintro σ H' ⟨X, D, ps, ws, vs, y5, y6, rfl, hX, iv, lD, lP, hok, so, hD, hin, hP, hps⟩
      have hn40 : dn.toNat ≤ 40 := by omega
      have lw : ws.length = dn.toNat := by rw [Paired.len hin]; exact lD
      have lv : vs.length = dn.toNat := by rw [Paired.len hps]; exact lP
      repeat' walk_at "st"
      case' refine_2.refine_1 =>
        obtain ⟨Z, eZ, ivZ, lZ⟩ : ∃ Z, Z = X ++ g ∧ Inv Z D none ∧ Z.length ≤ 1700 := ⟨_, rfl, inv_gap iv gk, by rw [List.length_append]; have := gk.2.1; omega⟩
        refine q_addS (by have := gk.2.1; omega) ?_
        rw [← eZ]
        repeat' walk_at "st"
      case' refine_2.refine_1.refine_1 =>
        obtain ⟨Y, eY, tkY, lY⟩ : ∃ Y, Y = Z ++ ENDc ∧ Tk Y 1 D (1 + (Y.count 10 : Int)) ∧ Y.length ≤ 2000 := ⟨_, rfl, inv_end ivZ, by rw [List.length_append]; have : ENDc.length = 6 := rfl; omega⟩
        rw [s_end]
        refine q_addS (by have : ENDc.length = 6 := rfl; omega) ?_
        rw [← eY]
        repeat' walk_at "st"
      case' refine_2.refine_1.refine_2 =>
        obtain ⟨Y, eY, tkY, lY⟩ : ∃ Y, Y = Z ∧ Tk Y 1 D (1 + (Y.count 10 : Int)) ∧ Y.length ≤ 2000 := ⟨_, rfl, inv_done ivZ, by omega⟩
        rw [← eY]
      case' refine_2.refine_2.refine_1 =>
        obtain ⟨Y, eY, tkY, lY⟩ : ∃ Y, Y = X ++ ENDc ∧ Tk Y 1 D (1 + (Y.count 10 : Int)) ∧ Y.length ≤ 2000 := ⟨_, rfl, inv_end iv, by rw [List.length_append]; have : ENDc.length = 6 := rfl; omega⟩
        rw [s_end]
        refine q_addS (by have : ENDc.length = 6 := rfl; omega) ?_
        rw [← eY]
        repeat' walk_at "st"
      case' refine_2.refine_2.refine_2 =>
        obtain ⟨Y, eY, tkY, lY⟩ : ∃ Y, Y = X ∧ Tk Y 1 D (1 + (Y.count 10 : Int)) ∧ Y.length ≤ 2000 := ⟨_, rfl, inv_done iv, by omega⟩
        rw [← eY]
      all_goals refine c_line (by omega) (fun H6 k6 => ?_)
      all_goals (repeat' walk_at "st")
      all_goals have hD7 : Hn pd = some (.lst ws) := by walk_at "lift"
      all_goals have hP7 : Hn pp = some (.lst vs) := by walk_at "lift"
      all_goals have t7 : ∀ b xs, H' b = some (.tup xs) → Hn b = some (.tup xs) := fun b xs hb => by walk_at "lift"
      all_goals refine q_append hD7 (by omega) ?_
      all_goals generalize hq : upd Hn pd _ = H8
      all_goals have k8 : Kp [pd] Hn H8 := Kp.set (by simp) (fun xs e => by rw [hD7] at e; cases e) hq
      all_goals have hP8 : H8 pp = some (.lst vs) := by rw [← hq, upd_ne npd.symm]; exact hP7
      all_goals have hD8 := at_new hq
      all_goals have t8 : ∀ b xs, H' b = some (.tup xs) → H8 b = some (.tup xs) := fun b xs hb => k8.tup _ _ (t7 _ _ hb)
      all_goals have hdue : ToksIn H8 (ws ++ [.ref p]) (D ++ [(("end" : Str), V.str "", 1 + (Y.count 10 : Int))]) := Paired.snoc (hin.up t8) ⟨p, rfl, k8.tup _ _ hn⟩
      all_goals have hpc8 : Paired (fun v x => Pc.In H8 x v) vs ps := Paired.mapP hps fun v x ⟨q, e, z⟩ => ⟨q, e, t8 _ _ z⟩
      all_goals (repeat' walk_at "st")
      all_goals refine c_tokenize (by omega) tkY (fun pt H10 wt hpt k10 hwt tin => ?_)
      all_goals (repeat' walk_at "st")
      all_goals have hsm : Sm 3 H10 (.ref pt) (.ref pd) := sm_toks hwt (k10 _ _ hD8) tkY (by omega) tin (hdue.up fun b xs hb => k10 _ _ hb)
      all_goals refine c_same (d := 3) hsm (fun H11 k11 => ?_)
      all_goals have hP11 : H11 pp = some (.lst vs) := k11 _ _ (k10 _ _ hP8)
      all_goals have hpc11 : Paired (fun v x => Pc.In H11 x v) vs ps := Paired.mapP hpc8 fun v x ⟨q, e, z⟩ => ⟨q, e, k11 _ _ (k10 _ _ z)⟩
      all_goals clear hsm hdue hpc8 tin hwt hpt k10 k11 t8 hD8 hP8 k8 hq t7 hP7 hD7 k6 hD hin hP hps iv so
      all_goals (repeat' walk_at "st")
      all_goals refine w_list (xs := vs) (fun i σ H' => Ex H11 H' ∧ ∃ y6 y7 : Option V, σ = [some (.ref a), some (.ref st), some (.str (Tx Y)), some (.ref pd), some (.ref pp), y5, y6, y7]) ⟨Ex.refl _, _, _, rfl⟩ (fun i σ H' _ h => sql (h.1 _ _ hP11)) ?_ ?_
      case' refine_2.refine_1.refine_1.refine_2 | refine_2.refine_1.refine_2.refine_2 | refine_2.refine_2.refine_1.refine_2 | refine_2.refine_2.refine_2.refine_2 =>
        rintro σ H' ⟨e, y6', y7', rfl⟩
        repeat' walk_at "st"
        all_goals exact q _
      all_goals rintro i x σ H' hx ⟨e, y6', y7', rfl⟩
      all_goals obtain ⟨⟨kd, v, cs⟩, hpi, ⟨pa, rfl, hpa⟩⟩ := Paired.at hpc11 hx
      all_goals have hto := (hok _ (List.mem_of_getElem? hpi)).1
      all_goals dsimp only at hto hpa
      all_goals have hpa' := e _ _ hpa
      all_goals cases hto
      all_goals (repeat' walk_at "st")
      all_goals first
        | exact ⟨by walk_at "ex", _, _, rfl⟩
        | refine c_res ?_
      all_goals first
        | rw [decide_eq_true (by assumption)]
        | rw [decide_eq_false (by assumption)]
      all_goals (repeat' walk_at "st")
      all_goals exact ⟨by walk_at "ex", _, _, rfl⟩
  case refine_2.refine_2 =>
    rename_i pd Hd hpd ked hnd Hp0 kep
    obtain ⟨pp, rfl⟩ : ∃ pp, pp = p := ⟨p, rfl⟩
    have hpp := hp
    obtain ⟨X0, e0, iv0, l0⟩ : ∃ X0 : List Nat, X0 = [] ∧ Inv X0 [] none ∧ X0.length ≤ 20 := ⟨[], rfl, inv_nil, by simp⟩
    subst e0
    have nfd : pd ∉ [st, c] := st_fresh (by walk_at "st_ok") hpd
    have nfp : pp ∉ [st, c] := st_fresh (by walk_at "st_ok") hpp
    have npd : pd ≠ pp := ne_of_none hnd hpp
    have hD : Hn pd = some (.lst []) := by walk_at "lift"
    have hP : Hn pp = some (.lst []) := by walk_at "lift"
    clear hs
    clear hpp hnd hpd hp hn kep ked
    refine w_rng (lo := 0) (n := dn.toNat) (fun i σ H' => ∃ (X : List Nat) (D : List Tok) (ps : List Pc) (ws vs : List V) (y5 y6 : Option V), σ = [some (.ref a), some (.ref st), some (.str (Tx X)), some (.ref pd), some (.ref pp), y5, y6, none] ∧ X.length ≤ 20 + 40 * i ∧ Inv X D ps.getLast? ∧ D.length = i ∧ ps.length = i ∧ (∀ x ∈ ps, x.ok) ∧ StOk st c H' ∧
      H' pd = some (.lst ws) ∧ ToksIn H' ws D ∧ H' pp = some (.lst vs) ∧ Paired (fun v x => Pc.In H' x v) vs ps) ⟨[], [], [], [], [], none, none, by rw [← s_emp]; rfl, by simp, iv0, rfl, rfl, (by simp), so, hD, .nil, hP, .nil⟩ ?_ ?_
    · clear q hD hP iv0 l0
      rintro i σ H' hi ⟨X, D, ps, ws, vs, y5, y6, rfl, hX, iv, lD, lP, hok, so, hD, hin, hP, hps⟩
      have hi40 : i ≤ 40 := by omega
      have lw : ws.length = i := by rw [Paired.len hin]; exact lD
      have lv : vs.length = i := by rw [Paired.len hps]; exact lP
      repeat' walk_at "st"
      case' refine_1 =>
        obtain ⟨vl, pl, hvl, hpl, ⟨pb, rfl, hpb⟩⟩ := Paired.last hps (by omega)
        have okl : pl.ok := hok _ (List.mem_of_getLast? hpl)
        refine q_ixL (sql (by walk_at "lift" : Hn pp = some (.lst vs))) (atI_last hvl) ?_
        repeat' walk_at "st"
        refine c_apart okl pk ⟨_, rfl, by walk_at "lift"⟩ ⟨_, rfl, hpa⟩ (fun Ha ka => ?_)
        have soa := st_ex ka so
        cases hap : apart pl pc
        all_goals (repeat' walk_at "st")
      case' refine_1.refine_1.false.refine_1 =>
        obtain ⟨Y, eY, ivY, lY⟩ : ∃ Y, Y = X ++ g ∧ Inv (Y ++ pc.cs) (D ++ [(pc.kd, pc.v, 1 + (Y.count 10 : Int))]) (some pc) ∧ Y.length ≤ 40 + 40 * i := ⟨_, rfl, inv_piece (inv_gap iv gk) pk (fun _ e => by cases e), by rw [List.length_append]; have := gk.2.1; omega⟩
        refine q_addS (by have := gk.2.1; omega) ?_
        rw [← eY]
        repeat' walk_at "st"
      case' refine_1.refine_1.false.refine_2 =>
        obtain ⟨Y, eY, ivY, lY⟩ : ∃ Y, Y = X ∧ Inv (Y ++ pc.cs) (D ++ [(pc.kd, pc.v, 1 + (Y.count 10 : Int))]) (some pc) ∧ Y.length ≤ 40 + 40 * i := ⟨_, rfl, inv_piece iv pk (fun y e => by rw [hpl] at e; cases e; exact hap), by omega⟩
        rw [← eY]
      case' refine_1.refine_1.true =>
        obtain ⟨Y, eY, ivY, lY⟩ : ∃ Y, Y = X ++ g ∧ Inv (Y ++ pc.cs) (D ++ [(pc.kd, pc.v, 1 + (Y.count 10 : Int))]) (some pc) ∧ Y.length ≤ 40 + 40 * i := ⟨_, rfl, inv_piece (inv_gap iv gk) pk (fun _ e => by cases e), by rw [List.length_append]; have := gk.2.1; omega⟩
        refine q_addS (by have := gk.2.1; omega) ?_
        rw [← eY]
        repeat' walk_at "st"
      case' refine_1.refine_2 =>
        have hps0 : ps = [] := List.eq_nil_of_length_eq_zero (by omega)
        obtain ⟨Y, eY, ivY, lY⟩ : ∃ Y, Y = X ∧ Inv (Y ++ pc.cs) (D ++ [(pc.kd, pc.v, 1 + (Y.count 10 : Int))]) (some pc) ∧ Y.length ≤ 40 + 40 * i := ⟨_, rfl, inv_piece iv pk (fun y e => by rw [hps0] at e; cases e), by omega⟩
        rw [← eY]
      all_goals refine c_line (by omega) (fun H6 k6 => ?_)
      all_goals have so6 := st_ex k6 so
      all_goals (repeat' walk_at "st")
      all_goals have hD7 : Hn pd = some (.lst ws) := by walk_at "lift"
      all_goals have hP7 : Hn pp = some (.lst vs) := by walk_at "lift"
      all_goals have so7 : StOk st c Hn := by walk_at "st_ok"
      all_goals have hpa7 : Hn pa = some (.tup [.str pc.kd, pc.v, .str (Tx pc.cs)]) := by walk_at "lift"
      all_goals have t7 : ∀ b xs, H' b = some (.tup xs) → Hn b = some (.tup xs) := fun b xs hb => by walk_at "lift"
      all_goals refine q_append hD7 (by omega) ?_
      all_goals generalize hq : upd Hn pd _ = H8
      all_goals have k8 : Kp [pd, pp] Hn H8 := Kp.set (by simp) (fun xs e => by rw [hD7] at e; cases e) hq
      all_goals have hP8 : H8 pp = some (.lst vs) := by rw [← hq, upd_ne npd.symm]; exact hP7
      all_goals have hD8 := at_new hq
      all_goals have so8 : StOk st c H8 := by rw [← hq]; exact st_upd so7 nfd
      all_goals (repeat' walk_at "st")
      all_goals refine q_append hP8 (by omega) ?_
      all_goals generalize hq9 : upd H8 pp _ = H9
      all_goals have k9 : Kp [pd, pp] H8 H9 := Kp.set (by simp) (fun xs e => by rw [hP8] at e; cases e) hq9
      all_goals have hP9 := at_new hq9
      all_goals have hD9 : H9 pd = some (.lst (ws ++ [.ref p])) := by rw [← hq9, upd_ne npd]; exact hD8
      all_goals have so9 : StOk st c H9 := by rw [← hq9]; exact st_upd so8 nfp
      all_goals (repeat' walk_at "st")
      all_goals refine q_addS (by have := pk.2.2.2; omega) ?_
      all_goals have t9 : ∀ b xs, H' b = some (.tup xs) → H9 b = some (.tup xs) := fun b xs hb => k9.tup _ _ (k8.tup _ _ (t7 _ _ hb))
      all_goals exact ⟨Y ++ pc.cs, D ++ [(pc.kd, pc.v, 1 + (Y.count 10 : Int))], ps ++ [pc], ws ++ [.ref p], vs ++ [.ref pa], _, _, rfl, by rw [List.length_append]; have := pk.2.2.2; omega, by rw [List.getLast?_concat]; exact ivY,
        by rw [List.length_append, lD]; rfl, by rw [List.length_append, lP]; rfl, fun x hx => by
          rcases List.mem_append.mp hx with hx | hx
          · exact hok x hx
          · rw [List.mem_singleton.mp hx]; exact pk, so9, hD9, Paired.snoc (hin.up t9) ⟨p, rfl, k9.tup _ _ (k8.tup _ _ hn)⟩, hP9, Paired.snoc (Paired.mapP hps fun v x ⟨q, e, z⟩ => ⟨q, e, t9 _ _ z⟩) ⟨pa, rfl, k9.tup _ _ (k8.tup _ _ hpa7)⟩⟩
    · rintro σ H' ⟨X, D, ps, ws, vs, y5, y6, rfl, hX, iv, lD, lP, hok, so, hD, hin, hP, hps⟩
      have hn40 : dn.toNat ≤ 40 := by omega
      have lw : ws.length = dn.toNat := by rw [Paired.len hin]; exact lD
      have lv : vs.length = dn.toNat := by rw [Paired.len hps]; exact lP
      repeat' walk_at "st"
      case' refine_2.refine_1 =>
        obtain ⟨Z, eZ, ivZ, lZ⟩ : ∃ Z, Z = X ++ g ∧ Inv Z D none ∧ Z.length ≤ 1700 := ⟨_, rfl, inv_gap iv gk, by rw [List.length_append]; have := gk.2.1; omega⟩
        refine q_addS (by have := gk.2.1; omega) ?_
        rw [← eZ]
        repeat' walk_at "st"
      case' refine_2.refine_1.refine_1 =>
        obtain ⟨Y, eY, tkY, lY⟩ : ∃ Y, Y = Z ++ ENDc ∧ Tk Y 1 D (1 + (Y.count 10 : Int)) ∧ Y.length ≤ 2000 := ⟨_, rfl, inv_end ivZ, by rw [List.length_append]; have : ENDc.length = 6 := rfl; omega⟩
        rw [s_end]
        refine q_addS (by have : ENDc.length = 6 := rfl; omega) ?_
        rw [← eY]
        repeat' walk_at "st"
      case' refine_2.refine_1.refine_2 =>
        obtain ⟨Y, eY, tkY, lY⟩ : ∃ Y, Y = Z ∧ Tk Y 1 D (1 + (Y.count 10 : Int)) ∧ Y.length ≤ 2000 := ⟨_, rfl, inv_done ivZ, by omega⟩
        rw [← eY]
      case' refine_2.refine_2.refine_1 =>
        obtain ⟨Y, eY, tkY, lY⟩ : ∃ Y, Y = X ++ ENDc ∧ Tk Y 1 D (1 + (Y.count 10 : Int)) ∧ Y.length ≤ 2000 := ⟨_, rfl, inv_end iv, by rw [List.length_append]; have : ENDc.length = 6 := rfl; omega⟩
        rw [s_end]
        refine q_addS (by have : ENDc.length = 6 := rfl; omega) ?_
        rw [← eY]
        repeat' walk_at "st"
      case' refine_2.refine_2.refine_2 =>
        obtain ⟨Y, eY, tkY, lY⟩ : ∃ Y, Y = X ∧ Tk Y 1 D (1 + (Y.count 10 : Int)) ∧ Y.length ≤ 2000 := ⟨_, rfl, inv_done iv, by omega⟩
        rw [← eY]
      all_goals refine c_line (by omega) (fun H6 k6 => ?_)
      all_goals (repeat' walk_at "st")
      all_goals have hD7 : Hn pd = some (.lst ws) := by walk_at "lift"
      all_goals have hP7 : Hn pp = some (.lst vs) := by walk_at "lift"
      all_goals have t7 : ∀ b xs, H' b = some (.tup xs) → Hn b = some (.tup xs) := fun b xs hb => by walk_at "lift"
      all_goals refine q_append hD7 (by omega) ?_
      all_goals generalize hq : upd Hn pd _ = H8
      all_goals have k8 : Kp [pd] Hn H8 := Kp.set (by simp) (fun xs e => by rw [hD7] at e; cases e) hq
      all_goals have hP8 : H8 pp = some (.lst vs) := by rw [← hq, upd_ne npd.symm]; exact hP7
      all_goals have hD8 := at_new hq
      all_goals have t8 : ∀ b xs, H' b = some (.tup xs) → H8 b = some (.tup xs) := fun b xs hb => k8.tup _ _ (t7 _ _ hb)
      all_goals have hdue : ToksIn H8 (ws ++ [.ref p]) (D ++ [(("end" : Str), V.str "", 1 + (Y.count 10 : Int))]) := Paired.snoc (hin.up t8) ⟨p, rfl, k8.tup _ _ hn⟩
      all_goals have hpc8 : Paired (fun v x => Pc.In H8 x v) vs ps := Paired.mapP hps fun v x ⟨q, e, z⟩ => ⟨q, e, t8 _ _ z⟩
      all_goals (repeat' walk_at "st")
      all_goals refine c_tokenize (by omega) tkY (fun pt H10 wt hpt k10 hwt tin => ?_)
      all_goals (repeat' walk_at "st")
      all_goals have hsm : Sm 3 H10 (.ref pt) (.ref pd) := sm_toks hwt (k10 _ _ hD8) tkY (by omega) tin (hdue.up fun b xs hb => k10 _ _ hb)
      all_goals refine c_same (d := 3) hsm (fun H11 k11 => ?_)
      all_goals have hP11 : H11 pp = some (.lst vs) := k11 _ _ (k10 _ _ hP8)
      all_goals have hpc11 : Paired (fun v x => Pc.In H11 x v) vs ps := Paired.mapP hpc8 fun v x ⟨q, e, z⟩ => ⟨q, e, k11 _ _ (k10 _ _ z)⟩
      all_goals clear hsm hdue hpc8 tin hwt hpt k10 k11 t8 hD8 hP8 k8 hq t7 hP7 hD7 k6 hD hin hP hps iv so
      all_goals (repeat' walk_at "st")
      all_goals refine w_list (xs := vs) (fun i σ H' => Ex H11 H' ∧ ∃ y6 y7 : Option V, σ = [some (.ref a), some (.ref st), some (.str (Tx Y)), some (.ref pd), some (.ref pp), y5, y6, y7]) ⟨Ex.refl _, _, _, rfl⟩ (fun i σ H' _ h => sql (h.1 _ _ hP11)) ?_ ?_
      case' refine_2.refine_1.refine_1.refine_2 | refine_2.refine_1.refine_2.refine_2 | refine_2.refine_2.refine_1.refine_2 | refine_2.refine_2.refine_2.refine_2 =>
        rintro σ H' ⟨e, y6', y7', rfl⟩
        repeat' walk_at "st"
        all_goals exact q _
      all_goals rintro i x σ H' hx ⟨e, y6', y7', rfl⟩
      all_goals obtain ⟨⟨kd, v, cs⟩, hpi, ⟨pa, rfl, hpa⟩⟩ := Paired.at hpc11 hx
      all_goals have hto := (hok _ (List.mem_of_getElem? hpi)).1
      all_goals dsimp only at hto hpa
      all_goals have hpa' := e _ _ hpa
      all_goals cases hto
      all_goals (repeat' walk_at "st")
      all_goals first
        | exact ⟨by walk_at "ex", _, _, rfl⟩
        | refine c_res ?_
      all_goals first
        | rw [decide_eq_true (by assumption)]
        | rw [decide_eq_false (by assumption)]
      all_goals (repeat' walk_at "st")
      all_goals exact ⟨by walk_at "ex", _, _, rfl⟩
def chkT : List Str → List Value → Bool
  | [], [] => true
  | s :: l, .str z _ :: us => decide (z = s) && chkT l us
  | _, _ => false
theorem chkT_vals : ∀ {l : List Str} {us : List Value}, chkT l us = true → Vals (l.map V.str) us
  | [], [], _ => .nil
  | [], _ :: _, h => by simp [chkT] at h
  | s :: l, us, h => by
    unfold chkT at h
    split at h
    · next e => cases e
    · next e =>
      cases e
      rw [Bool.and_eq_true] at h
      have hz := of_decide_eq_true h.1
      subst hz
      exact .cons ⟨_, rfl⟩ (chkT_vals h.2)
    · cases h
theorem tupk_of {a : Addr} {od : Option Addr} {its : Array Value} {n : Nat} {sl : Array (Option Value)} {l : List Str} (h : K.lookup a = some ⟨.type "tuple", od, .seq its n, sl⟩) (v : chkT l its.toList = true) (hl : l.length ≤ 1000) : TupK K a l := by
  have hv := chkT_vals v
  have e := Vals.length hv
  rw [List.length_map, Array.length_toList] at e
  exact ⟨_, its, n, h, rfl, rfl, sl1000 (Nat.le_trans (Nat.le_of_eq e.symm) (Nat.le_trans hl (by decide))), hv⟩
theorem build_law {fd : FuncData} {fa : Addr} (F : Fun K "law" "law" s_law fa fd) (T : Glo K mg) (D_tokenize : Dn K mg "tokenize" s_tokenize p_tokenize) (D_is_reserved : Dn K mg "is_reserved" s_is_reserved p_is_reserved) (D_comment_end : Dn K mg "comment_end" s_comment_end p_comment_end) (D_part_at : Dn K mg "part_at" s_part_at p_part_at) (D_in_run : Dn K mg "in_run" s_in_run p_in_run) (D_token_of : Dn K mg "token_of" s_token_of p_token_of) (D_is_name : Dn K mg "is_name" s_is_name p_is_name) (D_is_number : Dn K mg "is_number" s_is_number p_is_number) (D_all_digits : Dn K mg "all_digits" s_all_digits p_all_digits) (D__law_state : Dn K mg "_law_state" s__law_state p__law_state) (D__law_draw : Dn K mg "_law_draw" s__law_draw p__law_draw) (D__law_pick : Dn K mg "_law_pick" s__law_pick p__law_pick) (D__law_words : Dn K mg "_law_words" s__law_words p__law_words) (D__law_signs : Dn K mg "_law_signs" s__law_signs p__law_signs) (D__law_any_name : Dn K mg "_law_any_name" s__law_any_name p__law_any_name) (D__law_piece : Dn K mg "_law_piece" s__law_piece p__law_piece) (D__law_gap : Dn K mg "_law_gap" s__law_gap p__law_gap) (D__law_apart : Dn K mg "_law_apart" s__law_apart p__law_apart) (D__law_line : Dn K mg "_law_line" s__law_line p__law_line) (D__law_same : Dn K mg "_law_same" s__law_same p__law_same) : FnOk P w K mg base CX0 5 fa fd ["script"] (sp_law K) := by
  have ru := ok_run (P := P) (w := w) (base := base) T D_in_run
  have ce := ok_cend (P := P) (w := w) (base := base) T D_comment_end
  have pa := ok_part T D_part_at ru
  have rs := ok_res (P := P) (w := w) (base := base) T D_is_reserved
  have nm := ok_name (P := P) (w := w) (base := base) T D_is_name
  have di := ok_digs (P := P) (w := w) (base := base) T D_all_digits
  have nu := ok_isnum T D_is_number di
  have to := ok_token T D_token_of rs nm nu
  have tz := ok_tokenize T D_tokenize ce pa to
  have dr := ok_draw (P := P) (w := w) (base := base) T D__law_draw
  have pi := ok_pick T D__law_pick dr
  have wo := ok_words (P := P) (w := w) (base := base) T D__law_words
  have si := ok_signs (P := P) (w := w) (base := base) T D__law_signs
  have an := ok_aname T D__law_any_name dr wo
  have pc := ok_piece T D__law_piece dr pi wo si an
  have ga := ok_gap T D__law_gap dr pi
  exact body_law (F := F) T (ok_state T D__law_state) dr ga pc (ok_apart T D__law_apart) (ok_line T D__law_line) (same_all T D__law_same 3) tz rs
theorem dn_mk {h : Heap} {x : Str} {st : Stmt} {ps : List Str} {f : Addr} {oc : Value} {od an : Option Addr} {osl : Array (Option Value)} {kV doc pm cdv ct : Value} (X : K.In h) (G : h.Ns mainGlobals mg) (a : PySem.W.nsIn K mainGlobals x = some (some (.ref f)))
    (l : K.lookup f = some ⟨oc, od, .func (PySem.W.fnOf x x (defArgs st) (defBody st) (defScope st) .none kV doc pm an cdv ct), osl⟩) (c : PySem.W.codeIn K cdv x = true) (k : PySem.W.keepIn K (.ref f) = true)
    (hb : ∀ (kV doc pm : Value) (an : Option Addr) (cdv ct : Value) (us : List Value), us.length = ps.length → bindArgs (PySem.W.fnOf x x (defArgs st) (defBody st) (defScope st) .none kV doc pm an cdv ct) ⟨us, []⟩ = pure (ps.zip us)) : Dn K mg x st ps :=
  ⟨f, _, fun_mk l c k, PySem.W.mg_of X G a, (fun_mk l c k).binds hb⟩
theorem all_mk {l : PySem.W.OpenLaw} {w : World} {K : PySem.W.Frag} {h : Heap} {mg : Str → Option Value} {fa : Addr} (X : K.In h) (G : h.Ns mainGlobals mg) (hfa : mg "law" = some (.ref fa))
    {f0 : Addr} {od0 an0 : Option Addr} {sl0 : Array (Option Value)} {oc0 kV0 dc0 pm0 cd0 ct0 : Value}
    {f1 : Addr} {od1 an1 : Option Addr} {sl1 : Array (Option Value)} {oc1 kV1 dc1 pm1 cd1 ct1 : Value}
    {f2 : Addr} {od2 an2 : Option Addr} {sl2 : Array (Option Value)} {oc2 kV2 dc2 pm2 cd2 ct2 : Value}
    {f3 : Addr} {od3 an3 : Option Addr} {sl3 : Array (Option Value)} {oc3 kV3 dc3 pm3 cd3 ct3 : Value}
    {f4 : Addr} {od4 an4 : Option Addr} {sl4 : Array (Option Value)} {oc4 kV4 dc4 pm4 cd4 ct4 : Value}
    {f5 : Addr} {od5 an5 : Option Addr} {sl5 : Array (Option Value)} {oc5 kV5 dc5 pm5 cd5 ct5 : Value}
    {f6 : Addr} {od6 an6 : Option Addr} {sl6 : Array (Option Value)} {oc6 kV6 dc6 pm6 cd6 ct6 : Value}
    {f7 : Addr} {od7 an7 : Option Addr} {sl7 : Array (Option Value)} {oc7 kV7 dc7 pm7 cd7 ct7 : Value}
    {f8 : Addr} {od8 an8 : Option Addr} {sl8 : Array (Option Value)} {oc8 kV8 dc8 pm8 cd8 ct8 : Value}
    {f9 : Addr} {od9 an9 : Option Addr} {sl9 : Array (Option Value)} {oc9 kV9 dc9 pm9 cd9 ct9 : Value}
    {f10 : Addr} {od10 an10 : Option Addr} {sl10 : Array (Option Value)} {oc10 kV10 dc10 pm10 cd10 ct10 : Value}
    {f11 : Addr} {od11 an11 : Option Addr} {sl11 : Array (Option Value)} {oc11 kV11 dc11 pm11 cd11 ct11 : Value}
    {f12 : Addr} {od12 an12 : Option Addr} {sl12 : Array (Option Value)} {oc12 kV12 dc12 pm12 cd12 ct12 : Value}
    {f13 : Addr} {od13 an13 : Option Addr} {sl13 : Array (Option Value)} {oc13 kV13 dc13 pm13 cd13 ct13 : Value}
    {f14 : Addr} {od14 an14 : Option Addr} {sl14 : Array (Option Value)} {oc14 kV14 dc14 pm14 cd14 ct14 : Value}
    {f15 : Addr} {od15 an15 : Option Addr} {sl15 : Array (Option Value)} {oc15 kV15 dc15 pm15 cd15 ct15 : Value}
    {f16 : Addr} {od16 an16 : Option Addr} {sl16 : Array (Option Value)} {oc16 kV16 dc16 pm16 cd16 ct16 : Value}
    {f17 : Addr} {od17 an17 : Option Addr} {sl17 : Array (Option Value)} {oc17 kV17 dc17 pm17 cd17 ct17 : Value}
    {f18 : Addr} {od18 an18 : Option Addr} {sl18 : Array (Option Value)} {oc18 kV18 dc18 pm18 cd18 ct18 : Value}
    {f19 : Addr} {od19 an19 : Option Addr} {sl19 : Array (Option Value)} {oc19 kV19 dc19 pm19 cd19 ct19 : Value}
    {f20 : Addr} {od20 an20 : Option Addr} {sl20 : Array (Option Value)} {oc20 kV20 dc20 pm20 cd20 ct20 : Value}
    (a0 : PySem.W.nsIn K mainGlobals "tokenize" = some (some (.ref f0))) (l0 : K.lookup f0 = some ⟨oc0, od0, .func (PySem.W.fnOf "tokenize" "tokenize" (defArgs s_tokenize) (defBody s_tokenize) (defScope s_tokenize) .none kV0 dc0 pm0 an0 cd0 ct0), sl0⟩) (c0 : PySem.W.codeIn K cd0 "tokenize" = true) (k0 : PySem.W.keepIn K (.ref f0) = true)
    (a1 : PySem.W.nsIn K mainGlobals "is_reserved" = some (some (.ref f1))) (l1 : K.lookup f1 = some ⟨oc1, od1, .func (PySem.W.fnOf "is_reserved" "is_reserved" (defArgs s_is_reserved) (defBody s_is_reserved) (defScope s_is_reserved) .none kV1 dc1 pm1 an1 cd1 ct1), sl1⟩) (c1 : PySem.W.codeIn K cd1 "is_reserved" = true) (k1 : PySem.W.keepIn K (.ref f1) = true)
    (a2 : PySem.W.nsIn K mainGlobals "comment_end" = some (some (.ref f2))) (l2 : K.lookup f2 = some ⟨oc2, od2, .func (PySem.W.fnOf "comment_end" "comment_end" (defArgs s_comment_end) (defBody s_comment_end) (defScope s_comment_end) .none kV2 dc2 pm2 an2 cd2 ct2), sl2⟩) (c2 : PySem.W.codeIn K cd2 "comment_end" = true) (k2 : PySem.W.keepIn K (.ref f2) = true)
    (a3 : PySem.W.nsIn K mainGlobals "part_at" = some (some (.ref f3))) (l3 : K.lookup f3 = some ⟨oc3, od3, .func (PySem.W.fnOf "part_at" "part_at" (defArgs s_part_at) (defBody s_part_at) (defScope s_part_at) .none kV3 dc3 pm3 an3 cd3 ct3), sl3⟩) (c3 : PySem.W.codeIn K cd3 "part_at" = true) (k3 : PySem.W.keepIn K (.ref f3) = true)
    (a4 : PySem.W.nsIn K mainGlobals "in_run" = some (some (.ref f4))) (l4 : K.lookup f4 = some ⟨oc4, od4, .func (PySem.W.fnOf "in_run" "in_run" (defArgs s_in_run) (defBody s_in_run) (defScope s_in_run) .none kV4 dc4 pm4 an4 cd4 ct4), sl4⟩) (c4 : PySem.W.codeIn K cd4 "in_run" = true) (k4 : PySem.W.keepIn K (.ref f4) = true)
    (a5 : PySem.W.nsIn K mainGlobals "token_of" = some (some (.ref f5))) (l5 : K.lookup f5 = some ⟨oc5, od5, .func (PySem.W.fnOf "token_of" "token_of" (defArgs s_token_of) (defBody s_token_of) (defScope s_token_of) .none kV5 dc5 pm5 an5 cd5 ct5), sl5⟩) (c5 : PySem.W.codeIn K cd5 "token_of" = true) (k5 : PySem.W.keepIn K (.ref f5) = true)
    (a6 : PySem.W.nsIn K mainGlobals "is_name" = some (some (.ref f6))) (l6 : K.lookup f6 = some ⟨oc6, od6, .func (PySem.W.fnOf "is_name" "is_name" (defArgs s_is_name) (defBody s_is_name) (defScope s_is_name) .none kV6 dc6 pm6 an6 cd6 ct6), sl6⟩) (c6 : PySem.W.codeIn K cd6 "is_name" = true) (k6 : PySem.W.keepIn K (.ref f6) = true)
    (a7 : PySem.W.nsIn K mainGlobals "is_number" = some (some (.ref f7))) (l7 : K.lookup f7 = some ⟨oc7, od7, .func (PySem.W.fnOf "is_number" "is_number" (defArgs s_is_number) (defBody s_is_number) (defScope s_is_number) .none kV7 dc7 pm7 an7 cd7 ct7), sl7⟩) (c7 : PySem.W.codeIn K cd7 "is_number" = true) (k7 : PySem.W.keepIn K (.ref f7) = true)
    (a8 : PySem.W.nsIn K mainGlobals "all_digits" = some (some (.ref f8))) (l8 : K.lookup f8 = some ⟨oc8, od8, .func (PySem.W.fnOf "all_digits" "all_digits" (defArgs s_all_digits) (defBody s_all_digits) (defScope s_all_digits) .none kV8 dc8 pm8 an8 cd8 ct8), sl8⟩) (c8 : PySem.W.codeIn K cd8 "all_digits" = true) (k8 : PySem.W.keepIn K (.ref f8) = true)
    (a9 : PySem.W.nsIn K mainGlobals "_law_state" = some (some (.ref f9))) (l9 : K.lookup f9 = some ⟨oc9, od9, .func (PySem.W.fnOf "_law_state" "_law_state" (defArgs s__law_state) (defBody s__law_state) (defScope s__law_state) .none kV9 dc9 pm9 an9 cd9 ct9), sl9⟩) (c9 : PySem.W.codeIn K cd9 "_law_state" = true) (k9 : PySem.W.keepIn K (.ref f9) = true)
    (a10 : PySem.W.nsIn K mainGlobals "_law_draw" = some (some (.ref f10))) (l10 : K.lookup f10 = some ⟨oc10, od10, .func (PySem.W.fnOf "_law_draw" "_law_draw" (defArgs s__law_draw) (defBody s__law_draw) (defScope s__law_draw) .none kV10 dc10 pm10 an10 cd10 ct10), sl10⟩) (c10 : PySem.W.codeIn K cd10 "_law_draw" = true) (k10 : PySem.W.keepIn K (.ref f10) = true)
    (a11 : PySem.W.nsIn K mainGlobals "_law_pick" = some (some (.ref f11))) (l11 : K.lookup f11 = some ⟨oc11, od11, .func (PySem.W.fnOf "_law_pick" "_law_pick" (defArgs s__law_pick) (defBody s__law_pick) (defScope s__law_pick) .none kV11 dc11 pm11 an11 cd11 ct11), sl11⟩) (c11 : PySem.W.codeIn K cd11 "_law_pick" = true) (k11 : PySem.W.keepIn K (.ref f11) = true)
    (a12 : PySem.W.nsIn K mainGlobals "_law_words" = some (some (.ref f12))) (l12 : K.lookup f12 = some ⟨oc12, od12, .func (PySem.W.fnOf "_law_words" "_law_words" (defArgs s__law_words) (defBody s__law_words) (defScope s__law_words) .none kV12 dc12 pm12 an12 cd12 ct12), sl12⟩) (c12 : PySem.W.codeIn K cd12 "_law_words" = true) (k12 : PySem.W.keepIn K (.ref f12) = true)
    (a13 : PySem.W.nsIn K mainGlobals "_law_signs" = some (some (.ref f13))) (l13 : K.lookup f13 = some ⟨oc13, od13, .func (PySem.W.fnOf "_law_signs" "_law_signs" (defArgs s__law_signs) (defBody s__law_signs) (defScope s__law_signs) .none kV13 dc13 pm13 an13 cd13 ct13), sl13⟩) (c13 : PySem.W.codeIn K cd13 "_law_signs" = true) (k13 : PySem.W.keepIn K (.ref f13) = true)
    (a14 : PySem.W.nsIn K mainGlobals "_law_any_name" = some (some (.ref f14))) (l14 : K.lookup f14 = some ⟨oc14, od14, .func (PySem.W.fnOf "_law_any_name" "_law_any_name" (defArgs s__law_any_name) (defBody s__law_any_name) (defScope s__law_any_name) .none kV14 dc14 pm14 an14 cd14 ct14), sl14⟩) (c14 : PySem.W.codeIn K cd14 "_law_any_name" = true) (k14 : PySem.W.keepIn K (.ref f14) = true)
    (a15 : PySem.W.nsIn K mainGlobals "_law_piece" = some (some (.ref f15))) (l15 : K.lookup f15 = some ⟨oc15, od15, .func (PySem.W.fnOf "_law_piece" "_law_piece" (defArgs s__law_piece) (defBody s__law_piece) (defScope s__law_piece) .none kV15 dc15 pm15 an15 cd15 ct15), sl15⟩) (c15 : PySem.W.codeIn K cd15 "_law_piece" = true) (k15 : PySem.W.keepIn K (.ref f15) = true)
    (a16 : PySem.W.nsIn K mainGlobals "_law_gap" = some (some (.ref f16))) (l16 : K.lookup f16 = some ⟨oc16, od16, .func (PySem.W.fnOf "_law_gap" "_law_gap" (defArgs s__law_gap) (defBody s__law_gap) (defScope s__law_gap) .none kV16 dc16 pm16 an16 cd16 ct16), sl16⟩) (c16 : PySem.W.codeIn K cd16 "_law_gap" = true) (k16 : PySem.W.keepIn K (.ref f16) = true)
    (a17 : PySem.W.nsIn K mainGlobals "_law_apart" = some (some (.ref f17))) (l17 : K.lookup f17 = some ⟨oc17, od17, .func (PySem.W.fnOf "_law_apart" "_law_apart" (defArgs s__law_apart) (defBody s__law_apart) (defScope s__law_apart) .none kV17 dc17 pm17 an17 cd17 ct17), sl17⟩) (c17 : PySem.W.codeIn K cd17 "_law_apart" = true) (k17 : PySem.W.keepIn K (.ref f17) = true)
    (a18 : PySem.W.nsIn K mainGlobals "_law_line" = some (some (.ref f18))) (l18 : K.lookup f18 = some ⟨oc18, od18, .func (PySem.W.fnOf "_law_line" "_law_line" (defArgs s__law_line) (defBody s__law_line) (defScope s__law_line) .none kV18 dc18 pm18 an18 cd18 ct18), sl18⟩) (c18 : PySem.W.codeIn K cd18 "_law_line" = true) (k18 : PySem.W.keepIn K (.ref f18) = true)
    (a19 : PySem.W.nsIn K mainGlobals "_law_same" = some (some (.ref f19))) (l19 : K.lookup f19 = some ⟨oc19, od19, .func (PySem.W.fnOf "_law_same" "_law_same" (defArgs s__law_same) (defBody s__law_same) (defScope s__law_same) .none kV19 dc19 pm19 an19 cd19 ct19), sl19⟩) (c19 : PySem.W.codeIn K cd19 "_law_same" = true) (k19 : PySem.W.keepIn K (.ref f19) = true)
    (a20 : PySem.W.nsIn K mainGlobals "law" = some (some (.ref f20))) (l20 : K.lookup f20 = some ⟨oc20, od20, .func (PySem.W.fnOf "law" "law" (defArgs s_law) (defBody s_law) (defScope s_law) .none kV20 dc20 pm20 an20 cd20 ct20), sl20⟩) (c20 : PySem.W.codeIn K cd20 "law" = true) (k20 : PySem.W.keepIn K (.ref f20) = true)
    (z_n_len : PySem.W.nsIn K mainGlobals "len" = some none) (z_n_int : PySem.W.nsIn K mainGlobals "int" = some none) (z_n_str : PySem.W.nsIn K mainGlobals "str" = some none) (z_n_abs : PySem.W.nsIn K mainGlobals "abs" = some none) (z_n_range : PySem.W.nsIn K mainGlobals "range" = some none) (z_n_list : PySem.W.nsIn K mainGlobals "list" = some none) (z_n_tuple : PySem.W.nsIn K mainGlobals "tuple" = some none) (z_n_bool : PySem.W.nsIn K mainGlobals "bool" = some none) (z_n_all : PySem.W.nsIn K mainGlobals "all" = some none) (z_n_isinstance : PySem.W.nsIn K mainGlobals "isinstance" = some none) {t_c_LETTERS : PySem.Tok} (z_c_LETTERS : PySem.W.nsIn K mainGlobals "LETTERS" = some (some (.str LETs t_c_LETTERS))) {t_c_DIGITS : PySem.Tok} (z_c_DIGITS : PySem.W.nsIn K mainGlobals "DIGITS" = some (some (.str DIGs t_c_DIGITS))) {t_c_LONGEST_NAME : PySem.Tok} (z_c_LONGEST_NAME : PySem.W.nsIn K mainGlobals "LONGEST_NAME" = some (some (.int 16 t_c_LONGEST_NAME))) {t_c_LONGEST_NUMBER : PySem.Tok} (z_c_LONGEST_NUMBER : PySem.W.nsIn K mainGlobals "LONGEST_NUMBER" = some (some (.int 5 t_c_LONGEST_NUMBER))) {t_c_GREATEST_WORD : PySem.Tok} (z_c_GREATEST_WORD : PySem.W.nsIn K mainGlobals "GREATEST_WORD" = some (some (.int 65535 t_c_GREATEST_WORD))) {a_c_RESERVED : Addr} {od_c_RESERVED : Option Addr} {it_c_RESERVED : Array Value} {n_c_RESERVED : Nat} {sl_c_RESERVED : Array (Option Value)} (z_c_RESERVED : PySem.W.nsIn K mainGlobals "RESERVED" = some (some (.ref a_c_RESERVED))) (zl_c_RESERVED : K.lookup a_c_RESERVED = some ⟨.type "tuple", od_c_RESERVED, .seq it_c_RESERVED n_c_RESERVED, sl_c_RESERVED⟩) (zv_c_RESERVED : chkT RES it_c_RESERVED.toList = true) {a_c_SIGNS : Addr} {od_c_SIGNS : Option Addr} {it_c_SIGNS : Array Value} {n_c_SIGNS : Nat} {sl_c_SIGNS : Array (Option Value)} (z_c_SIGNS : PySem.W.nsIn K mainGlobals "SIGNS" = some (some (.ref a_c_SIGNS))) (zl_c_SIGNS : K.lookup a_c_SIGNS = some ⟨.type "tuple", od_c_SIGNS, .seq it_c_SIGNS n_c_SIGNS, sl_c_SIGNS⟩) (zv_c_SIGNS : chkT SIG it_c_SIGNS.toList = true) :
    ∃ fd : FuncData, (∀ (s : Shared) (v : Value), BindsTo s fd ⟨[v], []⟩ [("script", v)]) ∧ ∀ base : Heap, K.In base → base.Ns mainGlobals mg → FnOk l.prog w K mg base CX0 5 fa fd ["script"] (sp_law K) := by
  have e := hfa.symm.trans (PySem.W.mg_of X G a20)
  cases e
  have FL := fun_mk (st := s_law) l20 c20 k20
  have D_tokenize : Dn K mg "tokenize" s_tokenize p_tokenize := dn_mk X G a0 l0 c0 k0 (fun _ _ _ _ _ _ us hl => match us, hl with | [_], _ => rfl)
  have D_is_reserved : Dn K mg "is_reserved" s_is_reserved p_is_reserved := dn_mk X G a1 l1 c1 k1 (fun _ _ _ _ _ _ us hl => match us, hl with | [_], _ => rfl)
  have D_comment_end : Dn K mg "comment_end" s_comment_end p_comment_end := dn_mk X G a2 l2 c2 k2 (fun _ _ _ _ _ _ us hl => match us, hl with | [_, _], _ => rfl)
  have D_part_at : Dn K mg "part_at" s_part_at p_part_at := dn_mk X G a3 l3 c3 k3 (fun _ _ _ _ _ _ us hl => match us, hl with | [_, _], _ => rfl)
  have D_in_run : Dn K mg "in_run" s_in_run p_in_run := dn_mk X G a4 l4 c4 k4 (fun _ _ _ _ _ _ us hl => match us, hl with | [_], _ => rfl)
  have D_token_of : Dn K mg "token_of" s_token_of p_token_of := dn_mk X G a5 l5 c5 k5 (fun _ _ _ _ _ _ us hl => match us, hl with | [_, _], _ => rfl)
  have D_is_name : Dn K mg "is_name" s_is_name p_is_name := dn_mk X G a6 l6 c6 k6 (fun _ _ _ _ _ _ us hl => match us, hl with | [_], _ => rfl)
  have D_is_number : Dn K mg "is_number" s_is_number p_is_number := dn_mk X G a7 l7 c7 k7 (fun _ _ _ _ _ _ us hl => match us, hl with | [_], _ => rfl)
  have D_all_digits : Dn K mg "all_digits" s_all_digits p_all_digits := dn_mk X G a8 l8 c8 k8 (fun _ _ _ _ _ _ us hl => match us, hl with | [_], _ => rfl)
  have D__law_state : Dn K mg "_law_state" s__law_state p__law_state := dn_mk X G a9 l9 c9 k9 (fun _ _ _ _ _ _ us hl => match us, hl with | [_], _ => rfl)
  have D__law_draw : Dn K mg "_law_draw" s__law_draw p__law_draw := dn_mk X G a10 l10 c10 k10 (fun _ _ _ _ _ _ us hl => match us, hl with | [_, _], _ => rfl)
  have D__law_pick : Dn K mg "_law_pick" s__law_pick p__law_pick := dn_mk X G a11 l11 c11 k11 (fun _ _ _ _ _ _ us hl => match us, hl with | [_, _], _ => rfl)
  have D__law_words : Dn K mg "_law_words" s__law_words p__law_words := dn_mk X G a12 l12 c12 k12 (fun _ _ _ _ _ _ us hl => match us, hl with | [], _ => rfl)
  have D__law_signs : Dn K mg "_law_signs" s__law_signs p__law_signs := dn_mk X G a13 l13 c13 k13 (fun _ _ _ _ _ _ us hl => match us, hl with | [], _ => rfl)
  have D__law_any_name : Dn K mg "_law_any_name" s__law_any_name p__law_any_name := dn_mk X G a14 l14 c14 k14 (fun _ _ _ _ _ _ us hl => match us, hl with | [_], _ => rfl)
  have D__law_piece : Dn K mg "_law_piece" s__law_piece p__law_piece := dn_mk X G a15 l15 c15 k15 (fun _ _ _ _ _ _ us hl => match us, hl with | [_], _ => rfl)
  have D__law_gap : Dn K mg "_law_gap" s__law_gap p__law_gap := dn_mk X G a16 l16 c16 k16 (fun _ _ _ _ _ _ us hl => match us, hl with | [_], _ => rfl)
  have D__law_apart : Dn K mg "_law_apart" s__law_apart p__law_apart := dn_mk X G a17 l17 c17 k17 (fun _ _ _ _ _ _ us hl => match us, hl with | [_, _], _ => rfl)
  have D__law_line : Dn K mg "_law_line" s__law_line p__law_line := dn_mk X G a18 l18 c18 k18 (fun _ _ _ _ _ _ us hl => match us, hl with | [_], _ => rfl)
  have D__law_same : Dn K mg "_law_same" s__law_same p__law_same := dn_mk X G a19 l19 c19 k19 (fun _ _ _ _ _ _ us hl => match us, hl with | [_, _], _ => rfl)
  have T : Glo K mg := ⟨PySem.W.mg_none_of X G z_n_len, PySem.W.mg_none_of X G z_n_int, PySem.W.mg_none_of X G z_n_str, PySem.W.mg_none_of X G z_n_abs, PySem.W.mg_none_of X G z_n_range, PySem.W.mg_none_of X G z_n_list, PySem.W.mg_none_of X G z_n_tuple, PySem.W.mg_none_of X G z_n_bool, PySem.W.mg_none_of X G z_n_all, PySem.W.mg_none_of X G z_n_isinstance, ⟨_, PySem.W.mg_of X G z_c_LETTERS⟩, ⟨_, PySem.W.mg_of X G z_c_DIGITS⟩, ⟨_, PySem.W.mg_of X G z_c_LONGEST_NAME⟩, ⟨_, PySem.W.mg_of X G z_c_LONGEST_NUMBER⟩, ⟨_, PySem.W.mg_of X G z_c_GREATEST_WORD⟩, ⟨_, PySem.W.mg_of X G z_c_RESERVED, tupk_of zl_c_RESERVED zv_c_RESERVED (by decide)⟩, ⟨_, PySem.W.mg_of X G z_c_SIGNS, tupk_of zl_c_SIGNS zv_c_SIGNS (by decide)⟩⟩
  refine ⟨PySem.W.fnOf "law" "law" (defArgs s_law) (defBody s_law) (defScope s_law) .none kV20 dc20 pm20 an20 cd20 ct20, fun s v => .of_eq rfl, fun base _ _ => ?_⟩
  exact build_law FL T D_tokenize D_is_reserved D_comment_end D_part_at D_in_run D_token_of D_is_name D_is_number D_all_digits D__law_state D__law_draw D__law_pick D__law_words D__law_signs D__law_any_name D__law_piece D__law_gap D__law_apart D__law_line D__law_same
theorem walk {l : PySem.W.OpenLaw} {q : Program} {loose : List Str} {XP : (Str → Option Value) → Heap → Prop} {YP : World → Heap → Prop} {d : DefRec} {K : Params → PySem.W.Frag} (hn : l.most = some 63) (hdf : d.params.defaults = [])
    (hY : ∀ (w : World) (h : Heap), YP w h → (K w.params).In h)
    (F : ∀ (w : World) (mg : Str → Option Value) (fa : Addr) (h : Heap), (K w.params).In h → h.Ns mainGlobals mg → mg d.name = some (.ref fa) →
      ∃ fd : FuncData, (∀ (s : Shared) (u : Value), BindsTo s fd ⟨[u], []⟩ [("script", u)]) ∧ ∀ base : Heap, (K w.params).In base → base.Ns mainGlobals mg → FnOk l.prog w (K w.params) mg base CX0 5 fa fd ["script"] (sp_law (K w.params))) :
    PySem.W.WalkO q loose XP YP l.row.toRowW d [] (fun f vs => PySem.call f vs) :=
  L2.walk_of (n := 63) (k := 5) (x := "script") (CX := fun _ => CX0) (sp := fun w => sp_law (K w.params)) hn (by decide) hdf ⟨rfl, by decide, by decide⟩ hY F (fun _ _ a ns hl _ hS => ⟨a, ns, rfl, hS, hl, fun _ => rfl⟩) fun _ _ _ _ _ z => z
end Y
open PySem PySem.W PyProof.Rows
set_option maxRecDepth 100000 in
set_option maxHeartbeats 0 in
theorem PySem.Challenge.cw_placedanyhow_k01_tokens_of_a_text_holds : PySem.Challenge.rw_placedanyhow_k01_tokens_of_a_text.Holds := by
  w_on; o_law; k_head; (case hw => w_witness2)
  k_fill
  refine Y.walk (l := PySem.Challenge.rw_placedanyhow_k01_tokens_of_a_text) rfl rfl (fun w h Y => PySem.W.kIn_of Y) ?F
  case F =>
    intro w mg fa h KX G hmg
    refine' Y.all_mk KX G hmg ?a0 ?l0 ?c0 ?k0 ?a1 ?l1 ?c1 ?k1 ?a2 ?l2 ?c2 ?k2 ?a3 ?l3 ?c3 ?k3 ?a4 ?l4 ?c4 ?k4 ?a5 ?l5 ?c5 ?k5 ?a6 ?l6 ?c6 ?k6 ?a7 ?l7 ?c7 ?k7 ?a8 ?l8 ?c8 ?k8 ?a9 ?l9 ?c9 ?k9 ?a10 ?l10 ?c10 ?k10 ?a11 ?l11 ?c11 ?k11 ?a12 ?l12 ?c12 ?k12 ?a13 ?l13 ?c13 ?k13 ?a14 ?l14 ?c14 ?k14 ?a15 ?l15 ?c15 ?k15 ?a16 ?l16 ?c16 ?k16 ?a17 ?l17 ?c17 ?k17 ?a18 ?l18 ?c18 ?k18 ?a19 ?l19 ?c19 ?k19 ?a20 ?l20 ?c20 ?k20 ?z_n_len ?z_n_int ?z_n_str ?z_n_abs ?z_n_range ?z_n_list ?z_n_tuple ?z_n_bool ?z_n_all ?z_n_isinstance ?z_c_LETTERS ?z_c_DIGITS ?z_c_LONGEST_NAME ?z_c_LONGEST_NUMBER ?z_c_GREATEST_WORD ?z_c_RESERVED ?zl_c_RESERVED ?zv_c_RESERVED ?z_c_SIGNS ?zl_c_SIGNS ?zv_c_SIGNS
    (case a0 => k_is); (case l0 => k_is); (case c0 => k_is); (case k0 => k_is)
    (case a1 => k_is); (case l1 => k_is); (case c1 => k_is); (case k1 => k_is)
    (case a2 => k_is); (case l2 => k_is); (case c2 => k_is); (case k2 => k_is)
    (case a3 => k_is); (case l3 => k_is); (case c3 => k_is); (case k3 => k_is)
    (case a4 => k_is); (case l4 => k_is); (case c4 => k_is); (case k4 => k_is)
    (case a5 => k_is); (case l5 => k_is); (case c5 => k_is); (case k5 => k_is)
    (case a6 => k_is); (case l6 => k_is); (case c6 => k_is); (case k6 => k_is)
    (case a7 => k_is); (case l7 => k_is); (case c7 => k_is); (case k7 => k_is)
    (case a8 => k_is); (case l8 => k_is); (case c8 => k_is); (case k8 => k_is)
    (case a9 => k_is); (case l9 => k_is); (case c9 => k_is); (case k9 => k_is)
    (case a10 => k_is); (case l10 => k_is); (case c10 => k_is); (case k10 => k_is)
    (case a11 => k_is); (case l11 => k_is); (case c11 => k_is); (case k11 => k_is)
    (case a12 => k_is); (case l12 => k_is); (case c12 => k_is); (case k12 => k_is)
    (case a13 => k_is); (case l13 => k_is); (case c13 => k_is); (case k13 => k_is)
    (case a14 => k_is); (case l14 => k_is); (case c14 => k_is); (case k14 => k_is)
    (case a15 => k_is); (case l15 => k_is); (case c15 => k_is); (case k15 => k_is)
    (case a16 => k_is); (case l16 => k_is); (case c16 => k_is); (case k16 => k_is)
    (case a17 => k_is); (case l17 => k_is); (case c17 => k_is); (case k17 => k_is)
    (case a18 => k_is); (case l18 => k_is); (case c18 => k_is); (case k18 => k_is)
    (case a19 => k_is); (case l19 => k_is); (case c19 => k_is); (case k19 => k_is)
    (case a20 => k_is); (case l20 => k_is); (case c20 => k_is); (case k20 => k_is)
    (case z_n_len => k_is)
    (case z_n_int => k_is)
    (case z_n_str => k_is)
    (case z_n_abs => k_is)
    (case z_n_range => k_is)
    (case z_n_list => k_is)
    (case z_n_tuple => k_is)
    (case z_n_bool => k_is)
    (case z_n_all => k_is)
    (case z_n_isinstance => k_is)
    (case z_c_LETTERS => k_is)
    (case z_c_DIGITS => k_is)
    (case z_c_LONGEST_NAME => k_is)
    (case z_c_LONGEST_NUMBER => k_is)
    (case z_c_GREATEST_WORD => k_is)
    (case z_c_RESERVED => k_is)
    (case zl_c_RESERVED => k_is)
    (case zv_c_RESERVED => rfl)
    (case z_c_SIGNS => k_is)
    (case zl_c_SIGNS => k_is)
    (case zv_c_SIGNS => rfl)
#print axioms PySem.Challenge.cw_placedanyhow_k01_tokens_of_a_text_holds
