import PyProof.Rows.All
import Wide.All
import OpenK.AllK
import Wide.FinOn
import HandS.ForMost
import HandS.IsInst
import HandS.Steps
import HandS.StrMore
import HandS.Codes
import HandS.More
import HandS.Strs
import HandS.Text
import HandS.TryOnly
import PyProof.AutoSeq1
import HandS.Deep
import HandS.CallLocal
import HandS.Conv
import HandS.DictComp
import HandS.SortRule
import HandS.SetKeys
import HandS.Walk
import HandS.Iter
import PyProof.DictMoreH
import KE.KExcIs
import KE.KDictSum
import PySem.Challenge.RW_placedanyhow_k43_links_keep_their_order
set_option Elab.async false
set_option linter.all false
set_option maxRecDepth 100000
set_option maxHeartbeats 4000000
namespace Y
open PySem L2

/-! ### rules joined -/
section
variable {X : Cx}
def rAddA (K : PySem.W.Frag) : R2 := fun x y H Q => rI0 (fun i j => .int (i + j)) x y H Q ∨ (∃ i j, x = V.str i ∧ y = V.str j ∧ i.length + j.length ≤ sizeLine ∧ Q (.str (i ++ j)) H) ∨ rCat x y H Q ∨ rCatT K x y H Q
theorem op_addA : OpR X (binaryOp .Add) (rAddA X.K) := op_add.or (op_add_str.or (op_cat.or op_catT))
def rEqA (K : PySem.W.Frag) : R2 := fun x y H Q => rEq x y H Q ∨ rEqD K x y H Q
def rNeA (K : PySem.W.Frag) : R2 := fun x y H Q => rNe x y H Q ∨ rNeD K x y H Q
theorem op_eqA (hu : X.A.units + 64 < cLine) : OpR X (compareOp .Eq) (rEqA X.K) := op_eq.or (op_eqD hu)
theorem op_neA (hu : X.A.units + 64 < cLine) : OpR X (compareOp .NotEq) (rNeA X.K) := op_ne.or (op_neD hu)
def rLenA (K : PySem.W.Frag) : List V → Hp → VK → Prop := fun xs H Q => (∃ p ys, xs = [V.ref p] ∧ (SqL K H p ys ∨ SqT K H p ys) ∧ Q (.int ys.length) H) ∨ ∃ z, xs = [V.str z] ∧ z.length ≤ sizeLine ∧ Q (.int z.length) H
theorem call_lenA : CallR X (.builtin "len") (rLenA X.K) := call_len_seq.or call_len_str
def rSlA (K : PySem.W.Frag) : V → Option Int → Option Int → Hp → VK → Prop := fun x lo hi H Q => rSlL K x lo hi H Q ∨ rSlT K x lo hi H Q
theorem sl_any : SlR X (rSlA X.K) := sl_list.or sl_tup
theorem hu64 {A : Around} {k : Nat} (hr : Room k A) : A.units + 64 < cLine := by have := hr.un; omega
theorem pe_globC {x : Str} {n : Int} {pos : Pos} (hg : Gl X x) (hm : ∃ t, X.mg x = some (.int n t)) (hd : (x == ("__debug__" : Str)) = false := by decide) : PE X (.Name x pos) (tC (.int n)) := by
  obtain ⟨t, h⟩ := hm
  exact pe_glob hg h ⟨t, rfl⟩ hd
theorem pe_ty {x : Str} {n : String} {pos : Pos} (hg : Gl X x) (hm : X.mg x = none) (hv : bootBuiltins x = some (.type n)) (hn : x ≠ "__name__" := by decide) (hd : (x == ("__debug__" : Str)) = false := by decide) : PE X (.Name x pos) (tC (.ty n)) := pe_bltn hg hm hv rfl hn hd
end

section
variable {X : Cx} {K : PySem.W.Frag}
theorem op_eqK (hK : X.K = K) (hu : X.A.units + 64 < cLine) : OpR X (compareOp .Eq) (rEqA K) := hK ▸ op_eqA hu
theorem op_neK (hK : X.K = K) (hu : X.A.units + 64 < cLine) : OpR X (compareOp .NotEq) (rNeA K) := hK ▸ op_neA hu
theorem op_addK (hK : X.K = K) : OpR X (binaryOp .Add) (rAddA K) := hK ▸ op_addA
theorem ix_seqK (hK : X.K = K) : IxR X (rIx K) := hK ▸ ix_seq
theorem call_lenK (hK : X.K = K) : CallR X (.builtin "len") (rLenA K) := hK ▸ call_lenA
theorem op_inK (hK : X.K = K) : OpR X (compareOp .In) (rIn K false) := hK ▸ op_in_seq
theorem op_notInK (hK : X.K = K) : OpR X (compareOp .NotIn) (rIn K true) := hK ▸ op_notIn_seq
theorem sl_anyK (hK : X.K = K) : SlR X (rSlA K) := hK ▸ sl_any
theorem pi_listK {tg l : Expr} {tl : TE} (hK : X.K = K) (hl : PE X l tl) : PI X tg l (iList K tl) := hK ▸ pi_list hl
end
section
variable {X : Cx}
def rIsN : R2 := fun x y H Q => y = .non ∧ Q (.bl (decide (x = .non))) H
def rNotN : R2 := fun x y H Q => y = .non ∧ Q (.bl (!decide (x = .non))) H
theorem op_isN1 : OpR X (compareOp .Is) rIsN := op_isN
theorem op_notN1 : OpR X (compareOp .IsNot) rNotN := op_notN
end
section
variable {X : Cx}
def rInt : List V → Hp → VK → Prop := fun xs H Q => (∃ i, xs = [V.int i] ∧ Q (.int i) H) ∨ ∃ k, xs = [.bl k] ∧ Q (.int (if k then 1 else 0)) H
def rAbs : List V → Hp → VK → Prop := fun xs H Q => ∃ i, xs = [V.int i] ∧ Q (.int (if i < 0 then -i else i)) H
def rListOf (K : PySem.W.Frag) : List V → Hp → VK → Prop := fun xs H Q => ∃ p ys, xs = [V.ref p] ∧ (SqL K H p ys ∨ SqT K H p ys) ∧ ∀ l, H l = none → Q (.ref l) (upd H l (.lst ys))
theorem call_intA : CallR X (.type "int") rInt := call_int1
theorem call_absA : CallR X (.builtin "abs") rAbs := call_abs
theorem call_listA : CallR X (.type "list") (rListOf X.K) := call_list_of
end
/-! ### defs -/
section
variable (P : Program) (w : World) (K : PySem.W.Frag) (mg : Str → Option Value) (base : Heap)
/-- a def of the text as it stands behind the top -/
def Dn (x : Str) (st : Stmt) (ps : List Str) : Prop := ∃ f fd, Fun K x x st f fd ∧ mg x = some (.ref f) ∧ Binds K fd ps []
/-- a def that keeps its promise -/
def Cal (x : Str) (k : Nat) (ps : List Str) (sp : Sp) : Prop := ∃ f fd, FnOk P w K mg base CX0 k f fd ps sp ∧ mg x = some (.ref f) ∧ PySem.W.keepIn K (.ref f) = true ∧ Binds K fd ps []
end
section
variable {P : Program} {w : World} {K : PySem.W.Frag} {mg : Str → Option Value} {base : Heap}
theorem Dn.ok {x : Str} {st : Stmt} {N ps : List Str} {k : Nat} {sp : Sp} (D : Dn K mg x st ps) (S : FnScope N ps (defScope st)) (len : ∀ vs H Q E, sp vs H Q E → vs.length = ps.length)
    (hbody : ∀ (f : Addr) (cdv : Value) (A : Around) (outer : List Env) (s : Shared) (H : Hp) (vs : List V) (Q : VK) (E : XK), Room k (A.deeper (PyProof.Rows.envOfC x (defScope st) s.heap.objs.size f cdv)) → sp vs H Q E →
      ∃ t, PSs (cxOf CX0 P w K mg base N x (defScope st) f cdv A outer s H E).nox (defBody st) t ∧ t { nx := fun _ H' => Q .non H', rt := Q } (start N vs) H) : Cal P w K mg base x (k + 1) ps sp := by
  obtain ⟨f, fd, F, m, b⟩ := D
  exact ⟨f, fd, F.ok S len (hbody f), m, F.kp, b⟩
theorem pe_cal {X : Cx} {x : Str} {k : Nat} {ps : List Str} {sp : Sp} {e : Expr} {es : List Expr} {t : TA} {p pos : Pos} (G : Cal X.prog X.w X.K X.mg X.base x k ps sp) (hr : Room k X.A) (hg : Gl X x) (ha : PA X (e :: es) t)
    (hdb : (x == ("__debug__" : Str)) = false := by decide) (he : starEach (e :: es) X.env = (false, eval e X.env) :: starEach es X.env := by rfl) (hpl : (backTo pos (starEach es X.env)).any (·.1) = false := by rfl) : PE X (.Call (.Name x p) (e :: es) [] pos) (tCall sp [] E0 t) := by
  obtain ⟨f, fd, F, m, kp, b⟩ := G
  exact pe_call F hr hg m kp b .nil pass0 ha hdb he hpl
theorem pe_cal0 {X : Cx} {x : Str} {k : Nat} {ps : List Str} {sp : Sp} {p pos : Pos} (G : Cal X.prog X.w X.K X.mg X.base x k ps sp) (hr : Room k X.A) (hg : Gl X x)
    (hdb : (x == ("__debug__" : Str)) = false := by decide) : PE X (.Call (.Name x p) [] [] pos) (tCall sp [] E0 tNil) := by
  obtain ⟨f, fd, F, m, kp, b⟩ := G
  exact pe_call0 F hr hg m kp b .nil pass0 hdb
end

/-! ### heaps -/
/-- all that was tracked stays -/
def Ex (H H' : Hp) : Prop := ∀ a o, H a = some o → H' a = some o
/-- all tuples stay, and all that is not at M -/
structure Kp (M : List Addr) (H H' : Hp) : Prop where
  tup : ∀ a xs, H a = some (.tup xs) → H' a = some (.tup xs)
  out : ∀ a o, a ∉ M → H a = some o → H' a = some o
theorem Ex.refl (H : Hp) : Ex H H := fun _ _ h => h
theorem Ex.trans {H H1 H2 : Hp} (a : Ex H H1) (b : Ex H1 H2) : Ex H H2 := fun x o h => b x o (a x o h)
theorem Ex.same {H H' : Hp} (e : Ex H H') : L2.Same H H' := e
theorem Ex.kp {M : List Addr} {H H' : Hp} (e : Ex H H') : Kp M H H' := ⟨fun a xs h => e a _ h, fun a o _ h => e a o h⟩
theorem Kp.refl {M : List Addr} (H : Hp) : Kp M H H := (Ex.refl H).kp
theorem Kp.trans {M : List Addr} {H H1 H2 : Hp} (a : Kp M H H1) (b : Kp M H1 H2) : Kp M H H2 := ⟨fun x o h => b.tup x o (a.tup x o h), fun x o n h => b.out x o n (a.out x o n h)⟩
theorem Kp.sub {M N : List Addr} {H H' : Hp} (a : Kp M H H') (s : ∀ x, x ∈ M → x ∈ N) : Kp N H H' := ⟨a.tup, fun x o n h => a.out x o (fun z => n (s x z)) h⟩
theorem Ex.mk {H H2 : Hp} {p : Addr} {o : HO} (h : H p = none) (e : upd H p o = H2) : Ex H H2 := fun a u ha => by
  rw [← e, upd_ne (ne_of_none ha h)]
  exact ha
theorem at_new {H H2 : Hp} {p : Addr} {o : HO} (e : upd H p o = H2) : H2 p = some o := by rw [← e]; exact upd_same
theorem Kp.set {M : List Addr} {H H2 : Hp} {p : Addr} {o : HO} (hm : p ∈ M) (ht : ∀ xs, H p ≠ some (.tup xs)) (e : upd H p o = H2) : Kp M H H2 := ⟨fun a xs h => by
  rw [← e, upd_ne (fun z => ht xs (by rw [← z]; exact h))]
  exact h, fun a u n h => by
  rw [← e, upd_ne (fun z => n (by rw [z]; exact hm))]
  exact h⟩
theorem free_back {H H' : Hp} {p : Addr} (e : Ex H H') (h : H' p = none) : H p = none := by
  cases h1 : H p with
  | none => rfl
  | some o => rw [e p o h1] at h; cases h
theorem free_backK {M : List Addr} {H H' : Hp} {p : Addr} (e : Kp M H H') (hm : p ∉ M) (h : H' p = none) : H p = none := by
  cases h1 : H p with
  | none => rfl
  | some o => rw [e.out p o hm h1] at h; cases h
theorem at_ex {H H' : Hp} {p : Addr} {o : HO} (e : Ex H H') (h : H p = some o) : H' p = some o := e p o h
theorem at_kp {M : List Addr} {H H' : Hp} {p : Addr} {o : HO} (e : Kp M H H') (hm : p ∉ M) (h : H p = some o) : H' p = some o := e.out p o hm h
theorem tup_kp {M : List Addr} {H H' : Hp} {p : Addr} {xs : List V} (e : Kp M H H') (h : H p = some (.tup xs)) : H' p = some (.tup xs) := e.tup p xs h
theorem sqt {K : PySem.W.Frag} {H : Hp} {p : Addr} {xs : List V} (h : H p = some (.tup xs)) : SqT K H p xs := Or.inl (Or.inl h)
theorem sql {K : PySem.W.Frag} {H : Hp} {p : Addr} {xs : List V} (h : H p = some (.lst xs)) : SqL K H p xs := Or.inl (Or.inl h)
theorem sl1000 {n : Nat} (h : n ≤ 100000) : n ≤ sizeLine := Nat.le_trans h (by decide)
theorem sl1000' {n : Nat} (h : n < 100000) : n < sizeLine := Nat.lt_of_lt_of_le h (by decide)

theorem at0 {α : Type} {x : α} {xs : List α} : atI (x :: xs) 0 = some x := atI_nat (j := 0) rfl
theorem at_i {α : Type} {xs : List α} {n : Int} (h0 : 0 ≤ n) (h1 : n < xs.length) : ∃ v, xs[n.toNat]? = some v ∧ atI xs n = some v := by
  have hk : n.toNat < xs.length := by omega
  have e : n = ((n.toNat : Nat) : Int) := by omega
  refine ⟨xs[n.toNat], List.getElem?_eq_getElem hk, ?_⟩
  have q : atI xs ((n.toNat : Nat) : Int) = some xs[n.toNat] := atI_nat (List.getElem?_eq_getElem hk)
  rw [← e] at q
  exact q
/-! ### readings, step by step -/
def newT (Q : VK) (xs : List V) (H : Hp) : Prop := xs.length ≤ sizeLine ∧ ∀ p, H p = none → Q (.ref p) (upd H p (.tup xs))
def newL (Q : VK) (xs : List V) (H : Hp) : Prop := xs.length ≤ sizeLine ∧ ∀ p, H p = none → Q (.ref p) (upd H p (.lst xs))
theorem cut1 (xs : List V) : cutV xs (some 1) none = xs.drop 1 := by
  unfold cutV
  rw [show HT.sIx xs.length 0 (some 1) = min 1 xs.length from HT.sIx_nat xs.length 0 1, HT.sIx_none]
  cases xs with
  | nil => rfl
  | cons x r =>
    rw [show min 1 (x :: r).length = 1 by
      rw [List.length_cons]
      omega]
    show (List.take ((x :: r).length - 1) r) = r
    rw [List.length_cons, Nat.add_sub_cancel]
    exact List.take_length
section
variable {K : PySem.W.Frag} {σ : L2.St} {H : Hp} {Q : VK} {QT : Bool → Hp → Prop} {QA : List V → Hp → Prop} {QS : L2.St → Hp → Prop} {v x y : V} {i : Nat} {ta tb te : TE} {t u c : TT} {tr : TA} {r : R2} {ts us : TS} {nx bk ct : L2.St → Hp → Prop} {rt : VK} {g : TG} {gs : TGs}
theorem r_var (h : σ[i]? = some (some v)) (q : Q v H) : tVar i σ H Q := ⟨v, h, q⟩
theorem r_c (q : Q v H) : tC v σ H Q := q
theorem r_op (q : ta σ H fun x H1 => tb σ H1 fun y H2 => r x y H2 Q) : tOp r ta tb σ H Q := q
theorem r_un {r : V → Hp → VK → Prop} (q : ta σ H fun x H1 => r x H1 Q) : tUn r ta σ H Q := q
theorem r_tup (q : tr σ H fun xs H1 => newT Q xs H1) : tTup tr σ H Q := q
theorem r_lst (q : tr σ H fun xs H1 => newL Q xs H1) : tLst tr σ H Q := q
theorem q_newT {xs : List V} (hl : xs.length ≤ 100000) (q : ∀ p Hn, H p = none → Ex H Hn → Hn p = some (.tup xs) → Q (.ref p) Hn) : newT Q xs H := ⟨sl1000 hl, fun p hp => q p _ hp (Ex.mk hp rfl) upd_same⟩
theorem q_newL {xs : List V} (hl : xs.length ≤ 100000) (q : ∀ p Hn, H p = none → Ex H Hn → Hn p = some (.lst xs) → Q (.ref p) Hn) : newL Q xs H := ⟨sl1000 hl, fun p hp => q p _ hp (Ex.mk hp rfl) upd_same⟩
theorem r_cons (q : ta σ H fun x H1 => tr σ H1 fun xs H2 => QA (x :: xs) H2) : tCons ta tr σ H QA := q
theorem r_nil (q : QA [] H) : tNil σ H QA := q
theorem r_cb {r : List V → Hp → VK → Prop} (q : tr σ H fun vs H1 => r vs H1 Q) : tCB r tr σ H Q := q
theorem r_call {sp : Sp} {E : XK} (q : tr σ H fun vs H1 => sp vs H1 Q E) : tCall sp [] E tr σ H Q := by
  have e : (fun (vs : List V) (H1 : Hp) => sp (vs ++ []) H1 Q E) = fun vs H1 => sp vs H1 Q E := by
    funext vs H1
    rw [List.append_nil]
  show tr σ H (fun vs H1 => sp (vs ++ []) H1 Q E)
  rw [e]
  exact q
theorem r_ifE (q : t σ H fun c H1 => if c = true then ta σ H1 Q else tb σ H1 Q) : tIf t ta tb σ H Q := q
theorem r_sl {r : V → Option Int → Option Int → Hp → VK → Prop} {tl th : TO} (q : te σ H fun x H1 => tl σ H1 fun l H2 => th σ H2 fun u H3 => r x l u H3 Q) : tSl r te tl th σ H Q := q
theorem r_nopart {Q : Option Int → Hp → Prop} (q : Q none H) : tNoPart σ H Q := q
theorem r_part {Q : Option Int → Hp → Prop} (q : te σ H fun x H1 => ∃ i, x = .int i ∧ Q (some i) H1) : tPart te σ H Q := q
theorem q_part {i : Int} {B : Int → Prop} (q : B i) : ∃ j, V.int i = .int j ∧ B j := ⟨i, rfl, q⟩
theorem r_dget {td ty : TE} (q : td σ H fun x H1 => ty σ H1 fun y H2 => ∃ a v, x = .ref a ∧ DGet H2 a y (some v) ∧ Q v H2) : tDGet td ty σ H Q := q
theorem q_dget {p : Addr} {kvs : List (Key × V)} {z : Str} {B : V → Prop} (h : H p = some (.dK kvs)) (hl : valV kvs (Sum.inr z) = some v) (q : B v) : ∃ a v', V.ref p = .ref a ∧ DGet H a (.str z) (some v') ∧ B v' :=
  ⟨p, v, rfl, by rw [← hl]; exact DGet.k (k := Sum.inr z) h, q⟩
theorem r_andV (q : ta σ H fun x H1 => ∃ c, x = .bl c ∧ if c = true then tb σ H1 Q else Q (.bl false) H1) : tAndV ta tb σ H Q := q
theorem r_orV (q : ta σ H fun x H1 => ∃ c, x = .bl c ∧ if c = true then Q (.bl true) H1 else tb σ H1 Q) : tOrV ta tb σ H Q := q
theorem r_notV (q : ta σ H fun x H1 => ∃ c, x = .bl c ∧ Q (.bl (!c)) H1) : tNotV ta σ H Q := q
theorem r_test (q : te σ H fun x H' => ∃ k, x = .bl k ∧ QT k H') : tTest te σ H QT := q
theorem r_tB (q : te σ H fun x H1 => ∃ c, x = .bl c ∧ QT c H1) : tB te σ H QT := q
theorem q_exb {b : Bool} {B : Bool → Prop} (q : B b) : ∃ k, V.bl b = .bl k ∧ B k := ⟨b, rfl, q⟩
theorem r_and (q : t σ H fun c H1 => if c = true then u σ H1 QT else QT false H1) : tAnd t u σ H QT := q
theorem r_or (q : t σ H fun c H1 => if c = true then QT true H1 else u σ H1 QT) : tOr t u σ H QT := q
theorem r_not (q : t σ H fun c H1 => QT (!c) H1) : tNot t σ H QT := q
theorem r_seq (q : ts ⟨us ⟨nx, rt, bk, ct⟩, rt, bk, ct⟩ σ H) : tSeq ts us ⟨nx, rt, bk, ct⟩ σ H := q
theorem r_next (q : nx σ H) : tNext ⟨nx, rt, bk, ct⟩ σ H := q
theorem r_ifS (q : c σ H fun b H1 => if b = true then ts ⟨nx, rt, bk, ct⟩ σ H1 else us ⟨nx, rt, bk, ct⟩ σ H1) : tIfS c ts us ⟨nx, rt, bk, ct⟩ σ H := q
theorem r_asg (q : te σ H fun x H1 => g x σ H1 nx) : tAsg te g ⟨nx, rt, bk, ct⟩ σ H := q
theorem r_aug {ti : TIp} (h : σ[i]? = some (some v)) (q : te σ H fun y H1 => ti v y H1 fun z H2 => nx (σ.set i (some z)) H2) : tAug i te ti ⟨nx, rt, bk, ct⟩ σ H := ⟨v, h, q⟩
theorem q_ip {f : Int → Int → Int} {i j : Int} (q : Q (.int (f i j)) H) : ipI f (.int i) (.int j) H Q := ⟨i, j, rfl, rfl, q⟩
theorem r_drop (q : te σ H fun _ H1 => nx σ H1) : tDrop te ⟨nx, rt, bk, ct⟩ σ H := q
theorem r_ret (q : te σ H rt) : tRet te ⟨nx, rt, bk, ct⟩ σ H := q
theorem r_retN (q : rt .non H) : tRetN ⟨nx, rt, bk, ct⟩ σ H := q
theorem r_gname (q : QS (σ.set i (some v)) H) : gName i v σ H QS := q
theorem r_gnil (q : QS σ H) : gNil [] σ H QS := ⟨rfl, q⟩
theorem r_gcons {vs : List V} (q : g v σ H fun σ' H' => gs vs σ' H' QS) : gCons g gs (v :: vs) σ H QS := ⟨v, vs, rfl, q⟩
theorem r_gtup {p : Addr} {xs : List V} {n : Nat} (h : SqT K H p xs) (hl : xs.length = n) (q : gs xs σ H QS) : gTup K n gs (.ref p) σ H QS := ⟨p, xs, rfl, h, hl, q⟩
theorem r_gsub {to ti : TE} {s : TSet} (q : to σ H fun o H1 => ti σ H1 fun i H2 => s o i v H2 fun H3 => QS σ H3) : gSub to ti s v σ H QS := q
theorem r_bm {T : String} {r : V → List V → Hp → VK → Prop} (q : te σ H fun x H1 => tyV K T x H1 ∧ tr σ H1 fun xs H2 => r x xs H2 Q) : tBM K T r te tr σ H Q := q
theorem r_bm0 {T : String} {r : V → List V → Hp → VK → Prop} (q : te σ H fun x H1 => tyV K T x H1 ∧ r x [] H1 Q) : tBM0 K T r te σ H Q := q
theorem q_tyL {p : Addr} {xs : List V} {A : Prop} (h : H p = some (.lst xs)) (q : A) : tyV K "list" (.ref p) H ∧ A := ⟨Or.inl ⟨rfl, xs, sql h⟩, q⟩

theorem cast_q {x y : V} (e : x = y) (h : Q x H) : Q y H := e ▸ h
/-! ### operations on values -/
theorem q_addI {i j : Int} (q : Q (.int (i + j)) H) : rAddA K (.int i) (.int j) H Q := .inl ⟨i, j, rfl, rfl, q⟩
theorem q_I0 {f : Int → Int → V} {i j : Int} (q : Q (f i j) H) : rI0 f (.int i) (.int j) H Q := ⟨i, j, rfl, rfl, q⟩
theorem q_I {C : Int → Int → Prop} {f : Int → Int → V} {i j : Int} (h : C i j) (q : Q (f i j) H) : rI C f (.int i) (.int j) H Q := ⟨i, j, rfl, rfl, h, q⟩
theorem q_U {f : Int → V} {i : Int} (q : Q (f i) H) : rU f (.int i) H Q := ⟨i, rfl, q⟩
theorem q_ixT {p : Addr} {xs : List V} {i : Int} (h : SqT K H p xs) (ha : atI xs i = some v) (q : Q v H) : rIx K (.ref p) (.int i) H Q := .inr (.inl ⟨p, xs, i, v, rfl, rfl, h, ha, q⟩)
theorem q_ixL {p : Addr} {xs : List V} {i : Int} (h : SqL K H p xs) (ha : atI xs i = some v) (q : Q v H) : rIx K (.ref p) (.int i) H Q := .inl ⟨p, xs, i, v, rfl, rfl, h, ha, q⟩
theorem q_eqY (hs : scal x y = true) (he : x = y) (q : Q (.bl true) H) : rEqA K x y H Q := .inl ⟨hs, by rw [decide_eq_true he]; exact q⟩
theorem q_eqN (hs : scal x y = true) (he : ¬ x = y) (q : Q (.bl false) H) : rEqA K x y H Q := .inl ⟨hs, by rw [decide_eq_false he]; exact q⟩
theorem q_eqI {i j : Int} (h1 : i = j → Q (.bl true) H) (h2 : ¬ i = j → Q (.bl false) H) : rEqA K (.int i) (.int j) H Q := by
  by_cases e : i = j
  · exact q_eqY rfl (by rw [e]) (h1 e)
  · exact q_eqN rfl (fun z => e (V.int.inj z)) (h2 e)
theorem q_eqS {i j : Str} (h1 : i = j → Q (.bl true) H) (h2 : ¬ i = j → Q (.bl false) H) : rEqA K (.str i) (.str j) H Q := by
  by_cases e : i = j
  · exact q_eqY rfl (by rw [e]) (h1 e)
  · exact q_eqN rfl (fun z => e (V.str.inj z)) (h2 e)
theorem q_neY (hs : scal x y = true) (he : ¬ x = y) (q : Q (.bl true) H) : rNeA K x y H Q := .inl ⟨hs, by rw [decide_eq_false he]; exact q⟩
theorem q_neN (hs : scal x y = true) (he : x = y) (q : Q (.bl false) H) : rNeA K x y H Q := .inl ⟨hs, by rw [decide_eq_true he]; exact q⟩
theorem q_neI {i j : Int} (h1 : ¬ i = j → Q (.bl true) H) (h2 : i = j → Q (.bl false) H) : rNeA K (.int i) (.int j) H Q := by
  by_cases e : i = j
  · exact q_neN rfl (by rw [e]) (h2 e)
  · exact q_neY rfl (fun z => e (V.int.inj z)) (h1 e)
theorem q_neS {i j : Str} (h1 : ¬ i = j → Q (.bl true) H) (h2 : i = j → Q (.bl false) H) : rNeA K (.str i) (.str j) H Q := by
  by_cases e : i = j
  · exact q_neN rfl (by rw [e]) (h2 e)
  · exact q_neY rfl (fun z => e (V.str.inj z)) (h1 e)
theorem q_cmp {f : Int → Int → Prop} [∀ i j, Decidable (f i j)] {i j : Int} (h1 : f i j → Q (.bl true) H) (h2 : ¬ f i j → Q (.bl false) H) : rI0 (fun i j => .bl (decide (f i j))) (.int i) (.int j) H Q := by
  refine ⟨i, j, rfl, rfl, ?_⟩
  show Q (V.bl (decide (f i j))) H
  by_cases e : f i j
  · rw [decide_eq_true e]; exact h1 e
  · rw [decide_eq_false e]; exact h2 e
theorem cmulL {i j : Int} (h : -(2 ^ 64) < i ∧ i < 2 ^ 64) : CMul i j := .inl h
theorem cmulR {i j : Int} (h : -(2 ^ 64) < j ∧ j < 2 ^ 64) : CMul i j := .inr h
theorem cdiv {i j : Int} (h : 0 < j ∧ j < 1073741824) : CDiv i j := h
theorem q_neD (hn : ¬ x = y) (hs : scal x y = true) (q : Q (.bl true) H) : rNeA K x y H Q := q_neY hs hn q
theorem q_cmpY {f : Int → Int → Prop} [∀ i j, Decidable (f i j)] {i j : Int} (h : f i j) (q : Q (.bl true) H) : rI0 (fun i j => .bl (decide (f i j))) (.int i) (.int j) H Q :=
  ⟨i, j, rfl, rfl, by show Q (V.bl (decide (f i j))) H; rw [decide_eq_true h]; exact q⟩
theorem q_cmpN {f : Int → Int → Prop} [∀ i j, Decidable (f i j)] {i j : Int} (h : ¬ f i j) (q : Q (.bl false) H) : rI0 (fun i j => .bl (decide (f i j))) (.int i) (.int j) H Q :=
  ⟨i, j, rfl, rfl, by show Q (V.bl (decide (f i j))) H; rw [decide_eq_false h]; exact q⟩
theorem q_isNY (he : x = .non) (q : Q (.bl true) H) : rIsN x .non H Q := ⟨rfl, by rw [decide_eq_true he]; exact q⟩
theorem q_isNN (he : ¬ x = .non) (q : Q (.bl false) H) : rIsN x .non H Q := ⟨rfl, by rw [decide_eq_false he]; exact q⟩
theorem q_notNY (he : x = .non) (q : Q (.bl false) H) : rNotN x .non H Q := ⟨rfl, by rw [decide_eq_true he]; exact q⟩
theorem q_notNN (he : ¬ x = .non) (q : Q (.bl true) H) : rNotN x .non H Q := ⟨rfl, by rw [decide_eq_false he]; exact q⟩
theorem q_lenL {p : Addr} {xs : List V} (h : SqL K H p xs) (q : Q (.int xs.length) H) : rLenA K [.ref p] H Q := .inl ⟨p, xs, rfl, .inl h, q⟩
theorem q_lenT {p : Addr} {xs : List V} (h : SqT K H p xs) (q : Q (.int xs.length) H) : rLenA K [.ref p] H Q := .inl ⟨p, xs, rfl, .inr h, q⟩
theorem q_sl1T {p : Addr} {xs : List V} (h : SqT K H p (x :: xs)) (q : ∀ p Hn, H p = none → Ex H Hn → Hn p = some (.tup xs) → Q (.ref p) Hn) : rSlA K (.ref p) (some 1) none H Q :=
  .inr ⟨p, x :: xs, rfl, h, fun z => by
    have e : HT.sIx (x :: xs).length 0 (some 1) = min 1 (x :: xs).length := HT.sIx_nat _ 0 1
    have z1 := z.1
    rw [e, List.length_cons] at z1
    omega, fun p hp => q p _ hp (Ex.mk hp rfl) (by rw [upd_same, cut1]; rfl)⟩
theorem q_sl1L {p : Addr} {xs : List V} (h : SqL K H p (x :: xs)) (q : ∀ p Hn, H p = none → Ex H Hn → Hn p = some (.lst xs) → Q (.ref p) Hn) : rSlA K (.ref p) (some 1) none H Q :=
  .inl ⟨p, x :: xs, rfl, h, fun p hp => q p _ hp (Ex.mk hp rfl) (by rw [upd_same, cut1]; rfl)⟩
theorem q_inT {p : Addr} {xs : List V} (h : SqT K H p xs) (hx : flatV x = true) (ha : xs.all flatV = true) (q : Q (.bl (inV x xs)) H) : rIn K false x (.ref p) H Q := ⟨p, xs, rfl, .inr h, hx, ha, q⟩
theorem q_inTY {p : Addr} {xs : List V} (h : SqT K H p xs) (hx : (flatV x && xs.all flatV && inV x xs) = true) (q : Q (.bl true) H) : rIn K false x (.ref p) H Q := by
  simp only [Bool.and_eq_true] at hx
  exact ⟨p, xs, rfl, .inr h, hx.1.1, hx.1.2, by rw [if_neg Bool.false_ne_true, hx.2]; exact q⟩
theorem q_inTN {p : Addr} {xs : List V} (h : SqT K H p xs) (hx : (flatV x && xs.all flatV && !inV x xs) = true) (q : Q (.bl false) H) : rIn K false x (.ref p) H Q := by
  simp only [Bool.and_eq_true, Bool.not_eq_true'] at hx
  exact ⟨p, xs, rfl, .inr h, hx.1.1, hx.1.2, by rw [if_neg Bool.false_ne_true, hx.2]; exact q⟩
theorem q_inLY {p : Addr} {xs : List V} (h : SqL K H p xs) (hx : (flatV x && xs.all flatV && inV x xs) = true) (q : Q (.bl true) H) : rIn K false x (.ref p) H Q := by
  simp only [Bool.and_eq_true] at hx
  exact ⟨p, xs, rfl, .inl h, hx.1.1, hx.1.2, by rw [if_neg Bool.false_ne_true, hx.2]; exact q⟩
theorem q_inLN {p : Addr} {xs : List V} (h : SqL K H p xs) (hx : (flatV x && xs.all flatV && !inV x xs) = true) (q : Q (.bl false) H) : rIn K false x (.ref p) H Q := by
  simp only [Bool.and_eq_true, Bool.not_eq_true'] at hx
  exact ⟨p, xs, rfl, .inl h, hx.1.1, hx.1.2, by rw [if_neg Bool.false_ne_true, hx.2]; exact q⟩
theorem q_isi {t : Value} {T : String} {b : Bool} (ty : TyOf K H x t) (e : PySem.W.kitOne K t (.type T) = some b) (q : Q (.bl b) H) : rIsi K [x, .ty T] H Q := ⟨x, .ty T, t, .type T, b, rfl, .ty T, .base ty, e, q⟩
theorem q_isiBI {i : Int} (q : Q (.bl false) H) : rIsi K [.int i, .ty "bool"] H Q := q_isi (.int i) (kit_ty (by decide +kernel)) q
theorem q_isiBN (q : Q (.bl false) H) : rIsi K [.non, .ty "bool"] H Q := q_isi .non (kit_ty (by decide +kernel)) q
def dispK (Q : VK) (p : Addr) (ps : List (V × V)) (H : Hp) : Prop := H p = some (.dK []) ∧ ∃ kvs : List (Key × V), ps = kvs.map (fun kv => (kV kv.1, kv.2)) ∧ kvs.length ≤ 15 ∧ Q (.ref p) (upd H p (.dK (mergeK [] kvs)))
theorem r_disp {trs : List (TE × TE)} (q : ∀ p Hn, H p = none → Ex H Hn → Hn p = some (.dK []) → tPairs trs σ Hn fun ps H2 => dispK Q p ps H2) : tDisp trs σ H Q := fun p hp => q p _ hp (Ex.mk hp rfl) upd_same
theorem r_pnil {QP : List (V × V) → Hp → Prop} (q : QP [] H) : tPairs [] σ H QP := q
theorem r_pcons {QP : List (V × V) → Hp → Prop} {tk tv : TE} {r : List (TE × TE)} (q : tk σ H fun x H1 => tv σ H1 fun y H2 => tPairs r σ H2 fun ps H3 => QP ((x, y) :: ps) H3) : tPairs ((tk, tv) :: r) σ H QP := q
theorem merge_nd {kvs : List (Key × V)} (h : (kvs.map (·.1)).Nodup) : mergeK [] kvs = kvs := by
  have key : ∀ (more acc : List (Key × V)), ((acc ++ more).map (·.1)).Nodup → mergeK acc more = acc ++ more := by
    intro more
    induction more with
    | nil => intro acc _; rw [List.append_nil]; rfl
    | cons p r ih =>
      intro acc h
      have hp : valV acc p.1 = none := by
        cases hv : valV acc p.1 with
        | none => rfl
        | some x =>
          exfalso
          have hm := valV_in hv
          rw [List.map_append, List.nodup_append] at h
          exact h.2.2 _ hm _ (by simp) rfl
      show mergeK (putK acc p.1 p.2) r = acc ++ p :: r
      rw [putK_new _ hp, ih _ (by rw [List.append_assoc]; exact h), List.append_assoc]
      rfl
  exact key kvs [] h
theorem q_disp {p : Addr} {ps : List (V × V)} (kvs : List (Key × V)) (h : H p = some (.dK [])) (e : ps = kvs.map (fun kv => (kV kv.1, kv.2))) (nd : (kvs.map (·.1)).Nodup) (hl : kvs.length ≤ 15)
    (q : ∀ Hn, Kp [p] H Hn → Hn p = some (.dK kvs) → Q (.ref p) Hn) : dispK Q p ps H := ⟨h, kvs, e, hl, by
  rw [merge_nd nd]
  exact q _ (Kp.set (List.mem_singleton.mpr rfl) (fun xs z => by rw [h] at z; cases z) rfl) upd_same⟩
theorem q_inL {p : Addr} {xs : List V} (h : SqL K H p xs) (hx : flatV x = true) (ha : xs.all flatV = true) (q : Q (.bl (inV x xs)) H) : rIn K false x (.ref p) H Q := ⟨p, xs, rfl, .inl h, hx, ha, q⟩
theorem r_iL {tl : TE} {R : It → Hp → Prop} (q : tl σ H fun x H1 => ∃ a, x = .ref a ∧ (∃ xs, SqL K H1 a xs) ∧ R (Itl K a) H1) : iList K tl σ H R := q
theorem q_iL {a : Addr} {xs : List V} {B : Addr → Prop} (h : SqL K H a xs) (q : B a) : ∃ b, V.ref a = .ref b ∧ (∃ xs, SqL K H b xs) ∧ B b := ⟨a, rfl, ⟨xs, h⟩, q⟩
theorem r_iT {tl : TE} {R : It → Hp → Prop} (q : tl σ H fun x H1 => ∃ a, x = .ref a ∧ (∃ xs, SqT K H1 a xs) ∧ R (Itt K a) H1) : iTup K tl σ H R := q
theorem q_iT {a : Addr} {xs : List V} {B : Addr → Prop} (h : SqT K H a xs) (q : B a) : ∃ b, V.ref a = .ref b ∧ (∃ xs, SqT K H b xs) ∧ B b := ⟨a, rfl, ⟨xs, h⟩, q⟩
theorem r_rng1 {R : It → Hp → Prop} (q : tr σ H fun vs H1 => ∃ j : Int, vs = [.int j] ∧ -(2 ^ 62) ≤ j ∧ j < 2 ^ 62 ∧ R (Itr 0 j.toNat) H1) : iRng1 tr σ H R := q
theorem q_rng1 {j : Int} {B : Int → Prop} (h : 0 ≤ j ∧ j ≤ 1000000) (q : B j) : ∃ i : Int, [V.int j] = [.int i] ∧ -(2 ^ 62) ≤ i ∧ i < 2 ^ 62 ∧ B i := ⟨j, rfl, by omega, by omega, q⟩
theorem r_rng2 {R : It → Hp → Prop} (q : tr σ H fun vs H1 => ∃ i j : Int, vs = [.int i, .int j] ∧ (-(2 ^ 62) ≤ i ∧ i < 2 ^ 62 ∧ -(2 ^ 62) ≤ j ∧ j < 2 ^ 62) ∧ R (Itr i (j - i).toNat) H1) : iRng2 tr σ H R := q
theorem q_rng2 {i j : Int} {B : Int → Int → Prop} (h : 0 ≤ i ∧ i ≤ 1000000 ∧ 0 ≤ j ∧ j ≤ 1000000) (q : B i j) : ∃ a b : Int, [V.int i, V.int j] = [.int a, .int b] ∧ (-(2 ^ 62) ≤ a ∧ a < 2 ^ 62 ∧ -(2 ^ 62) ≤ b ∧ b < 2 ^ 62) ∧ B a b :=
  ⟨i, j, rfl, ⟨by omega, by omega, by omega, by omega⟩, q⟩
theorem r_lc {wi : TI} {vs : List Nat} (q : wi σ H fun J H1 => ∀ D, H1 D = none → ∃ W : Nat → Nat → Hp → Prop, (∃ m, W 0 m (upd H1 D (.lst []))) ∧ ∀ i m H, W i m H →
  (J.stop i H ∧ Q (.ref D) H) ∨ (J.go i H ∧ ∃ Nx : Hp → Prop, (∀ H', Nx H' → ∃ m', m' < m ∧ W (i + 1) m' H') ∧ ∀ x H', J.yld i H x H' → g x (wipe σ vs) H' fun σ2 H2 => wipe σ2 vs = wipe σ vs ∧ t σ2 H2 fun b H3 =>
    if b = true then te σ2 H3 fun y H4 => ∃ acc, H4 D = some (.lst acc) ∧ acc.length < sizeLine ∧ Nx (upd H4 D (.lst (acc ++ [y]))) else Nx H3)) : tLc wi g t te vs σ H Q := q
theorem r_yes (q : QT true H) : tYes σ H QT := q
theorem r_for {wi : TI} (q : wi σ H fun J H1 => ∃ W : Nat → Nat → L2.St → Hp → Prop, (∃ m, W 0 m σ H1) ∧ ∀ i m σ H, W i m σ H →
  (J.stop i H ∧ nx σ H) ∨ (J.go i H ∧ ∃ N : L2.St → Hp → Prop, (∀ σ' H', N σ' H' → ∃ m', m' < m ∧ W (i + 1) m' σ' H') ∧ ∀ x H', J.yld i H x H' → g x σ H' fun σ2 H2 => ts ⟨N, rt, nx, N⟩ σ2 H2)) : tFor wi g ts ⟨nx, rt, bk, ct⟩ σ H := q
/-- the loops' words -/
theorem w_list {a : Addr} {xs : List V} (Pv : Nat → L2.St → Hp → Prop) (h0 : Pv 0 σ H) (hl : ∀ i σ H, i ≤ xs.length → Pv i σ H → SqL K H a xs)
    (hs : ∀ i x σ H, xs[i]? = some x → Pv i σ H → g x σ H fun σ2 H2 => ts ⟨Pv (i + 1), rt, nx, Pv (i + 1)⟩ σ2 H2) (hd : ∀ σ H, Pv xs.length σ H → nx σ H) :
    ∃ W : Nat → Nat → L2.St → Hp → Prop, (∃ m, W 0 m σ H) ∧ ∀ i m σ H, W i m σ H →
      ((Itl K a).stop i H ∧ nx σ H) ∨ ((Itl K a).go i H ∧ ∃ N : L2.St → Hp → Prop, (∀ σ' H', N σ' H' → ∃ m', m' < m ∧ W (i + 1) m' σ' H') ∧ ∀ x H', (Itl K a).yld i H x H' → g x σ H' fun σ2 H2 => ts ⟨N, rt, nx, N⟩ σ2 H2) :=
  for_list (D := ⟨nx, rt, nx, nx⟩) Pv h0 hl hs hd
theorem w_tup {a : Addr} {xs : List V} (Pv : Nat → L2.St → Hp → Prop) (h0 : Pv 0 σ H) (hl : ∀ i σ H, i ≤ xs.length → Pv i σ H → SqT K H a xs)
    (hs : ∀ i x σ H, xs[i]? = some x → Pv i σ H → g x σ H fun σ2 H2 => ts ⟨Pv (i + 1), rt, nx, Pv (i + 1)⟩ σ2 H2) (hd : ∀ σ H, Pv xs.length σ H → nx σ H) :
    ∃ W : Nat → Nat → L2.St → Hp → Prop, (∃ m, W 0 m σ H) ∧ ∀ i m σ H, W i m σ H →
      ((Itt K a).stop i H ∧ nx σ H) ∨ ((Itt K a).go i H ∧ ∃ N : L2.St → Hp → Prop, (∀ σ' H', N σ' H' → ∃ m', m' < m ∧ W (i + 1) m' σ' H') ∧ ∀ x H', (Itt K a).yld i H x H' → g x σ H' fun σ2 H2 => ts ⟨N, rt, nx, N⟩ σ2 H2) :=
  for_tup (D := ⟨nx, rt, nx, nx⟩) Pv h0 hl hs hd
theorem w_rng {lo : Int} {n : Nat} (Pv : Nat → L2.St → Hp → Prop) (h0 : Pv 0 σ H)
    (hs : ∀ i σ H, i < n → Pv i σ H → g (.int (lo + i)) σ H fun σ2 H2 => ts ⟨Pv (i + 1), rt, nx, Pv (i + 1)⟩ σ2 H2) (hd : ∀ σ H, Pv n σ H → nx σ H) :
    ∃ W : Nat → Nat → L2.St → Hp → Prop, (∃ m, W 0 m σ H) ∧ ∀ i m σ H, W i m σ H →
      ((Itr lo n).stop i H ∧ nx σ H) ∨ ((Itr lo n).go i H ∧ ∃ N : L2.St → Hp → Prop, (∀ σ' H', N σ' H' → ∃ m', m' < m ∧ W (i + 1) m' σ' H') ∧ ∀ x H', (Itr lo n).yld i H x H' → g x σ H' fun σ2 H2 => ts ⟨N, rt, nx, N⟩ σ2 H2) :=
  for_range (D := ⟨nx, rt, nx, nx⟩) Pv h0 hs hd
theorem r_iS {tl : TE} {R : It → Hp → Prop} (q : tl σ H fun v H1 => ∃ x, v = .str x ∧ R (Its x) H1) : iStr tl σ H R := q
theorem q_iS {z : Str} {B : Str → Prop} (q : B z) : ∃ x, V.str z = .str x ∧ B x := ⟨z, rfl, q⟩
theorem w_str {x : Str} (Pv : Nat → L2.St → Hp → Prop) (h0 : Pv 0 σ H)
    (hs : ∀ i c σ H, x.cps.toList[i]? = some c → Pv i σ H → g (.str ⟨#[c]⟩) σ H fun σ2 H2 => ts ⟨Pv (i + 1), rt, nx, Pv (i + 1)⟩ σ2 H2) (hd : ∀ σ H, Pv x.cps.toList.length σ H → nx σ H) :
    ∃ W : Nat → Nat → L2.St → Hp → Prop, (∃ m, W 0 m σ H) ∧ ∀ i m σ H, W i m σ H →
      ((Its x).stop i H ∧ nx σ H) ∨ ((Its x).go i H ∧ ∃ N : L2.St → Hp → Prop, (∀ σ' H', N σ' H' → ∃ m', m' < m ∧ W (i + 1) m' σ' H') ∧ ∀ v H', (Its x).yld i H v H' → g v σ H' fun σ2 H2 => ts ⟨N, rt, nx, N⟩ σ2 H2) := by
  have hz : x.cps.toList.length = x.cps.size := Array.length_toList
  refine ⟨fun i m σ H => m = x.cps.size - i ∧ i ≤ x.cps.size ∧ Pv i σ H, ⟨x.cps.size, by simp, Nat.zero_le _, h0⟩, ?_⟩
  rintro i m σ H ⟨rfl, hi, p⟩
  by_cases hlt : i < x.cps.size
  · refine .inr ⟨hlt, Pv (i + 1), fun σ' H' p' => ⟨x.cps.size - (i + 1), by omega, rfl, hlt, p'⟩, fun v H' y => ?_⟩
    obtain ⟨e, c, hc, ev⟩ := y
    subst e
    subst ev
    exact hs i c _ _ (by rw [Array.getElem?_toList]; exact hc) p
  · have e : i = x.cps.toList.length := by omega
    subst e
    exact .inl ⟨by show x.cps.size ≤ _; omega, hd _ _ p⟩
theorem w_while (W : Nat → L2.St → Hp → Prop) (m0 : Nat) (h0 : W m0 σ H)
    (hs : ∀ m σ' H', W m σ' H' → c σ' H' fun b H1 => if b = true then ts ⟨fun σ2 H2 => ∃ m', m' < m ∧ W m' σ2 H2, rt, nx, fun σ2 H2 => ∃ m', m' < m ∧ W m' σ2 H2⟩ σ' H1 else nx σ' H1)
    (mono : ∀ σ H Q Q', (∀ b H1, Q b H1 → Q' b H1) → c σ H Q → c σ H Q') : tWhile c ts ⟨nx, rt, bk, ct⟩ σ H := by
  refine ⟨W, ⟨m0, h0⟩, fun m σ' H' hw => mono σ' H' _ _ (fun b H1 q => ?_) (hs m σ' H' hw)⟩
  cases b with
  | true => exact ⟨_, fun _ _ n => n, q⟩
  | false => exact q
theorem q_setL {p : Addr} {xs : List V} {k : Int} {j : Nat} {QH : Hp → Prop} (h : H p = some (.lst xs)) (hj : ixN xs.length k = some j) (q : QH (upd H p (.lst (xs.set j v)))) : rSetL (.ref p) (.int k) v H QH := ⟨p, xs, k, j, rfl, rfl, h, hj, q⟩
theorem q_append {l : Addr} {xs : List V} (h : H l = some (.lst xs)) (hz : xs.length < 100000) (q : Q .non (upd H l (.lst (xs ++ [y])))) : rAppend (.ref l) [y] H Q := ⟨l, xs, y, rfl, rfl, h, sl1000' hz, q⟩
theorem q_pop0 {l : Addr} {xs : List V} (h : H l = some (.lst (x :: xs))) (q : Q x (upd H l (.lst xs))) : rPopAt (.ref l) [.int 0] H Q := ⟨l, x :: xs, 0, 0, x, rfl, rfl, h, by decide, by decide, by simp [seqIndex?], rfl, q⟩
theorem q_abs {i : Int} (q : Q (.int (if i < 0 then -i else i)) H) : rAbs [.int i] H Q := ⟨i, rfl, q⟩
theorem q_int {i : Int} (q : Q (.int i) H) : rInt [.int i] H Q := .inl ⟨i, rfl, q⟩
theorem q_intT (q : Q (.int 1) H) : rInt [.bl true] H Q := .inr ⟨true, rfl, q⟩
theorem q_intF (q : Q (.int 0) H) : rInt [.bl false] H Q := .inr ⟨false, rfl, q⟩
theorem q_intNT (q : Q (.int 1) H) : rInt [.bl (!false)] H Q := .inr ⟨true, rfl, q⟩
theorem q_intNF (q : Q (.int 0) H) : rInt [.bl (!true)] H Q := .inr ⟨false, rfl, q⟩
theorem iteNT {A B : Prop} (h : A) : if (!false) = true then A else B := by simpa using h
theorem iteNF {A B : Prop} (h : B) : if (!true) = true then A else B := by simpa using h
theorem q_listL {p : Addr} {ys : List V} (h : SqL K H p ys) (q : ∀ p Hn, H p = none → Ex H Hn → Hn p = some (.lst ys) → Q (.ref p) Hn) : rListOf K [.ref p] H Q := ⟨p, ys, rfl, .inl h, fun p hp => q p _ hp (Ex.mk hp rfl) upd_same⟩
theorem q_listT {p : Addr} {ys : List V} (h : SqT K H p ys) (q : ∀ p Hn, H p = none → Ex H Hn → Hn p = some (.lst ys) → Q (.ref p) Hn) : rListOf K [.ref p] H Q := ⟨p, ys, rfl, .inr h, fun p hp => q p _ hp (Ex.mk hp rfl) upd_same⟩
end

/-! ### tests that hand on more where more is wished (for while) -/
section
variable {K : PySem.W.Frag}
def MoE (t : TE) : Prop := ∀ σ H (Q Q' : VK), (∀ v H1, Q v H1 → Q' v H1) → t σ H Q → t σ H Q'
def MoT (t : TT) : Prop := ∀ σ H (Q Q' : Bool → Hp → Prop), (∀ v H1, Q v H1 → Q' v H1) → t σ H Q → t σ H Q'
def MoA (t : TA) : Prop := ∀ σ H (Q Q' : List V → Hp → Prop), (∀ v H1, Q v H1 → Q' v H1) → t σ H Q → t σ H Q'
def MoR (r : R2) : Prop := ∀ x y H (Q Q' : VK), (∀ v H1, Q v H1 → Q' v H1) → r x y H Q → r x y H Q'
def MoC (r : List V → Hp → VK → Prop) : Prop := ∀ x H (Q Q' : VK), (∀ v H1, Q v H1 → Q' v H1) → r x H Q → r x H Q'
theorem mo_var {i : Nat} : MoE (tVar i) := fun _ _ _ _ k ⟨v, h, q⟩ => ⟨v, h, k _ _ q⟩
theorem mo_c {v : V} : MoE (tC v) := fun _ _ _ _ k q => k _ _ q
theorem mo_op {r : R2} {a b : TE} (hr : MoR r) (ha : MoE a) (hb : MoE b) : MoE (tOp r a b) := fun σ H Q Q' k h => ha _ _ _ _ (fun x H1 q => hb _ _ _ _ (fun y H2 q => hr _ _ _ _ _ k q) q) h
theorem mo_test {a : TE} (ha : MoE a) : MoT (tTest a) := fun σ H Q Q' k h => ha _ _ _ _ (fun x H1 ⟨c, e, q⟩ => ⟨c, e, k _ _ q⟩) h
theorem mo_and {a b : TT} (ha : MoT a) (hb : MoT b) : MoT (tAnd a b) := fun σ H Q Q' k h => ha _ _ _ _ (fun c H1 q => by
  cases c
  · exact k _ _ q
  · exact hb _ _ _ _ k q) h
theorem mo_or {a b : TT} (ha : MoT a) (hb : MoT b) : MoT (tOr a b) := fun σ H Q Q' k h => ha _ _ _ _ (fun c H1 q => by
  cases c
  · exact hb _ _ _ _ k q
  · exact k _ _ q) h
theorem mo_not {a : TT} (ha : MoT a) : MoT (tNot a) := fun σ H Q Q' k h => ha _ _ _ _ (fun c H1 q => k _ _ q) h
theorem mo_nil : MoA tNil := fun _ _ _ _ k q => k _ _ q
theorem mo_cons {a : TE} {r : TA} (ha : MoE a) (hr : MoA r) : MoA (tCons a r) := fun σ H Q Q' k h => ha _ _ _ _ (fun x H1 q => hr _ _ _ _ (fun xs H2 q => k _ _ q) q) h
theorem mo_cb {r : List V → Hp → VK → Prop} {a : TA} (hr : MoC r) (ha : MoA a) : MoE (tCB r a) := fun σ H Q Q' k h => ha _ _ _ _ (fun x H1 q => hr _ _ _ _ k q) h
theorem mo_I0 {f : Int → Int → V} : MoR (rI0 f) := fun _ _ _ _ _ k ⟨i, j, a, b, q⟩ => ⟨i, j, a, b, k _ _ q⟩
theorem mo_I {C : Int → Int → Prop} {f : Int → Int → V} : MoR (rI C f) := fun _ _ _ _ _ k ⟨i, j, a, b, c, q⟩ => ⟨i, j, a, b, c, k _ _ q⟩
theorem mo_eqA : MoR (rEqA K) := fun _ _ _ _ _ k h => h.elim (fun ⟨a, q⟩ => .inl ⟨a, k _ _ q⟩) fun ⟨d, e, a, b, c, f, q⟩ => .inr ⟨d, e, a, b, c, f, k _ _ q⟩
theorem mo_neA : MoR (rNeA K) := fun _ _ _ _ _ k h => h.elim (fun ⟨a, q⟩ => .inl ⟨a, k _ _ q⟩) fun ⟨d, e, a, b, c, f, q⟩ => .inr ⟨d, e, a, b, c, f, k _ _ q⟩
theorem mo_ix : MoR (rIx K) := fun _ _ _ _ _ k h => by
  rcases h with ⟨p, xs, i, v, a, b, c, d, q⟩ | ⟨p, xs, i, v, a, b, c, d, q⟩ | ⟨z, i, c, a, b, d, e, q⟩
  · exact .inl ⟨p, xs, i, v, a, b, c, d, k _ _ q⟩
  · exact .inr (.inl ⟨p, xs, i, v, a, b, c, d, k _ _ q⟩)
  · exact .inr (.inr ⟨z, i, c, a, b, d, e, k _ _ q⟩)
theorem mo_lenA : MoC (rLenA K) := fun _ _ _ _ k h => by
  rcases h with ⟨p, ys, a, b, q⟩ | ⟨z, a, b, q⟩
  · exact .inl ⟨p, ys, a, b, k _ _ q⟩
  · exact .inr ⟨z, a, b, k _ _ q⟩
theorem ix0 {n : Nat} : ixN (n + 1) 0 = some 0 := by
  unfold ixN
  rw [if_pos (by decide), if_pos (by omega)]
  rfl
end
end Y
namespace Y
open PySem L2
def topS (i : Nat) : Stmt := PySem.Challenge.pw_placedanyhow_k43_links_keep_their_order.main.body.getD i (.Pass ⟨0, 0, 0, 0⟩)
local macro_rules | `(tactic| walk_at "lift") => `(tactic| first
  | assumption
  | (refine at_ex (by assumption) ?_; walk_at "lift")
  | (refine tup_kp (by assumption) ?_; walk_at "lift")
  | (refine at_kp (by assumption) (by walk_at "nin") ?_; walk_at "lift"))
local macro_rules | `(tactic| walk_at "sq") => `(tactic| first
  | assumption
  | (refine sqt ?_; walk_at "lift")
  | (refine sql ?_; walk_at "lift"))
local macro_rules | `(tactic| walk_at "ar") => `(tactic| first
  | assumption
  | omega
  | (refine And.intro ?_ ?_ <;> omega)
  | (refine cdiv ⟨?_, ?_⟩ <;> omega)
  | (refine cmulL ⟨?_, ?_⟩ <;> omega)
  | (refine cmulR ⟨?_, ?_⟩ <;> omega)
  | decide)
set_option hygiene false in
local macro_rules | `(tactic| walk_at "i_disp") => `(tactic| intro dp Hn hdp ke hdn)
set_option hygiene false in
local macro_rules | `(tactic| walk_at "i_new") => `(tactic| intro p Hn hp ke hn)
local macro_rules | `(tactic| walk_at "len") => `(tactic| first | decide | (simp only [List.length_cons, List.length_nil, List.length_append, List.length_map]; omega))
local macro_rules | `(tactic| walk_at "new") => `(tactic| first
  | ((with_reducible refine q_newT ?h ?_); (case h => walk_at "len"); walk_at "i_new")
  | ((with_reducible refine q_newL ?h ?_); (case h => walk_at "len"); walk_at "i_new")
  | ((with_reducible refine q_sl1T (x := ?x) (xs := ?xs) ?h ?_); (case h => walk_at "sq"); walk_at "i_new")
  | ((with_reducible refine q_sl1L (x := ?x) (xs := ?xs) ?h ?_); (case h => walk_at "sq"); walk_at "i_new")
  | ((with_reducible refine q_listL (ys := ?ys) ?h ?_); (case h => walk_at "sq"); walk_at "i_new")
  | ((with_reducible refine q_listT (ys := ?ys) ?h ?_); (case h => walk_at "sq"); walk_at "i_new"))
local macro_rules | `(tactic| walk_at "arx") => `(tactic| first
  | omega
  | decide
  | (simp only [List.length_cons, List.length_nil, List.length_map]; omega))
set_option hygiene false in
local macro_rules | `(tactic| walk_at "q") => `(tactic| exact q)
local macro_rules | `(tactic| walk_at "st") => `(tactic| first
  | with_reducible refine r_seq ?_
  | with_reducible refine r_ifS ?_
  | with_reducible refine r_asg ?_
  | with_reducible refine r_ret ?_
  | with_reducible refine r_retN ?_
  | with_reducible refine r_next ?_
  | with_reducible refine r_drop ?_
  | ((with_reducible refine r_aug (v := ?v) ?h ?_); (case h => exact rfl))
  | with_reducible refine q_ip ?_
  | ((with_reducible refine r_var (v := ?v) ?h ?_); (case h => exact rfl))
  | with_reducible refine r_c ?_
  | with_reducible refine r_op ?_
  | with_reducible refine r_un ?_
  | with_reducible refine r_test ?_
  | with_reducible refine r_tB ?_
  | with_reducible refine q_exb ?_
  | with_reducible refine r_and ?_
  | with_reducible refine r_or ?_
  | with_reducible refine r_not ?_
  | with_reducible refine r_andV ?_
  | with_reducible refine r_orV ?_
  | with_reducible refine r_notV ?_
  | with_reducible refine r_ifE ?_
  | with_reducible refine iteT ?_
  | with_reducible refine iteF ?_
  | with_reducible refine iteNT ?_
  | with_reducible refine iteNF ?_
  | with_reducible refine q_intNT ?_
  | with_reducible refine q_intNF ?_
  | with_reducible refine r_cons ?_
  | with_reducible refine r_nil ?_
  | with_reducible refine r_cb ?_
  | with_reducible refine r_call ?_
  | with_reducible refine r_tup ?_
  | with_reducible refine r_lst ?_
  | with_reducible refine r_gname ?_
  | with_reducible refine r_gnil ?_
  | with_reducible refine r_gcons ?_
  | with_reducible refine r_gsub ?_
  | ((with_reducible refine r_gtup (xs := ?xs) ?h ?l ?_); (case h => walk_at "sq"); (case l => rfl))
  | with_reducible refine r_sl ?_
  | with_reducible refine r_part ?_
  | with_reducible refine r_nopart ?_
  | with_reducible refine q_part ?_
  | with_reducible refine r_dget ?_
  | ((with_reducible refine q_dget (kvs := ?kvs) (v := ?v) ?h ?l ?_); (case h => walk_at "lift"); (case l => first | assumption | rfl))
  | with_reducible refine r_bm ?_
  | with_reducible refine r_bm0 ?_
  | with_reducible refine q_addI ?_
  | ((with_reducible refine q_eqY ?s ?e ?_); (case e => first | exact rfl | decide +kernel); (case s => rfl))
  | ((with_reducible refine q_eqN ?s ?e ?_); (case e => decide +kernel); (case s => rfl))
  | ((with_reducible refine q_eqN ?s ?e ?_); (case e => walk_at "ne"); (case s => rfl))
  | (with_reducible refine q_eqI (fun c => ?_) (fun c => ?_))
  | (with_reducible refine q_eqS (fun c => ?_) (fun c => ?_))
  | ((with_reducible refine q_neY ?s ?e ?_); (case e => decide +kernel); (case s => rfl))
  | ((with_reducible refine q_neN ?s ?e ?_); (case e => first | exact rfl | decide +kernel); (case s => rfl))
  | (with_reducible refine q_neI (fun c => ?_) (fun c => ?_))
  | (with_reducible refine q_neS (fun c => ?_) (fun c => ?_))
  | ((with_reducible refine q_cmpY ?h ?_); (case h => walk_at "arx"))
  | ((with_reducible refine q_cmpN ?h ?_); (case h => walk_at "arx"))
  | (with_reducible refine q_cmp (fun c => ?_) (fun c => ?_))
  | ((with_reducible refine q_I ?c ?_); (case c => walk_at "ar"))
  | with_reducible refine q_I0 ?_
  | with_reducible refine q_U ?_
  | ((with_reducible refine q_ixT (xs := ?xs) (v := ?v) ?h ?a ?_); (case h => walk_at "sq"); (case a => exact rfl))
  | ((with_reducible refine q_lenL (xs := ?xs) ?h ?_); (case h => walk_at "sq"))
  | ((with_reducible refine q_lenT (xs := ?xs) ?h ?_); (case h => walk_at "sq"))
  | with_reducible refine q_isiBI ?_
  | with_reducible refine q_isiBN ?_
  | ((with_reducible refine q_inTY (xs := ?xs) ?h ?e ?_); (case h => walk_at "sq"); (case e => first | decide +kernel | rfl))
  | ((with_reducible refine q_inTN (xs := ?xs) ?h ?e ?_); (case h => walk_at "sq"); (case e => first | decide +kernel | rfl))
  | ((with_reducible refine q_inLY (xs := ?xs) ?h ?e ?_); (case h => walk_at "sq"); (case e => first | decide +kernel | rfl))
  | ((with_reducible refine q_inLN (xs := ?xs) ?h ?e ?_); (case h => walk_at "sq"); (case e => first | decide +kernel | rfl))
  | with_reducible refine q_int ?_
  | with_reducible refine q_intT ?_
  | with_reducible refine q_intF ?_
  | with_reducible refine q_abs ?_
  | with_reducible refine r_yes ?_
  | with_reducible refine r_lc ?_
  | (with_reducible refine r_disp ?_; walk_at "i_disp")
  | with_reducible refine r_pcons ?_
  | with_reducible refine r_pnil ?_
  | with_reducible refine r_for ?_
  | with_reducible refine r_iL ?_
  | with_reducible refine r_iT ?_
  | with_reducible refine r_iS ?_
  | with_reducible refine q_iS ?_
  | with_reducible refine r_rng1 ?_
  | with_reducible refine r_rng2 ?_
  | ((with_reducible refine q_iL (xs := ?xs) ?h ?_); (case h => walk_at "sq"))
  | ((with_reducible refine q_iT (xs := ?xs) ?h ?_); (case h => walk_at "sq"))
  | ((with_reducible refine q_rng1 ?h ?_); (case h => walk_at "ar"))
  | ((with_reducible refine q_rng2 ?h ?_); (case h => refine And.intro ?_ (And.intro ?_ (And.intro ?_ ?_)) <;> omega))
  | walk_at "q"
  | with_reducible refine q_isNY rfl ?_
  | ((with_reducible refine q_isNN ?h ?_); (case h => intro z; cases z))
  | with_reducible refine q_notNY rfl ?_
  | ((with_reducible refine q_notNN ?h ?_); (case h => intro z; cases z))
  | ((with_reducible refine q_ixL (xs := ?xs) (v := ?v) ?h ?a ?_); (case h => walk_at "sq"); (case a => first | exact rfl | exact at0 | assumption | walk_at "ax"))
  | walk_at "new"
  | walk_at "own"
  | fail)
local macro_rules | `(tactic| walk_at "own") => `(tactic| fail)
local macro_rules | `(tactic| walk_at "ne") => `(tactic| fail)
local macro_rules | `(tactic| walk_at "ax") => `(tactic| fail)
local macro_rules | `(tactic| walk_at "ex") => `(tactic| first
  | assumption
  | exact Ex.refl _
  | (refine Ex.trans ?_ (by assumption); walk_at "ex"))
structure Glo (K : PySem.W.Frag) (w : World) (mg : Str → Option Value) : Prop where
  n_len : mg "len" = none
  n_int : mg "int" = none
  n_abs : mg "abs" = none
  n_range : mg "range" = none
  n_list : mg "list" = none
  n_tuple : mg "tuple" = none
  n_dict : mg "dict" = none
  n_bool : mg "bool" = none
  n_sorted : mg "sorted" = none
  n_sum : mg "sum" = none
  n_isinstance : mg "isinstance" = none
local macro_rules | `(tactic| walk_at "lev") => `(tactic| first | decide | omega)
variable {P : Program} {w : World} {K : PySem.W.Frag} {mg : Str → Option Value} {base : Heap}
/-! ### own classes -/
section
variable (P : Program) (w : World) (K : PySem.W.Frag) (mg : Str → Option Value) (base : Heap)
/-- a method as it stands behind the top -/
def DnM (C : Addr) (m q : Str) (st : Stmt) (ps : List Str) : Prop := ∃ f fd, Cls K C ∧ Meth K C m f ∧ Fun K m q st f fd ∧ Binds K fd ps []
/-- a class with its __init__ -/
def DnI (x q : Str) (C : Addr) (st : Stmt) (ps : List Str) : Prop := ∃ f fd, Mk K C f ∧ Fun K "__init__" q st f fd ∧ mg x = some (.ref C) ∧ Binds K fd ps []
def MetC (C : Addr) (m : Str) (k : Nat) (ps : List Str) (sp : Sp) : Prop := ∃ f fd, Cls K C ∧ Meth K C m f ∧ FnOk P w K mg base CX0 k f fd ps sp ∧ Binds K fd ps []
def MakC (x : Str) (C : Addr) (k : Nat) (ps : List Str) (sp : Sp) : Prop := ∃ f fd, Mk K C f ∧ FnOk P w K mg base CX0 k f fd ps sp ∧ mg x = some (.ref C) ∧ Binds K fd ps []
end
section
variable {P : Program} {w : World} {K : PySem.W.Frag} {mg : Str → Option Value} {base : Heap}
theorem DnM.ok {C : Addr} {m q : Str} {st : Stmt} {N ps : List Str} {k : Nat} {sp : Sp} (D : DnM K C m q st ps) (S : FnScope N ps (defScope st)) (len : ∀ vs H Q E, sp vs H Q E → vs.length = ps.length)
    (hbody : ∀ (f : Addr) (cdv : Value) (A : Around) (outer : List Env) (s : Shared) (H : Hp) (vs : List V) (Q : VK) (E : XK), Room k (A.deeper (PyProof.Rows.envOfC q (defScope st) s.heap.objs.size f cdv)) → sp vs H Q E →
      ∃ t, PSs (cxOf CX0 P w K mg base N q (defScope st) f cdv A outer s H E).nox (defBody st) t ∧ t { nx := fun _ H' => Q .non H', rt := Q } (start N vs) H) : MetC P w K mg base C m (k + 1) ps sp := by
  obtain ⟨f, fd, c, me, F, b⟩ := D
  exact ⟨f, fd, c, me, F.ok S len (hbody f), b⟩
theorem DnI.ok {x q : Str} {C : Addr} {st : Stmt} {N ps : List Str} {k : Nat} {sp : Sp} (D : DnI K mg x q C st ps) (S : FnScope N ps (defScope st)) (len : ∀ vs H Q E, sp vs H Q E → vs.length = ps.length)
    (hbody : ∀ (f : Addr) (cdv : Value) (A : Around) (outer : List Env) (s : Shared) (H : Hp) (vs : List V) (Q : VK) (E : XK), Room k (A.deeper (PyProof.Rows.envOfC q (defScope st) s.heap.objs.size f cdv)) → sp vs H Q E →
      ∃ t, PSs (cxOf CX0 P w K mg base N q (defScope st) f cdv A outer s H E).nox (defBody st) t ∧ t { nx := fun _ H' => Q .non H', rt := Q } (start N vs) H) : MakC P w K mg base x C (k + 1) ps sp := by
  obtain ⟨f, fd, mk, F, m, b⟩ := D
  exact ⟨f, fd, mk, F.ok S len (hbody f), m, b⟩
theorem pe_mtC {X : Cx} {C : Addr} {m : Str} {k : Nat} {ps : List Str} {sp : Sp} {o e : Expr} {es : List Expr} {ta : TE} {t : TA} {pos apos : Pos} {pl : Sem Bool} (G : MetC X.prog X.w X.K X.mg X.base C m k ps sp) (hr : Room k X.A) (he : PE X o ta) (ha : PA X (e :: es) t)
    (hst : starEach (e :: es) X.env = (false, eval e X.env) :: starEach es X.env := by rfl) (hpl : (backTo pos (starEach es X.env)).any (·.1) = false := by rfl)
    (ht : eval (.Call (.Attribute o m apos) (e :: es) [] pos) X.env = (do
      let ov ← eval o X.env
      standAt apos.atName
      let (f, first) ← holding [ov] (getMethod ov m pl)
      callWith pos f first (backTo pos (starEach (e :: es) X.env)) (backToKw pos (keywordEach [] X.env))) := by rfl) :
    PE X (.Call (.Attribute o m apos) (e :: es) [] pos) (tMeth C m sp [] E0 ta t) := by
  obtain ⟨f, fd, c, me, F, b⟩ := G
  exact pe_meth (pl := pl) he c me F hr b .nil pass0 ha hst hpl ht
theorem pe_mtC0 {X : Cx} {C : Addr} {m : Str} {k : Nat} {ps : List Str} {sp : Sp} {o : Expr} {ta : TE} {pos apos : Pos} {pl : Sem Bool} (G : MetC X.prog X.w X.K X.mg X.base C m k ps sp) (hr : Room k X.A) (he : PE X o ta)
    (ht : eval (.Call (.Attribute o m apos) [] [] pos) X.env = (do
      let ov ← eval o X.env
      standAt apos.atName
      let (f, first) ← holding [ov] (getMethod ov m pl)
      callWith pos f first (backTo pos (starEach [] X.env)) (backToKw pos (keywordEach [] X.env))) := by rfl) :
    PE X (.Call (.Attribute o m apos) [] [] pos) (tMeth C m sp [] E0 ta tNil) := by
  obtain ⟨f, fd, c, me, F, b⟩ := G
  exact pe_meth0 (pl := pl) he c me F hr b .nil pass0 ht
theorem pe_mkC {X : Cx} {x : Str} {C : Addr} {k : Nat} {ps : List Str} {sp : Sp} {e : Expr} {es : List Expr} {t : TA} {p pos : Pos} (G : MakC X.prog X.w X.K X.mg X.base x C k ps sp) (hr : Room (k + 1) X.A) (hg : Gl X x) (ha : PA X (e :: es) t)
    (hdb : (x == ("__debug__" : Str)) = false := by decide) (he : starEach (e :: es) X.env = (false, eval e X.env) :: starEach es X.env := by rfl) (hpl : (backTo pos (starEach es X.env)).any (·.1) = false := by rfl) : PE X (.Call (.Name x p) (e :: es) [] pos) (tMake C sp [] E0 t) := by
  obtain ⟨f, fd, mk, F, m, b⟩ := G
  exact pe_make mk F hr hg m b .nil pass0 ha hdb he hpl
end
section
variable {K : PySem.W.Frag} {σ : L2.St} {H : Hp} {Q : VK} {v x y : V} {te tb : TE} {tr : TA} {C : Addr} {f : Str} {nx bk ct : L2.St → Hp → Prop} {rt : VK}
def fldK (K : PySem.W.Frag) (f : Str) (Q : VK) (x : V) (H : Hp) : Prop := ∃ a C dx fs v, x = .ref a ∧ H a = some (.ins C dx fs) ∧ Cls K C ∧ NoAttr K C f ∧ fs.lookup f = some v ∧ Q v H
theorem r_fld (q : te σ H fun x H1 => fldK K f Q x H1) : tFld K te f σ H Q := q
theorem q_fld {a dx : Addr} {fs : List (Str × V)} (h : H a = some (.ins C dx fs)) (c : Cls K C) (n : NoAttr K C f) (l : fs.lookup f = some v) (q : Q v H) : fldK K f Q (.ref a) H := ⟨a, C, dx, fs, v, rfl, h, c, n, l, q⟩
def metK (C : Addr) (m : Str) (sp : Sp) (tr : TA) (σ : L2.St) (Q : VK) (x : V) (H : Hp) : Prop := ∃ a dx fs, x = .ref a ∧ H a = some (.ins C dx fs) ∧ fs.lookup m = none ∧ tr σ H fun vs H2 => sp (x :: (vs ++ [])) H2 Q E0
theorem r_meth {m : Str} {sp : Sp} (q : te σ H fun x H1 => metK C m sp tr σ Q x H1) : tMeth C m sp [] E0 te tr σ H Q := q
theorem q_meth {m : Str} {sp : Sp} {a dx : Addr} {fs : List (Str × V)} (h : H a = some (.ins C dx fs)) (l : fs.lookup m = none) (q : tr σ H fun vs H2 => sp (.ref a :: vs) H2 Q E0) : metK C m sp tr σ Q (.ref a) H := by
  refine ⟨a, dx, fs, rfl, h, l, ?_⟩
  have e : (fun (vs : List V) (H2 : Hp) => sp (.ref a :: (vs ++ [])) H2 Q E0) = fun vs H2 => sp (.ref a :: vs) H2 Q E0 := by
    funext vs H2
    rw [List.append_nil]
  rw [e]
  exact q
def sfldK (K : PySem.W.Frag) (f : Str) (N : Hp → Prop) (y x : V) (H : Hp) : Prop := ∃ a C dx fs, x = .ref a ∧ H a = some (.ins C dx fs) ∧ Cls K C ∧ NoAttr K C f ∧ fs.length < 1000 ∧ N (upd H a (.ins C dx (putF f y fs)))
theorem r_sfld (q : tb σ H fun y H1 => te σ H1 fun x H2 => sfldK K f (nx σ) y x H2) : sFld K te tb f ⟨nx, rt, bk, ct⟩ σ H := q
theorem q_sfld {N : Hp → Prop} {a dx : Addr} {fs fs' : List (Str × V)} (h : H a = some (.ins C dx fs)) (c : Cls K C) (n : NoAttr K C f) (l : fs.length < 1000) (e : putF f y fs = fs') (q : N (upd H a (.ins C dx fs'))) : sfldK K f N y (.ref a) H := ⟨a, C, dx, fs, rfl, h, c, n, l, by rw [e]; exact q⟩
def afldK (K : PySem.W.Frag) (f : Str) (tb : TE) (rd : V → V → Hp → VK → Prop) (nx : L2.St → Hp → Prop) (σ : L2.St) (x : V) (H1 : Hp) : Prop := ∃ a C dx fs v, x = .ref a ∧ H1 a = some (.ins C dx fs) ∧ Cls K C ∧ NoAttr K C f ∧ fs.lookup f = some v ∧
  tb σ H1 fun y H2 => rd v y H2 fun z H3 => ∃ dx' fs', H3 a = some (.ins C dx' fs') ∧ fs'.length < 1000 ∧ nx σ (upd H3 a (.ins C dx' (putF f z fs')))
theorem r_afld {rd : V → V → Hp → VK → Prop} (q : te σ H fun x H1 => afldK K f tb rd nx σ x H1) : sFldAug K te tb rd f ⟨nx, rt, bk, ct⟩ σ H := q
theorem q_afld {rd : V → V → Hp → VK → Prop} {a dx : Addr} {fs : List (Str × V)} (h : H a = some (.ins C dx fs)) (c : Cls K C) (n : NoAttr K C f) (l : fs.lookup f = some v)
    (q : tb σ H fun y H2 => rd v y H2 fun z H3 => ∃ dx' fs', H3 a = some (.ins C dx' fs') ∧ fs'.length < 1000 ∧ nx σ (upd H3 a (.ins C dx' (putF f z fs')))) : afldK K f tb rd nx σ (.ref a) H := ⟨a, C, dx, fs, v, rfl, h, c, n, l, q⟩
def makK (C : Addr) (sp : Sp) (Q : VK) (vs : List V) (H : Hp) : Prop := ∀ x dx, H x = none → H dx = none → dx ≠ x → sp (.ref x :: vs) (upd (upd H dx (.own x)) x (.ins C dx [])) (fun v H2 => v = .non ∧ Q (.ref x) H2) E0
theorem r_make {sp : Sp} (q : tr σ H fun vs H1 => makK C sp Q vs H1) : tMake C sp [] E0 tr σ H Q := by
  have e : (fun (vs : List V) (H1 : Hp) => ∀ x dx, H1 x = none → H1 dx = none → dx ≠ x → sp (.ref x :: (vs ++ [])) (upd (upd H1 dx (.own x)) x (.ins C dx [])) (fun v H2 => v = .non ∧ Q (.ref x) H2) E0) = fun vs H1 => makK C sp Q vs H1 := by
    funext vs H1
    rw [List.append_nil]
    rfl
  show tr σ H _
  rw [e]
  exact q
theorem q_addF {i j : Int} (q : Q (.int (i + j)) H) : rAdd (.int i) (.int j) H Q := ⟨i, j, rfl, rfl, q⟩
theorem lk_hd {r : List (Str × V)} : List.lookup f ((f, v) :: r) = some v := by simp [List.lookup]
theorem lk_tl {g : Str} {u : V} {r : List (Str × V)} (h : decide (f = g) = false) : List.lookup f ((g, u) :: r) = List.lookup f r := by
  have h' : ¬ f = g := of_decide_eq_false h
  have h2 : (f == g) = false := by simpa using h'
  simp [List.lookup, h2]
theorem lk_tl' {g : Str} {u : V} {r : List (Str × V)} {o : Option V} (h : decide (f = g) = false) (q : List.lookup f r = o) : List.lookup f ((g, u) :: r) = o := (lk_tl h).trans q
theorem put_nil : putF f v [] = [(f, v)] := rfl
theorem put_hd {u : V} {r : List (Str × V)} : putF f v ((f, u) :: r) = (f, v) :: r := by
  show (if f = f then _ else _) = _
  rw [if_pos rfl]
theorem put_tl {g : Str} {u : V} {r r' : List (Str × V)} (h : decide (g = f) = false) (q : putF f v r = r') : putF f v ((g, u) :: r) = (g, u) :: r' := by
  show (if g = f then _ else _) = _
  rw [if_neg (of_decide_eq_false h), q]
end
local macro_rules | `(tactic| walk_at "lk") => `(tactic| first
  | exact lk_hd
  | exact rfl
  | (refine lk_tl' (by decide +kernel) ?_; walk_at "lk"))
local macro_rules | `(tactic| walk_at "put") => `(tactic| first
  | exact put_nil
  | exact put_hd
  | (refine put_tl (by decide +kernel) ?_; walk_at "put"))
local macro_rules | `(tactic| walk_at "cls") => `(tactic| assumption)
local macro_rules | `(tactic| walk_at "own") => `(tactic| first
  | with_reducible refine r_fld ?_
  | with_reducible refine r_make ?_
  | ((with_reducible refine q_fld (C := ?C) (dx := ?dx) (fs := ?fs) (v := ?v) ?h ?c ?n ?l ?_); (case h => walk_at "lift"); (case c => walk_at "cls"); (case n => walk_at "cls"); (case l => walk_at "lk"))
  | with_reducible refine r_meth ?_
  | ((with_reducible refine q_meth (dx := ?dx) (fs := ?fs) ?h ?l ?_); (case h => walk_at "lift"); (case l => walk_at "lk"))
  | with_reducible refine r_sfld ?_
  | with_reducible refine r_afld ?_
  | ((with_reducible refine q_afld (C := ?C) (dx := ?dx) (fs := ?fs) (v := ?v) ?h ?c ?n ?l ?_); (case h => walk_at "lift"); (case c => walk_at "cls"); (case n => walk_at "cls"); (case l => walk_at "lk"))
  | with_reducible refine q_addF ?_)
abbrev s__law_state : Stmt := topS 5
theorem sc__law_state : FnScope ["script", "seed", "cell"] ["script"] (defScope s__law_state) := ⟨rfl, rfl, rfl, by decide +kernel, rfl, by decide +kernel, by decide +kernel⟩
abbrev p__law_state : List Str := ["script"]
abbrev s__law_draw : Stmt := topS 6
theorem sc__law_draw : FnScope ["state", "many", "cells", "mixed", "number"] ["state", "many"] (defScope s__law_draw) := ⟨rfl, rfl, rfl, by decide +kernel, rfl, by decide +kernel, by decide +kernel⟩
abbrev p__law_draw : List Str := ["state", "many"]
abbrev s__law_pick : Stmt := topS 7
theorem sc__law_pick : FnScope ["state", "row"] ["state", "row"] (defScope s__law_pick) := ⟨rfl, rfl, rfl, by decide +kernel, rfl, by decide +kernel, by decide +kernel⟩
abbrev p__law_pick : List Str := ["state", "row"]
/-! ### the draws' state -/
structure StOk (st c : Addr) (H : Hp) : Prop where
  ex : ∃ (ns : List Int) (s : Int), H st = some (.lst [.ref c, .int s]) ∧ H c = some (.lst (ns.map V.int)) ∧ (∀ n ∈ ns, 0 ≤ n) ∧ 0 ≤ s ∧ s < 2147483648
  ne : c ≠ st
theorem st_ex {st c : Addr} {H H' : Hp} (e : Ex H H') (h : StOk st c H) : StOk st c H' := by
  obtain ⟨⟨ns, s, a, b, d⟩, n⟩ := h
  exact ⟨⟨ns, s, e _ _ a, e _ _ b, d⟩, n⟩
/-- a fresh address is neither -/
theorem st_fresh {st c p : Addr} {H : Hp} (h : StOk st c H) (hp : H p = none) : p ∉ [st, c] := by
  obtain ⟨⟨ns, s, a, b, d⟩, n⟩ := h
  simp only [List.mem_cons, List.not_mem_nil, or_false, not_or]
  exact ⟨(ne_of_none a hp).symm, (ne_of_none b hp).symm⟩
/-! ### heaps, further: one object changed, the rest as it was -/
theorem q_tyLs {K : PySem.W.Frag} {H : Hp} {p : Addr} {xs : List V} {A : Prop} (h : SqL K H p xs) (q : A) : tyV K "list" (.ref p) H ∧ A := ⟨Or.inl ⟨rfl, xs, h⟩, q⟩
theorem kp_one {H : Hp} {p : Addr} {o o' : HO} (h : H p = some o) (n : ∀ xs, o ≠ .tup xs) : Kp [p] H (upd H p o') := Kp.set (List.mem_singleton.mpr rfl) (fun xs z => by rw [h] at z; exact n xs (Option.some.inj z)) rfl
theorem nin_c {b a : Addr} {M : List Addr} (h : b ≠ a) (t : b ∉ M) : b ∉ a :: M := fun z => by
  rcases List.mem_cons.mp z with z | z
  · exact h z
  · exact t z
theorem ne_nw {H : Hp} {a b : Addr} {o : HO} (h : H b = some o) (hp : H a = none) : b ≠ a := ne_of_none h hp
theorem ne_knd {H : Hp} {a b : Addr} {o u : HO} (h : H a = some o) (h' : H b = some u) (n : o ≠ u) : a ≠ b := ne_of h h' n
theorem kp_sub1 {H H' : Hp} {M N : List Addr} (k : Kp M H H') (s : ∀ x, x ∈ M → x ∈ N) : Kp N H H' := k.sub s
theorem sub_hd1 {D : Addr} {M : List Addr} : ∀ x, x ∈ [D] → x ∈ D :: M := fun x h => by rw [List.mem_singleton.mp h]; exact List.mem_cons_self ..
theorem kp_fresh {M N : List Addr} {H H1 H' : Hp} (k : Kp M H H1) (k2 : Kp N H1 H') (f : ∀ x, x ∈ N → x ∈ M ∨ H x = none) : Kp M H H' := ⟨fun a xs h => k2.tup _ _ (k.tup _ _ h), fun a o n h => k2.out _ _ (fun z => by
  rcases f a z with q | q
  · exact n q
  · rw [q] at h; cases h) (k.out _ _ n h)⟩
theorem fsome {H : Hp} {D : Addr} {o : HO} (h : H D = some o) : H D ≠ none := fun z => by rw [h] at z; cases z
section
variable {K : PySem.W.Frag} {σ : L2.St} {H : Hp} {Q : VK} {v x y : V} {te tb : TE} {tr : TA} {C : Addr} {f : Str} {nx bk ct : L2.St → Hp → Prop} {rt : VK}
theorem q_appN {l : Addr} {xs : List V} (h : H l = some (.lst xs)) (hz : xs.length < 100000) (q : ∀ Hn, Kp [l] H Hn → Hn l = some (.lst (xs ++ [y])) → Q .non Hn) : rAppend (.ref l) [y] H Q := q_append h hz (q _ (kp_one h (by intro _ z; cases z)) upd_same)
theorem q_sfldN {N : Hp → Prop} {a dx : Addr} {fs fs' : List (Str × V)} (h : H a = some (.ins C dx fs)) (c : Cls K C) (n : NoAttr K C f) (l : fs.length < 1000) (e : putF f y fs = fs') (q : ∀ Hn, Kp [a] H Hn → Hn a = some (.ins C dx fs') → N Hn) : sfldK K f N y (.ref a) H :=
  q_sfld h c n l e (q _ (kp_one h (by intro _ z; cases z)) upd_same)
theorem q_pop0N {l : Addr} {xs : List V} (h : H l = some (.lst (x :: xs))) (q : ∀ Hn, Kp [l] H Hn → Hn l = some (.lst xs) → Q x Hn) : rPopAt (.ref l) [.int 0] H Q := q_pop0 h (q _ (kp_one h (by intro _ z; cases z)) upd_same)
theorem q_setLN {p : Addr} {xs : List V} {k : Int} {j : Nat} {QH : Hp → Prop} (h : H p = some (.lst xs)) (hj : ixN xs.length k = some j) (q : ∀ Hn, Kp [p] H Hn → Hn p = some (.lst (xs.set j v)) → QH Hn) : rSetL (.ref p) (.int k) v H QH := q_setL h hj (q _ (kp_one h (by intro _ z; cases z)) upd_same)
theorem q_dgetI {p : Addr} {kvs : List (Key × V)} {n : Int} {B : V → Prop} (h : H p = some (.dK kvs)) (hl : valV kvs (Sum.inl n) = some v) (q : B v) : ∃ a v', V.ref p = .ref a ∧ DGet H a (.int n) (some v') ∧ B v' :=
  ⟨p, v, rfl, by rw [← hl]; exact DGet.k (k := Sum.inl n) h, q⟩
theorem f_dput {td ty tv : TE} (q : tv σ H fun v H1 => td σ H1 fun x H2 => ty σ H2 fun y H3 => ∃ a H4, x = .ref a ∧ DPut H3 a y v H4 ∧ nx σ H4) : sDPut td ty tv ⟨nx, rt, bk, ct⟩ σ H := q
theorem q_dputI {p : Addr} {kvs : List (Key × V)} {n : Int} {B : Hp → Prop} (h : H p = some (.dK kvs)) (hl : kvs.length ≤ 1000) (q : ∀ Hn, Kp [p] H Hn → Hn p = some (.dK (putK kvs (Sum.inl n) v)) → B Hn) : ∃ a H', V.ref p = .ref a ∧ DPut H a (.int n) v H' ∧ B H' :=
  ⟨p, _, rfl, DPut.k (k := Sum.inl n) h (sl1000' (by omega)), q _ (kp_one h (by intro _ z; cases z)) upd_same⟩
theorem q_dputS {p : Addr} {kvs : List (Key × V)} {z : Str} {B : Hp → Prop} (h : H p = some (.dK kvs)) (hl : kvs.length ≤ 1000) (q : ∀ Hn, Kp [p] H Hn → Hn p = some (.dK (putK kvs (Sum.inr z) v)) → B Hn) : ∃ a H', V.ref p = .ref a ∧ DPut H a (.str z) v H' ∧ B H' :=
  ⟨p, _, rfl, DPut.k (k := Sum.inr z) h (sl1000' (by omega)), q _ (kp_one h (by intro _ z; cases z)) upd_same⟩
theorem q_truC {B : Bool → Prop} {a : Addr} {xs : List V} (h : SqL K H a (x :: xs)) (q : B true) : ∃ k, TruV K (.ref a) H k ∧ B k := ⟨_, .inl ⟨_, h, rfl⟩, q⟩
theorem q_truN {B : Bool → Prop} {a : Addr} (h : SqL K H a []) (q : B false) : ∃ k, TruV K (.ref a) H k ∧ B k := ⟨_, .inl ⟨_, h, rfl⟩, q⟩
theorem f_truth {QT : Bool → Hp → Prop} (q : te σ H fun x H' => ∃ k, TruV K x H' k ∧ QT k H') : (fun σ H (Q : Bool → Hp → Prop) => te σ H fun x H' => ∃ k, TruV K x H' k ∧ Q k H') σ H QT := q
theorem q_isiL {p : Addr} {xs : List V} (h : H p = some (.lst xs)) (q : Q (.bl true) H) : rIsi K [.ref p, .ty "list"] H Q := q_isi (.lst h) (kit_ty (r := true) (by decide +kernel)) q
theorem q_isiTp {p : Addr} {xs : List V} (h : H p = some (.tup xs)) (q : Q (.bl true) H) : rIsi K [.ref p, .ty "tuple"] H Q := q_isi (.tup h) (kit_ty (r := true) (by decide +kernel)) q
theorem q_isiLT {p : Addr} {xs : List V} (h : H p = some (.tup xs)) (q : Q (.bl false) H) : rIsi K [.ref p, .ty "list"] H Q := q_isi (.tup h) (kit_ty (r := false) (by decide +kernel)) q
theorem q_isiBB {b : Bool} (q : Q (.bl true) H) : rIsi K [.bl b, .ty "bool"] H Q := q_isi (.bl b) (kit_ty (by decide +kernel)) q
end
local macro_rules | `(tactic| walk_at "nin") => `(tactic| first
  | assumption
  | exact List.not_mem_nil
  | (refine st_fresh (H := ?H) ?a ?b; (case b => assumption); (case a => walk_at "st_ok"))
  | (refine nin_c (by walk_at "ne1") ?_; walk_at "nin"))
local macro_rules | `(tactic| walk_at "ne1") => `(tactic| first
  | assumption
  | exact Ne.symm (by assumption)
  | (refine ne_nw (H := ?hh) (o := ?u) ?a ?b; (case b => assumption); (case a => walk_at "lift"))
  | (refine Ne.symm ?_; refine ne_nw (H := ?hh) (o := ?u) ?a ?b; (case b => assumption); (case a => walk_at "lift")))
local macro_rules | `(tactic| walk_at "putx") => `(tactic| first
  | exact put_nil
  | exact put_hd
  | (refine put_tl (r' := ?rr) ?hh ?qq; (case hh => decide +kernel); (case qq => walk_at "putx")))
local macro_rules | `(tactic| walk_at "len2") => `(tactic| first
  | decide
  | omega
  | exact of_decide_eq_true rfl
  | (simp only [List.length_cons, List.length_nil, List.length_append, List.length_map, List.length_take]; omega))
theorem r_dnewN {σ : L2.St} {H : Hp} {Q : VK} (q : ∀ p Hn, H p = none → Ex H Hn → Hn p = some (.dK []) → Q (.ref p) Hn) : tDNewK σ H Q := fun p hp => q p _ hp (Ex.mk hp rfl) upd_same
set_option hygiene false in
local macro_rules | `(tactic| walk_at "i_upd") => `(tactic| intro Hn ku hu)
local macro_rules | `(tactic| walk_at "own") => `(tactic| first
  | ((with_reducible refine q_tyLs (xs := ?xs) ?h ?_); (case h => walk_at "sq"))
  | ((with_reducible refine q_appN (xs := ?xs) ?h ?z ?_); (case h => walk_at "lift"); (case z => walk_at "len2"); walk_at "i_upd")
  | ((with_reducible refine q_setLN (xs := ?xs) (j := ?j) ?h ?e ?_); (case h => walk_at "lift"); (case e => first | exact rfl | exact ix0); walk_at "i_upd")
  | ((with_reducible refine q_pop0N (x := ?x) (xs := ?xs) ?h ?_); (case h => walk_at "lift"); walk_at "i_upd")
  | ((with_reducible refine q_sfldN (C := ?C) (dx := ?dx) (fs := ?fs) (fs' := ?fs') ?h ?c ?n ?l ?e ?_); (case h => walk_at "lift"); (case c => walk_at "cls"); (case n => walk_at "cls"); (case l => walk_at "len2"); (case e => walk_at "putx"); walk_at "i_upd")
  | with_reducible refine f_dput ?_
  | ((with_reducible refine q_rng1 ?h ?_); (case h => simp only [List.length_map]; omega))
  | (with_reducible refine r_dnewN ?_; walk_at "i_new")
  | ((with_reducible refine q_truC (x := ?x) (xs := ?xs) ?h ?_); (case h => walk_at "sq"))
  | ((with_reducible refine q_truN ?h ?_); (case h => walk_at "sq"))
  | ((with_reducible refine q_isiL (xs := ?xs) ?h ?_); (case h => walk_at "lift"))
  | ((with_reducible refine q_isiTp (xs := ?xs) ?h ?_); (case h => walk_at "lift"))
  | ((with_reducible refine q_isiLT (xs := ?xs) ?h ?_); (case h => walk_at "lift"))
  | with_reducible refine q_isiBB ?_)
/-! ### data of tuples -/
mutual
inductive Tp (H : Hp) : V → PyData → Prop
  | non : Tp H .non .none
  | bl (b : Bool) : Tp H (.bl b) (.bool b)
  | int (i : Int) : Tp H (.int i) (.int i)
  | str (x : Str) : Tp H (.str x) (.str x)
  | tup {a : Addr} {xs : List V} {ds : List PyData} : H a = some (.tup xs) → Tps H xs ds → Tp H (.ref a) (.tuple ds)
inductive Tps (H : Hp) : List V → List PyData → Prop
  | nil : Tps H [] []
  | cons {v : V} {vs : List V} {d : PyData} {ds : List PyData} : Tp H v d → Tps H vs ds → Tps H (v :: vs) (d :: ds)
end
mutual
theorem tp_kp {M : List Addr} {H H' : Hp} (k : Kp M H H') : ∀ {v : V} {d : PyData}, Tp H v d → Tp H' v d
  | _, _, .non => .non
  | _, _, .bl b => .bl b
  | _, _, .int i => .int i
  | _, _, .str x => .str x
  | _, _, .tup h t => .tup (k.tup _ _ h) (tps_kp k t)
theorem tps_kp {M : List Addr} {H H' : Hp} (k : Kp M H H') : ∀ {vs : List V} {ds : List PyData}, Tps H vs ds → Tps H' vs ds
  | _, _, .nil => .nil
  | _, _, .cons h t => .cons (tp_kp k h) (tps_kp k t)
end
theorem tp_ex {H H' : Hp} (k : Ex H H') {v : V} {d : PyData} (h : Tp H v d) : Tp H' v d := tp_kp (M := []) k.kp h
theorem tps_ex {H H' : Hp} (k : Ex H H') {v : List V} {d : List PyData} (h : Tps H v d) : Tps H' v d := tps_kp (M := []) k.kp h
mutual
theorem tp_dp {K : PySem.W.Frag} {H : Hp} : ∀ {v : V} {d : PyData}, Tp H v d → Dp K H v d
  | _, _, .non => .non
  | _, _, .bl b => .bl b
  | _, _, .int i => .int i
  | _, _, .str x => .str x
  | _, _, .tup h t => .tup (sqt h) (tps_dp t)
theorem tps_dp {K : PySem.W.Frag} {H : Hp} : ∀ {vs : List V} {ds : List PyData}, Tps H vs ds → DpAll K H vs ds
  | _, _, .nil => .nil
  | _, _, .cons h t => .cons (tp_dp h) (tps_dp t)
end
theorem tps_app {H : Hp} : ∀ {vs ws : List V} {ds es : List PyData}, Tps H vs ds → Tps H ws es → Tps H (vs ++ ws) (ds ++ es)
  | _, _, _, _, .nil, h => h
  | _, _, _, _, .cons a t, h => .cons a (tps_app t h)
theorem tps_len {H : Hp} : ∀ {vs : List V} {ds : List PyData}, Tps H vs ds → vs.length = ds.length
  | _, _, .nil => rfl
  | _, _, .cons _ t => by rw [List.length_cons, List.length_cons, tps_len t]
def fInts (ns : List Int) : List PyData := ns.map PyData.int
theorem tps_ints {H : Hp} : ∀ ns : List Int, Tps H (ns.map V.int) (fInts ns)
  | [] => .nil
  | n :: r => .cons (.int n) (tps_ints r)
theorem fints_dp {K : PySem.W.Frag} {H : Hp} : ∀ ns : List Int, DpAll K H (ns.map V.int) (fInts ns)
  | [] => .nil
  | n :: r => .cons (.int n) (fints_dp r)
theorem fints_lay : ∀ ns : List Int, PyData.canLayAll0 (fInts ns) = true
  | [] => by simp [fInts, PyData.canLayAll0]
  | c :: r => by
    have h := fints_lay r
    simp only [fInts] at h
    simp [fInts, PyData.canLayAll0, PyData.canLay0, h]
theorem fints_depth : ∀ ns : List Int, PyData.depthAll (fInts ns) = 0
  | [] => by simp [fInts, PyData.depthAll]
  | c :: r => by
    have h := fints_depth r
    simp only [fInts] at h
    simp [fInts, PyData.depthAll, PyData.depth, h]
theorem flay_map {α : Type} {f : α → PyData} : ∀ xs : List α, (∀ x ∈ xs, (f x).canLay0 = true) → PyData.canLayAll0 (xs.map f) = true
  | [], _ => by simp [PyData.canLayAll0]
  | c :: r, h => by simp [PyData.canLayAll0, h c (List.mem_cons_self ..), flay_map r fun x hx => h x (List.mem_cons_of_mem _ hx)]
theorem fdepth_map {α : Type} {f : α → PyData} {b : Nat} : ∀ xs : List α, (∀ x ∈ xs, (f x).depth ≤ b) → PyData.depthAll (xs.map f) ≤ b
  | [], _ => by simp [PyData.depthAll]
  | c :: r, h => by
    have h1 := h c (List.mem_cons_self ..)
    have h2 := fdepth_map r fun x hx => h x (List.mem_cons_of_mem _ hx)
    simp only [List.map_cons, PyData.depthAll]
    omega
theorem flist_shaped {ds : List PyData} (h1 : PyData.canLayAll0 ds = true) (h2 : PyData.depthAll ds ≤ 20) : SeqAt.shaped (.list ds) = true := by
  have h3 : PyData.depthAll ds + 1 ≤ 64 := by omega
  simp [SeqAt.shaped, PyData.canLay0, PyData.depth, h1, h3]
theorem fq_eqDat {K : PySem.W.Frag} {H : Hp} {Q : VK} {a b : V} {ds : List PyData} (h1 : Dp K H a (.list ds)) (h2 : Dp K H b (.list ds)) (l : PyData.canLayAll0 ds = true) (d : PyData.depthAll ds ≤ 20) (q : Q (.bl true) H) : rEqA K a b H Q :=
  .inr ⟨_, _, h1, h2, flist_shaped l d, flist_shaped l d, by rw [SeqAt.eqv_refl _ (by simp [PyData.canLay0, l])]; exact q⟩
theorem fq_neDat {K : PySem.W.Frag} {H : Hp} {Q : VK} {a b : V} {ds : List PyData} (h1 : Dp K H a (.list ds)) (h2 : Dp K H b (.list ds)) (l : PyData.canLayAll0 ds = true) (d : PyData.depthAll ds ≤ 20) (q : Q (.bl false) H) : rNeA K a b H Q :=
  .inr ⟨_, _, h1, h2, flist_shaped l d, flist_shaped l d, by rw [SeqAt.eqv_refl _ (by simp [PyData.canLay0, l])]; exact q⟩
theorem fq_neInts {K : PySem.W.Frag} {H : Hp} {Q : VK} {a b : Addr} {ns : List Int} (h1 : H a = some (.lst (ns.map V.int))) (h2 : H b = some (.lst (ns.map V.int))) (q : Q (.bl false) H) : rNeA K (.ref a) (.ref b) H Q :=
  fq_neDat (.lst (sql h1) (fints_dp ns)) (.lst (sql h2) (fints_dp ns)) (fints_lay ns) (by rw [fints_depth]; omega) q
theorem fq_eqInts {K : PySem.W.Frag} {H : Hp} {Q : VK} {a b : Addr} {ns : List Int} (h1 : H a = some (.lst (ns.map V.int))) (h2 : H b = some (.lst (ns.map V.int))) (q : Q (.bl true) H) : rEqA K (.ref a) (.ref b) H Q :=
  fq_eqDat (.lst (sql h1) (fints_dp ns)) (.lst (sql h2) (fints_dp ns)) (fints_lay ns) (by rw [fints_depth]; omega) q
local macro_rules | `(tactic| walk_at "tp") => `(tactic| first
  | assumption
  | exact Tp.int _
  | exact Tp.str _
  | exact Tp.non
  | exact Tp.bl _
  | (refine Tp.tup (xs := ?xs) ?h ?t; (case h => walk_at "lift"); (case t => walk_at "tps"))
  | (refine tp_ex (by assumption) ?_; walk_at "tp")
  | (refine tp_kp (by assumption) ?_; walk_at "tp"))
local macro_rules | `(tactic| walk_at "tps") => `(tactic| first
  | assumption
  | exact Tps.nil
  | (refine Tps.cons ?h ?t; (case h => walk_at "tp"); (case t => walk_at "tps"))
  | (refine tps_ex (by assumption) ?_; walk_at "tps")
  | (refine tps_kp (by assumption) ?_; walk_at "tps"))
/-! ### frames over several steps -/
theorem subf_n {M : List Addr} {H : Hp} : ∀ x, x ∈ ([] : List Addr) → x ∈ M ∨ H x = none := fun _ h => absurd h List.not_mem_nil
theorem subf_c {M N : List Addr} {H : Hp} {a : Addr} (h : a ∈ M ∨ H a = none) (t : ∀ x, x ∈ N → x ∈ M ∨ H x = none) : ∀ x, x ∈ a :: N → x ∈ M ∨ H x = none := fun x hx => by
  rcases List.mem_cons.mp hx with rfl | hx
  · exact h
  · exact t x hx
theorem ex_of_kp {H H' : Hp} (k : Kp [] H H') : Ex H H' := fun a o h => k.out a o List.not_mem_nil h
local macro_rules | `(tactic| walk_at "frees") => `(tactic| first
  | assumption
  | (refine free_back (by assumption) ?_; walk_at "frees")
  | (refine free_backK (by assumption) (by walk_at "nin") ?_; walk_at "frees"))
local macro_rules | `(tactic| walk_at "mem") => `(tactic| first
  | exact List.mem_cons_self ..
  | (refine List.mem_cons_of_mem _ ?_; walk_at "mem"))
local macro_rules | `(tactic| walk_at "subf") => `(tactic| first
  | exact subf_n
  | (refine subf_c ?a ?t; (case a => first | (refine Or.inl ?_; walk_at "mem") | (refine Or.inr ?_; walk_at "frees") | fail); (case t => walk_at "subf")))
local macro_rules | `(tactic| walk_at "kpx") => `(tactic| first
  | assumption
  | exact Kp.refl _
  | (refine Kp.trans ?_ (Ex.kp (by assumption)); walk_at "kpx")
  | (refine kp_fresh ?k (by assumption) ?f; (case f => walk_at "subf"); (case k => walk_at "kpx")))
local macro_rules | `(tactic| walk_at "exx") => `(tactic| first
  | assumption
  | exact Ex.refl _
  | (refine ex_of_kp ?_; walk_at "kpx"))
theorem st_kpx {st c : Addr} {M : List Addr} {H H' : Hp} (k : Kp M H H') (n : ∀ x, x ∈ M → x ∉ [st, c]) (h : StOk st c H) : StOk st c H' := by
  obtain ⟨⟨ns, s, a, b, d⟩, e⟩ := h
  exact ⟨⟨ns, s, k.out _ _ (fun z => n _ z (by simp)) a, k.out _ _ (fun z => n _ z (by simp)) b, d⟩, e⟩
theorem alln_n {S : List Addr} : ∀ x, x ∈ ([] : List Addr) → x ∉ S := fun _ h => absurd h List.not_mem_nil
theorem alln_c {S M : List Addr} {a : Addr} (h : a ∉ S) (t : ∀ x, x ∈ M → x ∉ S) : ∀ x, x ∈ a :: M → x ∉ S := fun x hx => by
  rcases List.mem_cons.mp hx with rfl | hx
  · exact h
  · exact t x hx
local macro_rules | `(tactic| walk_at "alln") => `(tactic| first
  | assumption
  | exact alln_n
  | (refine alln_c ?a ?t; (case a => walk_at "nin"); (case t => walk_at "alln")))
local macro_rules | `(tactic| walk_at "st_ok") => `(tactic| first
  | assumption
  | (refine st_ex (by assumption) ?_; walk_at "st_ok")
  | (refine st_kpx (by assumption) ?n ?hh; (case hh => walk_at "st_ok"); (case n => walk_at "alln")))
theorem q_catN {K : PySem.W.Frag} {H : Hp} {Q : VK} {a b : Addr} {xs ys : List V} (h1 : H a = some (.lst xs)) (h2 : H b = some (.lst ys)) (z : xs.length + ys.length ≤ 100000) (q : ∀ p Hn, H p = none → Ex H Hn → Hn p = some (.lst (xs ++ ys)) → Q (.ref p) Hn) : rAddA K (.ref a) (.ref b) H Q :=
  .inr (.inr (.inl ⟨a, b, xs, ys, rfl, rfl, h1, h2, sl1000 z, fun p hp => q p _ hp (Ex.mk hp rfl) upd_same⟩))
local macro_rules | `(tactic| walk_at "own") => `(tactic| first
  | ((with_reducible refine q_catN (xs := ?xs) (ys := ?ys) ?h1 ?h2 ?z ?_); (case h1 => walk_at "lift"); (case h2 => walk_at "lift"); (case z => walk_at "len2"); walk_at "i_new"))
theorem r_par {σ : L2.St} {H : Hp} {ta : TA} {i j : Nat} {nx bk ct : L2.St → Hp → Prop} {rt : VK} (q : ta σ H fun vs H1 => ∃ v w, vs = [v, w] ∧ nx ((σ.set i (some v)).set j (some w)) H1) : tPar i j ta ⟨nx, rt, bk, ct⟩ σ H := q
theorem q_par {x y : V} {B : V → V → Prop} (q : B x y) : ∃ v w, [x, y] = [v, w] ∧ B v w := ⟨x, y, rfl, q⟩
local macro_rules | `(tactic| walk_at "own") => `(tactic| first
  | with_reducible refine r_par ?_
  | with_reducible refine q_par ?_)
local macro_rules | `(tactic| walk_at "arx") => `(tactic| first
  | omega
  | decide
  | (simp only [List.length_cons, List.length_nil, List.length_map, List.length_append]; omega))
local macro_rules | `(tactic| walk_at "kp") => `(tactic| first
  | assumption
  | exact Kp.refl _
  | (refine Kp.trans ?_ (by assumption); walk_at "kp")
  | (refine Kp.trans ?_ (Ex.kp (by assumption)); walk_at "kp"))
theorem int_mod (a : Int) {m : Int} (h : 0 < m) : 0 ≤ a % m ∧ a % m < m := ⟨Int.emod_nonneg _ (by omega), Int.emod_lt_of_pos _ h⟩
def sp_state (K : PySem.W.Frag) : Sp := fun vs H Q _ => ∃ (a : Addr) (ns : List Int), vs = [.ref a] ∧ SqL K H a (ns.map V.int) ∧ ns.length ≤ 63 ∧ ∀ st c H', Ex H H' → H st = none → H c = none → StOk st c H' → Q (.ref st) H'
theorem ex_sql {H H' : Hp} {a : Addr} {xs : List V} (e : Ex H H') (h : SqL K H a xs) : SqL K H' a xs := e.same.seq h
theorem abs_nn (i : Int) : 0 ≤ (if i < 0 then -i else i) := by split <;> omega
theorem ok_state (T : Glo K w mg) (D : Dn K mg "_law_state" s__law_state p__law_state) : Cal P w K mg base "_law_state" 1 p__law_state (sp_state K) := by
  refine D.ok sc__law_state (fun vs H Q E h => ?_) (fun f cdv A outer s H vs Q E hr h => ?_)
  · obtain ⟨_, _, rfl, _⟩ := h
    rfl
  obtain ⟨a, ns, rfl, hs, hl, q⟩ := h
  refine ⟨_, (pss_cons (ps_set (i := 1) sc__law_state.nd rfl (by first | exact Or.inl rfl | exact Or.inr rfl) pe_int) (pss_cons (ps_for PassesOwn.never rfl (pi_list (pv 0)) (pg_name (i := 2) sc__law_state.nd rfl (by first | exact Or.inl rfl | exact Or.inr rfl)) (pss_one (ps_set (i := 1) sc__law_state.nd rfl (by first | exact Or.inl rfl | exact Or.inr rfl) (pe_op op_mod (pe_callTy call_intA rfl T.n_int (by decide +kernel) (pa_cons (pe_op op_addA (pe_op op_mul (pv 1) pe_int) (pv 2)) pa_nil)) pe_int)))) (pss_one (ps_ret (pe_lst (pa_cons (pe_lc (own := [("cell", 2)]) (tt := tYes) rfl sc__law_state.nd (pi_list (pv 0)) (blkOk_by (N := ["script", "seed", "cell"]) (sc := defScope s__law_state) (by decide +kernel)) (fun _ _ _ _ _ => (pg_name (i := 2) sc__law_state.nd rfl (by first | exact Or.inl rfl | exact Or.inr rfl))) (fun _ _ _ _ _ => pts_nil) (fun _ _ _ _ _ => (pe_callB call_absA rfl T.n_abs (by decide +kernel) (pa_cons (pv 2) pa_nil)))) (pa_cons (pe_op op_addA (pv 1) pe_int) pa_nil))))))), ?_⟩
  try dsimp only [cxOf, Cx.nox]
  repeat' walk_at "st"
  refine w_list (xs := ns.map V.int) (fun i σ H' => H' = H ∧ ∃ (z : Int) (y : Option V), σ = [some (.ref a), some (.int z), y] ∧ 0 ≤ z ∧ z < 1000003) ?_ ?_ ?_ ?_
  · exact ⟨rfl, 7, none, rfl, by decide, by decide⟩
  · rintro i σ H' _ ⟨rfl, _⟩
    exact hs
  · rintro i x σ H' hx ⟨rfl, z, y, rfl, z0, z1⟩
    rw [List.getElem?_map] at hx
    obtain ⟨n, hn, rfl⟩ := Option.map_eq_some_iff.mp hx
    repeat' walk_at "st"
    refine ⟨rfl, _, some (.int n), rfl, ?_⟩
    exact int_mod _ (by decide)
  · rintro σ H' ⟨rfl, z, y, rfl, z0, z1⟩
    repeat' walk_at "st"
    intro L hL
    refine lc_list (xs := ns.map V.int) (fun i H2 => Ex H' H2 ∧ H2 L = some (.lst ((ns.take i).map fun n => V.int (if n < 0 then -n else n)))) ?_ ?_ ?_ ?_
    · exact ⟨Ex.mk hL rfl, upd_same⟩
    · rintro i H2 _ ⟨e, _⟩
      exact ex_sql e hs
    · rintro i x H2 hx ⟨e, h2⟩
      rw [List.getElem?_map] at hx
      obtain ⟨n, hn, rfl⟩ := Option.map_eq_some_iff.mp hx
      refine ⟨rfl, ?_⟩
      repeat' walk_at "st"
      refine ⟨_, h2, sl1000' ?_, ?_, ?_⟩
      · rw [List.length_map, List.length_take]
        omega
      · intro b u hb
        rw [upd_ne (ne_of_none hb hL)]
        exact e _ _ hb
      · rw [upd_same, List.take_add_one, hn, List.map_append]
        rfl
    · rintro H2 ⟨e, h2⟩
      repeat' walk_at "st"
      rw [List.take_of_length_le (by rw [List.length_map]; exact Nat.le_refl _)] at h2
      refine q p L _ (e.trans ke) (free_back e hp) hL ⟨⟨ns.map fun n => (if n < 0 then -n else n), z + 1, hn, ?_, ?_, by omega, by omega⟩, ?_⟩
      · rw [List.map_map]
        exact ke _ _ h2
      · intro n hn
        obtain ⟨m, _, rfl⟩ := List.mem_map.mp hn
        exact abs_nn m
      · exact ne_of_none h2 hp
def sp_draw : Sp := fun vs H Q _ => ∃ (st c : Addr) (many : Int), vs = [.ref st, .int many] ∧ StOk st c H ∧ 0 < many ∧ many < 1073741824 ∧ ∀ (n : Int) (H' : Hp), 0 ≤ n → n < many → Kp [st, c] H H' → StOk st c H' → Q (.int n) H'
theorem ok_draw (T : Glo K w mg) (D : Dn K mg "_law_draw" s__law_draw p__law_draw) : Cal P w K mg base "_law_draw" 1 p__law_draw sp_draw := by
  refine D.ok sc__law_draw (fun vs H Q E h => ?_) (fun f cdv A outer s H vs Q E hr h => ?_)
  · obtain ⟨_, _, _, rfl, _⟩ := h
    rfl
  obtain ⟨st, c, many, rfl, ⟨⟨ns, z, hst, hc, hn, z0, z1⟩, hne⟩, m0, m1, q⟩ := h
  refine ⟨_, (pss_cons (ps_set (i := 2) sc__law_draw.nd rfl (by first | exact Or.inl rfl | exact Or.inr rfl) (pe_ix ix_seq (pv 0) pe_int (fun _ _ => rfl))) (pss_cons (ps_while PassesOwn.never (PW.pt (pw_and (pt_cmpR op_gt (pe_callB call_lenA rfl T.n_len (by decide +kernel) (pa_cons (pv 2) pa_nil)) pe_int (nomark _)) (pw_and1 (pt_cmpR (op_eqA (hu64 hr)) (pe_ix ix_seq (pv 2) pe_int (fun _ _ => rfl)) pe_int (nomark _))))) (pss_one (ps_expr (pe_bm PySem.F.plainAttrs_list PySem.F.slot_list_pop PySem.F.type_list_pop mt_popAt (pv 2) (pa_cons pe_int pa_nil))))) (pss_cons (ps_if (pt_cmpR op_gt (pe_callB call_lenA rfl T.n_len (by decide +kernel) (pa_cons (pv 2) pa_nil)) pe_int (nomark _)) (pss_cons (ps_set (i := 4) sc__law_draw.nd rfl (by first | exact Or.inl rfl | exact Or.inr rfl) (pe_ix ix_seq (pv 2) pe_int (fun _ _ => rfl))) (pss_cons (ps_asg (pe_op op_fdiv (pv 4) (pv 1)) (pg_sub (pv 2) pe_int set_list)) (pss_one (ps_ret (pe_op op_mod (pe_callTy call_intA rfl T.n_int (by decide +kernel) (pa_cons (pv 4) pa_nil)) (pv 1)))))) pss_nil) (pss_cons (ps_set (i := 3) sc__law_draw.nd rfl (by first | exact Or.inl rfl | exact Or.inr rfl) (pe_op op_mod (pe_callTy call_intA rfl T.n_int (by decide +kernel) (pa_cons (pe_op op_addA (pe_op op_mul (pe_ix ix_seq (pv 0) pe_int (fun _ _ => rfl)) pe_int) pe_int) pa_nil)) pe_int)) (pss_cons (ps_asg (pv 3) (pg_sub (pv 0) pe_int set_list)) (pss_one (ps_ret (pe_op op_mod (pe_callTy call_intA rfl T.n_int (by decide +kernel) (pa_cons (pe_op op_fdiv (pv 3) pe_int) pa_nil)) (pv 1))))))))), ?_⟩
  try dsimp only [cxOf, Cx.nox]
  repeat' walk_at "st"
  refine w_while (fun m σ H' => ∃ ns' : List Int, m = ns'.length ∧ σ = [some (.ref st), some (.int many), some (.ref c), none, none] ∧ H' st = some (.lst [.ref c, .int z]) ∧ H' c = some (.lst (ns'.map V.int)) ∧ (∀ n ∈ ns', 0 ≤ n) ∧ Kp [st, c] H H') ns.length ⟨ns, rfl, rfl, hst, hc, hn, Kp.refl _⟩ ?_ ?_
  · rintro m σ H' ⟨ns', rfl, rfl, h1, h2, h3, h4⟩
    have mc : c ∈ [st, c] := by simp
    have mst : st ∈ [st, c] := by simp
    have ht : ∀ xs, H' st ≠ some (.tup xs) := fun xs e => by rw [h1] at e; cases e
    have hu : ∀ xs, H' c ≠ some (.tup xs) := fun xs e => by rw [h2] at e; cases e
    cases ns' with
    | nil =>
      repeat' walk_at "st"
      have hz := int_mod (z * 48271 + 12345) (m := 2147483647) (by decide)
      exact q _ Hn (int_mod _ m0).1 (int_mod _ m0).2 (h4.trans (ku.sub fun x hx => by rw [List.mem_singleton.mp hx]; exact mst)) ⟨⟨[], _, hu, ku.out _ _ (nin_c hne List.not_mem_nil) h2, h3, hz.1, Int.lt_trans hz.2 (by decide)⟩, hne⟩
    | cons n r =>
      rw [List.map_cons] at h2
      have hn0 := h3 n (List.mem_cons_self ..)
      have hr0 : ∀ n ∈ r, 0 ≤ n := fun k hk => h3 k (List.mem_cons_of_mem _ hk)
      repeat' walk_at "st"
      · exact ⟨r.length, Nat.lt_succ_self _, r, rfl, rfl, ku.out _ _ (nin_c (Ne.symm hne) List.not_mem_nil) h1, hu, hr0, h4.trans (ku.sub fun x hx => by rw [List.mem_singleton.mp hx]; exact mc)⟩
      · refine q _ Hn (int_mod _ m0).1 (int_mod _ m0).2 (h4.trans (ku.sub fun x hx => by rw [List.mem_singleton.mp hx]; exact mc)) ⟨⟨n / many :: r, z, ku.out _ _ (nin_c (Ne.symm hne) List.not_mem_nil) h1, hu, ?_, z0, z1⟩, hne⟩
        intro k hk
        rcases List.mem_cons.mp hk with rfl | hk
        · exact Int.ediv_nonneg hn0 (by omega)
        · exact hr0 _ hk
  · intro σ H Q Q' hQ h
    exact mo_and (mo_test (mo_op mo_I0 (mo_cb mo_lenA (mo_cons mo_var mo_nil)) mo_c)) (mo_test (mo_op mo_eqA (mo_op mo_ix mo_var mo_c) mo_c)) _ _ _ _ hQ h
theorem c_draw {st c : Addr} {many : Int} {H : Hp} {Q : VK} {E : XK} (h1 : StOk st c H) (h2 : 0 < many ∧ many < 1073741824) (q : ∀ (n : Int) (H' : Hp), 0 ≤ n → n < many → Kp [st, c] H H' → StOk st c H' → Q (.int n) H') :
    sp_draw [.ref st, .int many] H Q E := ⟨st, c, many, rfl, h1, h2.1, h2.2, q⟩
set_option hygiene false in
local macro_rules | `(tactic| walk_at "i_c_draw") => `(tactic| intro dn Hn n0 n1 ke so)
local macro_rules | `(tactic| walk_at "own") => `(tactic| (refine c_draw (c := ?c) ?a ?b ?_; (case a => walk_at "st_ok"); (case b => walk_at "arx2"); walk_at "i_c_draw"))
local macro_rules | `(tactic| walk_at "arx2") => `(tactic| first
  | (refine And.intro ?_ ?_ <;> omega)
  | (simp only [List.length_cons, List.length_nil, List.length_map, List.length_append]; refine And.intro ?_ ?_ <;> omega)
  | (refine And.intro ?_ ?_ <;> decide +kernel))
def sp_pick (K : PySem.W.Frag) : Sp := fun vs H Q _ => ∃ (st c a : Addr) (xs : List V), vs = [.ref st, .ref a] ∧ StOk st c H ∧ H a = some (.lst xs) ∧ a ∉ [st, c] ∧ 0 < xs.length ∧ xs.length < 1000000 ∧ ∀ (i : Nat) (v : V) (H' : Hp), xs[i]? = some v → Kp [st, c] H H' → StOk st c H' → Q v H'
theorem ok_pick (T : Glo K w mg) (D : Dn K mg "_law_pick" s__law_pick p__law_pick) (G__law_draw : Cal P w K mg base "_law_draw" 1 p__law_draw sp_draw) : Cal P w K mg base "_law_pick" 2 p__law_pick (sp_pick K) := by
  refine D.ok sc__law_pick (fun vs H Q E h => ?_) (fun f cdv A outer s H vs Q E hr h => ?_)
  · obtain ⟨_, _, _, _, rfl, _⟩ := h
    rfl
  obtain ⟨st, c, a, xs, rfl, so, ha, hn, l0, l1, q⟩ := h
  refine ⟨_, (pss_one (ps_ret (pe_ix ix_seq (pv 1) (pe_cal G__law_draw (hr.mono (by walk_at "lev")) rfl (pa_cons (pv 0) (pa_cons (pe_callB call_lenA rfl T.n_len (by decide +kernel) (pa_cons (pv 1) pa_nil)) pa_nil))) (fun _ _ => rfl)))), ?_⟩
  try dsimp only [cxOf, Cx.nox]
  repeat' walk_at "st"
  obtain ⟨v, e1, e2⟩ := at_i (n := dn) n0 n1
  exact q_ixL (sql (ke.out _ _ hn ha)) e2 (q _ v Hn e1 ke so)
theorem c_pick {st c a : Addr} {xs : List V} {H : Hp} {Q : VK} {E : XK} (h1 : StOk st c H) (h2 : H a = some (.lst xs)) (h3 : a ∉ [st, c]) (h4 : 0 < xs.length ∧ xs.length < 1000000) (q : ∀ (i : Nat) (v : V) (H' : Hp), xs[i]? = some v → Kp [st, c] H H' → StOk st c H' → Q v H') :
    sp_pick K [.ref st, .ref a] H Q E := ⟨st, c, a, xs, rfl, h1, h2, h3, h4.1, h4.2, q⟩
set_option hygiene false in
local macro_rules | `(tactic| walk_at "i_c_pick") => `(tactic| intro j v Hn ej ke so)
local macro_rules | `(tactic| walk_at "own") => `(tactic| (refine c_pick (c := ?c) (xs := ?xs) ?a ?b ?e ?d ?_; (case b => walk_at "lift"); (case a => walk_at "st_ok"); (case e => walk_at "nin"); (case d => walk_at "arx2"); walk_at "i_c_pick"))
/-! ### data whose lists are not among M -/
mutual
inductive DpM (M : List Addr) (H : Hp) : V → PyData → Prop
  | non : DpM M H .non .none
  | bl (b : Bool) : DpM M H (.bl b) (.bool b)
  | int (i : Int) : DpM M H (.int i) (.int i)
  | str (x : Str) : DpM M H (.str x) (.str x)
  | lst {a : Addr} {xs : List V} {ds : List PyData} : a ∉ M → H a = some (.lst xs) → DpMs M H xs ds → DpM M H (.ref a) (.list ds)
  | tup {a : Addr} {xs : List V} {ds : List PyData} : H a = some (.tup xs) → DpMs M H xs ds → DpM M H (.ref a) (.tuple ds)
inductive DpMs (M : List Addr) (H : Hp) : List V → List PyData → Prop
  | nil : DpMs M H [] []
  | cons {v : V} {vs : List V} {d : PyData} {ds : List PyData} : DpM M H v d → DpMs M H vs ds → DpMs M H (v :: vs) (d :: ds)
end
mutual
theorem dpm_kp {M N : List Addr} {H H' : Hp} (e : Kp N H H') (s : ∀ x, x ∈ N → x ∈ M) : ∀ {v : V} {d : PyData}, DpM M H v d → DpM M H' v d
  | _, _, .non => .non
  | _, _, .bl b => .bl b
  | _, _, .int i => .int i
  | _, _, .str x => .str x
  | _, _, .lst n h t => .lst n (e.out _ _ (fun z => n (s _ z)) h) (dpms_kp e s t)
  | _, _, .tup h t => .tup (e.tup _ _ h) (dpms_kp e s t)
theorem dpms_kp {M N : List Addr} {H H' : Hp} (e : Kp N H H') (s : ∀ x, x ∈ N → x ∈ M) : ∀ {vs : List V} {ds : List PyData}, DpMs M H vs ds → DpMs M H' vs ds
  | _, _, .nil => .nil
  | _, _, .cons h t => .cons (dpm_kp e s h) (dpms_kp e s t)
end
mutual
theorem dpm_dp {M : List Addr} {K : PySem.W.Frag} {H : Hp} : ∀ {v : V} {d : PyData}, DpM M H v d → Dp K H v d
  | _, _, .non => .non
  | _, _, .bl b => .bl b
  | _, _, .int i => .int i
  | _, _, .str x => .str x
  | _, _, .lst n h t => .lst (sql h) (dpms_dp t)
  | _, _, .tup h t => .tup (sqt h) (dpms_dp t)
theorem dpms_dp {M : List Addr} {K : PySem.W.Frag} {H : Hp} : ∀ {vs : List V} {ds : List PyData}, DpMs M H vs ds → DpAll K H vs ds
  | _, _, .nil => .nil
  | _, _, .cons h t => .cons (dpm_dp h) (dpms_dp t)
end
theorem dpms_app {M : List Addr} {H : Hp} : ∀ {vs ws : List V} {ds es : List PyData}, DpMs M H vs ds → DpMs M H ws es → DpMs M H (vs ++ ws) (ds ++ es)
  | _, _, _, _, .nil, h => h
  | _, _, _, _, .cons a t, h => .cons a (dpms_app t h)
theorem dpms_one {M : List Addr} {H : Hp} {v : V} {d : PyData} (h : DpM M H v d) : DpMs M H [v] [d] := .cons h .nil
theorem dpms_ints {M : List Addr} {H : Hp} : ∀ ns : List Int, DpMs M H (ns.map V.int) (fInts ns)
  | [] => .nil
  | n :: r => .cons (.int n) (dpms_ints r)
theorem dpms_len {M : List Addr} {H : Hp} : ∀ {vs : List V} {ds : List PyData}, DpMs M H vs ds → vs.length = ds.length
  | _, _, .nil => rfl
  | _, _, .cons _ t => by rw [List.length_cons, List.length_cons, dpms_len t]
/-- what M holds stands -/
def Mo (M : List Addr) (H : Hp) : Prop := ∀ x, x ∈ M → H x ≠ none
theorem Mo.new {M : List Addr} {H : Hp} {p : Addr} (m : Mo M H) (h : H p = none) : p ∉ M := fun z => m p z h
theorem ex_dom {H H' : Hp} (e : Ex H H') {x : Addr} (h : H x ≠ none) : H' x ≠ none := fun z => by
  cases h1 : H x with
  | none => exact h h1
  | some o => rw [e _ _ h1] at z; cases z
theorem mo_ex {M : List Addr} {H H' : Hp} (e : Ex H H') (m : Mo M H) : Mo M H' := fun x hx => ex_dom e (m x hx)
/-- one object changed, the others stay -/
theorem kp_dom {N : List Addr} {H H' : Hp} (e : Kp N H H') (n : ∀ x, x ∈ N → H' x ≠ none) {x : Addr} (h : H x ≠ none) : H' x ≠ none := fun z => by
  by_cases hx : x ∈ N
  · exact n x hx z
  · cases h1 : H x with
    | none => exact h h1
    | some o => rw [e.out _ _ hx h1] at z; cases z
theorem mo_kp {M N : List Addr} {H H' : Hp} (e : Kp N H H') (n : ∀ x, x ∈ N → H' x ≠ none) (m : Mo M H) : Mo M H' := fun x hx => kp_dom e n (m x hx)
theorem kp_new {p : Addr} {H H' : Hp} (e : Kp [p] H H') : ∀ {H0 : Hp}, Ex H0 H → H0 p = none → Ex H0 H' := fun k hp a o h => e.out a o (by
  intro z
  rw [List.mem_singleton.mp z, hp] at h
  cases h) (k a o h)
mutual
theorem dpm_sub {M N : List Addr} {H : Hp} (s : ∀ x, x ∈ N → x ∈ M) : ∀ {v : V} {d : PyData}, DpM M H v d → DpM N H v d
  | _, _, .non => .non
  | _, _, .bl b => .bl b
  | _, _, .int i => .int i
  | _, _, .str x => .str x
  | _, _, .lst n h t => .lst (fun z => n (s _ z)) h (dpms_sub s t)
  | _, _, .tup h t => .tup h (dpms_sub s t)
theorem dpms_sub {M N : List Addr} {H : Hp} (s : ∀ x, x ∈ N → x ∈ M) : ∀ {vs : List V} {ds : List PyData}, DpMs M H vs ds → DpMs N H vs ds
  | _, _, .nil => .nil
  | _, _, .cons h t => .cons (dpm_sub s h) (dpms_sub s t)
end
theorem dpm_ex {M : List Addr} {H H' : Hp} (e : Ex H H') {v : V} {d : PyData} (h : DpM M H v d) : DpM M H' v d := dpm_kp (N := []) e.kp (fun _ z => absurd z List.not_mem_nil) h
theorem dpms_ex {M : List Addr} {H H' : Hp} (e : Ex H H') {vs : List V} {ds : List PyData} (h : DpMs M H vs ds) : DpMs M H' vs ds := dpms_kp (N := []) e.kp (fun _ z => absurd z List.not_mem_nil) h
theorem sub_hd {D : Addr} {M : List Addr} : ∀ x, x ∈ [D] → x ∈ D :: M := fun x h => by rw [List.mem_singleton.mp h]; exact List.mem_cons_self ..
theorem sub_tl {D : Addr} {M : List Addr} : ∀ x, x ∈ M → x ∈ D :: M := fun x h => List.mem_cons_of_mem _ h
theorem sub_mem {D : Addr} {M : List Addr} (m : D ∈ M) : ∀ x, x ∈ [D] → x ∈ M := fun x h => by rw [List.mem_singleton.mp h]; exact m
theorem mo_add {D : Addr} {M : List Addr} {H : Hp} (h : H D ≠ none) (m : Mo M H) : Mo (D :: M) H := fun x hx => by
  rcases List.mem_cons.mp hx with rfl | hx
  · exact h
  · exact m x hx
theorem mo_kp1 {p : Addr} {M : List Addr} {H H' : Hp} {o : HO} (e : Kp [p] H H') (h : H' p = some o) (m : Mo M H) : Mo M H' := mo_kp e (fun x hx => by rw [List.mem_singleton.mp hx]; exact fsome h) m
mutual
theorem dpm_add {M : List Addr} {H : Hp} {p : Addr} (n : H p = none) : ∀ {v : V} {d : PyData}, DpM M H v d → DpM (p :: M) H v d
  | _, _, .non => .non
  | _, _, .bl b => .bl b
  | _, _, .int i => .int i
  | _, _, .str x => .str x
  | _, _, .lst m h t => .lst (nin_c (ne_of_none h n) m) h (dpms_add n t)
  | _, _, .tup h t => .tup h (dpms_add n t)
theorem dpms_add {M : List Addr} {H : Hp} {p : Addr} (n : H p = none) : ∀ {vs : List V} {ds : List PyData}, DpMs M H vs ds → DpMs (p :: M) H vs ds
  | _, _, .nil => .nil
  | _, _, .cons h t => .cons (dpm_add n h) (dpms_add n t)
end
theorem dpms_at {M : List Addr} {H : Hp} : ∀ {vs : List V} {ds : List PyData} {i : Nat} {v : V}, DpMs M H vs ds → vs[i]? = some v → ∃ d, ds[i]? = some d ∧ DpM M H v d
  | _, _, _, _, .nil, h => by simp at h
  | _, _, 0, _, .cons a t, h => by
    simp at h
    subst h
    exact ⟨_, rfl, a⟩
  | _, _, i + 1, _, .cons a t, h => by
    obtain ⟨d, h1, h2⟩ := dpms_at (i := i) t (by simpa using h)
    exact ⟨d, by simpa using h1, h2⟩
theorem dpm_int {M : List Addr} {H : Hp} {v : V} {i : Int} (h : DpM M H v (.int i)) : v = .int i := by cases h; rfl
theorem dpm_str {M : List Addr} {H : Hp} {v : V} {i : Str} (h : DpM M H v (.str i)) : v = .str i := by cases h; rfl
theorem dpm_tup {M : List Addr} {H : Hp} {v : V} {ds : List PyData} (h : DpM M H v (.tuple ds)) : ∃ a xs, v = .ref a ∧ H a = some (.tup xs) ∧ DpMs M H xs ds := by
  cases h with
  | tup h t => exact ⟨_, _, rfl, h, t⟩
theorem dpm_lst {M : List Addr} {H : Hp} {v : V} {ds : List PyData} (h : DpM M H v (.list ds)) : ∃ a xs, v = .ref a ∧ a ∉ M ∧ H a = some (.lst xs) ∧ DpMs M H xs ds := by
  cases h with
  | lst n h t => exact ⟨_, _, rfl, n, h, t⟩
theorem dpms_cons {M : List Addr} {H : Hp} {vs : List V} {d : PyData} {ds : List PyData} (h : DpMs M H vs (d :: ds)) : ∃ v ws, vs = v :: ws ∧ DpM M H v d ∧ DpMs M H ws ds := by
  cases h with
  | cons a t => exact ⟨_, _, rfl, a, t⟩
theorem dpms_nil {M : List Addr} {H : Hp} {vs : List V} (h : DpMs M H vs []) : vs = [] := by cases h; rfl
theorem dpms_intsV {M : List Addr} {H : Hp} : ∀ {vs : List V} {ns : List Int}, DpMs M H vs (fInts ns) → vs = ns.map V.int
  | _, [], .nil => rfl
  | _, n :: r, .cons h t => by
    cases h
    rw [dpms_intsV t, List.map_cons]
/-! ### tags: who is who among the addresses -/
def Al (H H' : Hp) : Prop := ∀ x, H x ≠ none → H' x ≠ none
theorem al_ex {H H' : Hp} (e : Ex H H') : Al H H' := fun x h z => by
  cases h1 : H x with
  | none => exact h h1
  | some o => rw [e _ _ h1] at z; cases z
theorem al_kp {M : List Addr} {H H' : Hp} (k : Kp M H H') (m : ∀ x, x ∈ M → H' x ≠ none) : Al H H' := fun x h z => by
  by_cases hx : x ∈ M
  · exact m x hx z
  · cases h1 : H x with
    | none => exact h h1
    | some o => rw [k.out _ _ hx h1] at z; cases z
theorem Al.trans {H H1 H2 : Hp} (a : Al H H1) (b : Al H1 H2) : Al H H2 := fun x h => b x (a x h)
theorem al_st {st c : Addr} {H H' : Hp} (k : Kp [st, c] H H') (s : StOk st c H') : Al H H' := al_kp k fun x hx => by
  obtain ⟨⟨ns, z, a, b, d⟩, e⟩ := s
  simp only [List.mem_cons, List.not_mem_nil, or_false] at hx
  rcases hx with rfl | rfl
  · exact fsome a
  · exact fsome b
abbrev Tau := Addr → Option (Nat × Nat)
def TgOk (τ : Tau) (H : Hp) : Prop := ∀ x t, τ x = some t → H x ≠ none
def TgLe (τ τ' : Tau) : Prop := ∀ x t, τ x = some t → τ' x = some t
theorem TgLe.refl (τ : Tau) : TgLe τ τ := fun _ _ h => h
theorem TgLe.trans {τ τ1 τ2 : Tau} (a : TgLe τ τ1) (b : TgLe τ1 τ2) : TgLe τ τ2 := fun x t h => b x t (a x t h)
theorem TgOk.al {τ : Tau} {H H' : Hp} (k : TgOk τ H) (a : Al H H') : TgOk τ H' := fun x t h => a x (k x t h)
theorem TgOk.nil {H : Hp} : TgOk (fun _ => none) H := fun x t h => by cases h
theorem tg_new {τ : Tau} {H H' : Hp} (k : TgOk τ H) (a : Al H H') {p : Addr} (n : H p = none) (s : H' p ≠ none) (t : Nat × Nat) : ∃ τ', TgLe τ τ' ∧ τ' p = some t ∧ TgOk τ' H' := by
  refine ⟨fun x => if x = p then some t else τ x, fun x u h => ?_, if_pos rfl, fun x u h => ?_⟩
  · have : x ≠ p := fun z => k x u h (by rw [z]; exact n)
    show (if x = p then some t else τ x) = some u
    rw [if_neg this]
    exact h
  · by_cases z : x = p
    · rw [z]; exact s
    · have h' : (if x = p then some t else τ x) = some u := h
      rw [if_neg z] at h'
      exact a x (k x u h')
theorem ne_tg {τ : Tau} {a b : Addr} {s t : Nat × Nat} (h : τ a = some s) (h' : τ b = some t) (n : s ≠ t) : a ≠ b := fun z => by
  rw [z, h'] at h
  exact n (Option.some.inj h).symm
/-- a family with one more -/
def fset (a : Nat → Addr) (i : Nat) (p : Addr) : Nat → Addr := fun k => if k = i then p else a k
theorem fset_eq {a : Nat → Addr} {i : Nat} {p : Addr} : fset a i p i = p := if_pos rfl
theorem fset_lt {a : Nat → Addr} {i k : Nat} {p : Addr} (h : k < i) : fset a i p k = a k := if_neg (by omega)
def frow (a : Nat → Addr) (n : Nat) : List V := (List.range n).map fun k => V.ref (a k)
theorem frow_len {a : Nat → Addr} {n : Nat} : (frow a n).length = n := by unfold frow; rw [List.length_map, List.length_range]
theorem frow_at {a : Nat → Addr} {n k : Nat} (h : k < n) : (frow a n)[k]? = some (.ref (a k)) := by
  unfold frow
  rw [List.getElem?_map, List.getElem?_range h]
  rfl
theorem frow_set {a : Nat → Addr} {i : Nat} {p : Addr} : frow (fset a i p) (i + 1) = frow a i ++ [.ref p] := by
  unfold frow
  rw [List.range_succ, List.map_append]
  congr 1
  · refine List.map_congr_left fun k hk => ?_
    rw [fset_lt (List.mem_range.mp hk)]
  · show [V.ref (fset a i p i)] = _
    rw [fset_eq]
theorem tg_fam {τ τ' : Tau} {f i : Nat} {a : Nat → Addr} {p : Addr} (le : TgLe τ τ') (h : ∀ k, k < i → τ (a k) = some (f, k)) (n : τ' p = some (f, i)) : ∀ k, k < i + 1 → τ' (fset a i p k) = some (f, k) := fun k hk => by
  by_cases c : k < i
  · rw [fset_lt c]; exact le _ _ (h k c)
  · have : k = i := by omega
    subst this
    rw [fset_eq]; exact n
theorem fam_step {P : Nat → Addr → Prop} {i : Nat} {a : Nat → Addr} {p : Addr} (h : ∀ k, k < i → P k (a k)) (n : P i p) : ∀ k, k < i + 1 → P k (fset a i p k) := fun k hk => by
  by_cases c : k < i
  · rw [fset_lt c]; exact h k c
  · have : k = i := by omega
    subst this
    rw [fset_eq]; exact n
theorem kp_upd {H H9 : Hp} {p : Addr} {xs : List V} {o' : HO} (h : H p = some (.lst xs)) (e : upd H p o' = H9) : Kp [p] H H9 := by
  rw [← e]
  exact kp_one h (by intro _ z; cases z)
local macro_rules | `(tactic| walk_at "ne1") => `(tactic| first
  | (refine ne_tg (τ := ?τ) (s := ?s) (t := ?t) ?a ?b ?n; (case a => assumption); (case b => assumption); (case n => intro z; have z1 := Prod.mk.inj z; omega))
  | fail)
theorem tg0 {st c L : Addr} {H : Hp} (so : StOk st c H) (nL : L ∉ [st, c]) (h : H L ≠ none) : ∃ τ : Tau, τ st = some (7, 0) ∧ τ c = some (7, 1) ∧ τ L = some (8, 0) ∧ TgOk τ H := by
  obtain ⟨⟨ns, z, a, b, d⟩, e⟩ := so
  have h1 : L ≠ st := fun z => nL (by simp [z])
  have h2 : L ≠ c := fun z => nL (by simp [z])
  refine ⟨fun x => if x = st then some (7, 0) else if x = c then some (7, 1) else if x = L then some (8, 0) else none, if_pos rfl, ?_, ?_, fun x t hx => ?_⟩
  · show (if c = st then _ else _) = _
    rw [if_neg e, if_pos rfl]
  · show (if L = st then _ else _) = _
    rw [if_neg h1, if_neg h2, if_pos rfl]
  · have hx' : (if x = st then some (7, 0) else if x = c then some (7, 1) else if x = L then some (8, 0) else none) = some t := hx
    by_cases q1 : x = st
    · rw [q1]; exact fsome a
    · rw [if_neg q1] at hx'
      by_cases q2 : x = c
      · rw [q2]; exact fsome b
      · rw [if_neg q2] at hx'
        by_cases q3 : x = L
        · rw [q3]; exact h
        · rw [if_neg q3] at hx'; cases hx'
/-- a dict by channels -/
def krow (a : Nat → Addr) (n : Nat) : List (Key × V) := (List.range n).map fun (k : Nat) => (Sum.inl (k : Int), V.ref (a k))
theorem krow_find {a : Nat → Addr} {k : Nat} : ∀ n, valV (krow a n) (Sum.inl (k : Int)) = if k < n then some (.ref (a k)) else none
  | 0 => by rw [if_neg (Nat.not_lt_zero k)]; simp [krow, valV]
  | n + 1 => by
    have ih := krow_find (a := a) (k := k) n
    unfold valV krow at ih ⊢
    rw [List.range_succ, List.map_append, List.find?_append]
    by_cases c : k < n
    · rw [if_pos c] at ih
      rw [if_pos (by omega)]
      obtain ⟨x, hx, hv⟩ := Option.map_eq_some_iff.mp ih
      rw [hx]
      exact congrArg some hv
    · rw [if_neg c] at ih
      rw [Option.map_eq_none_iff.mp ih]
      by_cases d : k = n
      · subst d
        rw [if_pos (by omega)]
        simp
      · rw [if_neg (by omega)]
        have : ¬ (n : Int) = (k : Int) := by omega
        simp [this]
theorem krow_put {a : Nat → Addr} {i : Nat} {p : Addr} : putK (krow a i) (Sum.inl ((0 : Int) + (i : Int))) (.ref p) = krow (fset a i p) (i + 1) := by
  rw [Int.zero_add, putK_new _ (by rw [krow_find, if_neg (Nat.lt_irrefl i)])]
  unfold krow
  rw [List.range_succ, List.map_append]
  congr 1
  · refine List.map_congr_left fun k hk => ?_
    rw [fset_lt (List.mem_range.mp hk)]
  · show [_] = [(Sum.inl (i : Int), V.ref (fset a i p i))]
    rw [fset_eq]
theorem krow_len {a : Nat → Addr} {n : Nat} : (krow a n).length = n := by unfold krow; rw [List.length_map, List.length_range]
theorem frow_atI {a : Nat → Addr} {n k : Nat} (h : k < n) : atI (frow a n) ((0 : Int) + (k : Int)) = some (.ref (a k)) := by
  rw [Int.zero_add]
  exact atI_nat (frow_at h)
theorem atI_0 {α : Type} {xs : List α} {k : Nat} {x : α} (h : xs[k]? = some x) : atI xs ((0 : Int) + (k : Int)) = some x := by
  rw [Int.zero_add]
  exact atI_nat h
theorem TgOk.none {τ : Tau} {H : Hp} (k : TgOk τ H) {p : Addr} (n : H p = none) : τ p = none := by
  cases h : τ p with
  | none => rfl
  | some t => exact absurd n (k p t h)
theorem tg_add {τ : Tau} {H' : Hp} (k : TgOk τ H') {p : Addr} (n : τ p = none) (s : H' p ≠ none) (t : Nat × Nat) : ∃ τ', TgLe τ τ' ∧ τ' p = some t ∧ TgOk τ' H' ∧ ∀ x, x ≠ p → τ x = none → τ' x = none := by
  refine ⟨fun x => if x = p then some t else τ x, fun x u h => ?_, if_pos rfl, fun x u h => ?_, fun x hx h => ?_⟩
  · have : x ≠ p := fun z => by rw [z, n] at h; cases h
    show (if x = p then some t else τ x) = some u
    rw [if_neg this]
    exact h
  · by_cases z : x = p
    · rw [z]; exact s
    · have h' : (if x = p then some t else τ x) = some u := h
      rw [if_neg z] at h'
      exact k x u h'
  · show (if x = p then some t else τ x) = none
    rw [if_neg hx]
    exact h
/-- a family of new lists that a comprehension makes -/
def FamG (τ1 : Tau) (f : Nat) (H3 : Hp) (D : Addr) (g : Nat → List V) (i : Nat) (H' : Hp) : Prop := ∃ (τ : Tau) (a : Nat → Addr), TgLe τ1 τ ∧ TgOk τ H' ∧ (∀ k, k < i → τ (a k) = some (f, k)) ∧ Ex H3 H' ∧ H' D = some (.lst (frow a i)) ∧ ∀ k, k < i → H' (a k) = some (.lst (g k))
theorem FamG.zero {τ1 : Tau} {f d : Nat} {H3 : Hp} {D : Addr} {g : Nat → List V} (tg : TgOk τ1 H3) (hD : H3 D = none) : ∃ τ2, TgLe τ1 τ2 ∧ τ2 D = some (8, d) ∧ FamG τ2 f H3 D g 0 (upd H3 D (.lst [])) := by
  obtain ⟨τ2, le2, t2, tg2⟩ := tg_new tg (al_ex (Ex.mk (o := .lst []) hD rfl)) hD (fsome upd_same) (8, d)
  exact ⟨τ2, le2, t2, τ2, fun _ => 0, TgLe.refl _, tg2, fun k hk => absurd hk (Nat.not_lt_zero k), Ex.mk hD rfl, upd_same, fun k hk => absurd hk (Nat.not_lt_zero k)⟩
theorem FamG.step {τ1 : Tau} {f d i : Nat} {H3 H4 H5 : Hp} {D p : Addr} {g : Nat → List V} (hD : H3 D = none) (tD : τ1 D = some (8, d)) (nf : f ≠ 8) (h : FamG τ1 f H3 D g i H4) (e : Ex H4 H5) (np : H4 p = none) (hp : H5 p = some (.lst (g i))) (li : i ≤ 1000) :
    ∃ acc, H5 D = some (.lst acc) ∧ acc.length < sizeLine ∧ FamG τ1 f H3 D g (i + 1) (upd H5 D (.lst (acc ++ [.ref p]))) := by
  obtain ⟨τ, a, le, tg, ta, k3, hD4, hg⟩ := h
  have hD5 := e _ _ hD4
  refine ⟨_, hD5, sl1000' (by rw [frow_len]; omega), ?_⟩
  generalize hq : upd H5 D _ = H9
  have k9 := kp_upd hD5 hq
  have h9 := at_new hq
  have npD : p ≠ D := (ne_of_none hD4 np).symm
  have a9 : Al H4 H9 := (al_ex e).trans (al_kp k9 fun x hx => by rw [List.mem_singleton.mp hx]; exact fsome h9)
  have hp9 : H9 p = some (.lst (g i)) := k9.out _ _ (nin_c npD List.not_mem_nil) hp
  obtain ⟨τ', le', tp', tg'⟩ := tg_new tg a9 np (fsome hp9) (f, i)
  refine ⟨τ', fset a i p, le.trans le', tg', tg_fam le' ta tp', ?_, by rw [h9, frow_set], fam_step (P := fun k x => H9 x = some (.lst (g k))) (fun k hk => ?_) hp9⟩
  · exact fun b u hb => k9.out _ _ (nin_c (ne_of_none hb hD) List.not_mem_nil) (e _ _ (k3 _ _ hb))
  · refine k9.out _ _ (nin_c (ne_tg (ta k hk) (le _ _ tD) (fun z => nf (Prod.mk.inj z).1)) List.not_mem_nil) (e _ _ (hg k hk))
abbrev s_copied : Stmt := topS 1
theorem sc_copied : FnScope ["part", "inner", "key"] ["part"] (defScope s_copied) := ⟨rfl, rfl, rfl, by decide +kernel, rfl, by decide +kernel, by decide +kernel⟩
abbrev p_copied : List Str := ["part"]
/-! ### copies -/
/-! no list or tuple in it is long -/
mutual
def smD : PyData → Bool
  | .list ds => decide (ds.length ≤ 1000) && smDs ds
  | .tuple ds => decide (ds.length ≤ 1000) && smDs ds
  | _ => true
def smDs : List PyData → Bool
  | [] => true
  | d :: r => smD d && smDs r
end
theorem dpm_free {M : List Addr} {H : Hp} {v : V} {d : PyData} (h : DpM M H v d) : DpM [] H v d := dpm_sub (fun x hx => absurd hx List.not_mem_nil) h
def rTupA (K : PySem.W.Frag) : List V → Hp → VK → Prop := fun xs H Q => ∃ p ys, xs = [.ref p] ∧ ((SqL K H p ys ∧ ∀ l, H l = none → Q (.ref l) (upd H l (.tup ys))) ∨ (SqT K H p ys ∧ Q (.ref p) H))
theorem call_tupA {X : Cx} : CallR X (.type "tuple") (rTupA X.K) := call_tuple_of
theorem q_tupA {K : PySem.W.Frag} {H : Hp} {Q : VK} {p : Addr} {ys : List V} (h : SqL K H p ys) (q : ∀ l Hn, H l = none → Ex H Hn → Hn l = some (.tup ys) → Q (.ref l) Hn) : rTupA K [.ref p] H Q := ⟨p, ys, rfl, .inl ⟨h, fun l hl => q l _ hl (Ex.mk hl rfl) upd_same⟩⟩
def sp_copied (n : Nat) : Sp := fun vs H Q _ => ∃ (v : V) (d : PyData) (M : List Addr), vs = [v] ∧ DpM [] H v d ∧ d.depth < n ∧ smD d = true ∧ Mo M H ∧ ∀ H' v', Ex H H' → DpM M H' v' d → Q v' H'
theorem c_copied {n : Nat} {v : V} {d : PyData} {H : Hp} {Q : VK} {E : XK} (M : List Addr) (h1 : DpM [] H v d) (h2 : d.depth < n) (h3 : smD d = true) (h4 : Mo M H) (q : ∀ H' v', Ex H H' → DpM M H' v' d → Q v' H') : sp_copied n [v] H Q E := ⟨v, d, M, rfl, h1, h2, h3, h4, q⟩
theorem depth_at {ds : List PyData} {i : Nat} {d : PyData} (h : ds[i]? = some d) : d.depth ≤ PyData.depthAll ds := by
  induction ds generalizing i with
  | nil => simp at h
  | cons x r ih =>
    simp only [PyData.depthAll]
    cases i with
    | zero =>
      simp at h
      subst h
      exact Nat.le_max_left _ _
    | succ i =>
      have := ih (i := i) (by simpa using h)
      exact Nat.le_trans this (Nat.le_max_right _ _)
theorem sm_at {ds : List PyData} {i : Nat} {d : PyData} (h : ds[i]? = some d) (l : smDs ds = true) : smD d = true := by
  induction ds generalizing i with
  | nil => simp at h
  | cons x r ih =>
    simp only [smDs, Bool.and_eq_true] at l
    cases i with
    | zero =>
      simp at h
      subst h
      exact l.1
    | succ i => exact ih (i := i) (by simpa using h) l.2
theorem q_isiV {K : PySem.W.Frag} {H : Hp} {Q : VK} {x : V} {t : Value} {T : String} (ty : TyOf K H x t) (e : PySem.W.kitOne K t (.type T) = some false) (q : Q (.bl false) H) : rIsi K [x, .ty T] H Q := q_isi ty e q
theorem pi_lt {X : Cx} {tg l : Expr} {tl : TE} (hl : PE X l tl) : PI X tg l (fun σ H R => iList X.K tl σ H R ∨ iTup X.K tl σ H R) := ⟨fun pins s σ H R I h => h.elim (fun h => (pi_list hl).run pins s σ H R I h) (fun h => (pi_tup hl).run pins s σ H R I h)⟩
theorem kp_updC {H H9 : Hp} {p : Addr} {xs : List V} {o' : HO} (h : H p = some (.lst xs)) (e : upd H p o' = H9) : Kp [p] H H9 := by
  rw [← e]
  exact kp_one h (by intro _ z; cases z)
theorem ok_copied (T : Glo K w mg) {n : Nat} (D : Dn K mg "copied" s_copied p_copied) (G_copied : Cal P w K mg base "copied" (n + 1) p_copied (sp_copied n)) : Cal P w K mg base "copied" (n + 2) p_copied (sp_copied (n + 1)) := by
  refine D.ok sc_copied (fun vs H Q E h => ?_) (fun f cdv A outer s H vs Q E hr h => ?_)
  · obtain ⟨_, _, _, rfl, _⟩ := h
    rfl
  obtain ⟨v, d, M, rfl, dv, hd, hl, mo, q⟩ := h
  refine ⟨_, (pss_cons (ps_if (pt_val (pe_callB call_isi rfl T.n_isinstance (by decide +kernel) (pa_cons (pv 0) (pa_cons (pe_ty (n := "list") rfl T.n_list (by decide +kernel)) pa_nil)))) (pss_one (ps_ret (pe_lc (own := [("inner", 1)]) (tt := tYes) rfl sc_copied.nd (pi_lt (pv 0)) (blkOk_by (N := ["part", "inner", "key"]) (sc := defScope s_copied) (by decide +kernel)) (fun _ _ _ _ _ => (pg_name (i := 1) sc_copied.nd rfl (by first | exact Or.inl rfl | exact Or.inr rfl))) (fun _ _ _ _ _ => pts_nil) (fun _ _ _ _ _ => (pe_cal G_copied (hr.mono (by walk_at "lev")) rfl (pa_cons (pv 1) pa_nil)))))) pss_nil) (pss_cons (ps_if (pt_val (pe_callB call_isi rfl T.n_isinstance (by decide +kernel) (pa_cons (pv 0) (pa_cons (pe_ty (n := "tuple") rfl T.n_tuple (by decide +kernel)) pa_nil)))) (pss_one (ps_ret (pe_callTy call_tupA rfl T.n_tuple (by decide +kernel) (pa_cons (pe_lc (own := [("inner", 1)]) (tt := tYes) rfl sc_copied.nd (pi_lt (pv 0)) (blkOk_by (N := ["part", "inner", "key"]) (sc := defScope s_copied) (by decide +kernel)) (fun _ _ _ _ _ => (pg_name (i := 1) sc_copied.nd rfl (by first | exact Or.inl rfl | exact Or.inr rfl))) (fun _ _ _ _ _ => pts_nil) (fun _ _ _ _ _ => (pe_cal G_copied (hr.mono (by walk_at "lev")) rfl (pa_cons (pv 1) pa_nil)))) pa_nil)))) pss_nil) (pss_cons (ps_if (pt_val (pe_callB call_isi rfl T.n_isinstance (by decide +kernel) (pa_cons (pv 0) (pa_cons (pe_ty (n := "dict") rfl T.n_dict (by decide +kernel)) pa_nil)))) (pss_one ps_never) pss_nil) (pss_one (ps_ret (pv 0)))))), ?_⟩
  try dsimp only [cxOf, Cx.nox]
  cases dv with
  | non =>
    repeat' walk_at "st"
    refine q_isiV .non (kit_ty (r := false) (by decide +kernel)) ?_
    repeat' walk_at "st"
    refine q_isiV .non (kit_ty (r := false) (by decide +kernel)) ?_
    repeat' walk_at "st"
    refine q_isiV .non (kit_ty (r := false) (by decide +kernel)) ?_
    repeat' walk_at "st"
    exact q _ _ (Ex.refl _) .non
  | bl b =>
    repeat' walk_at "st"
    refine q_isiV (.bl b) (kit_ty (r := false) (by decide +kernel)) ?_
    repeat' walk_at "st"
    refine q_isiV (.bl b) (kit_ty (r := false) (by decide +kernel)) ?_
    repeat' walk_at "st"
    refine q_isiV (.bl b) (kit_ty (r := false) (by decide +kernel)) ?_
    repeat' walk_at "st"
    exact q _ _ (Ex.refl _) (.bl b)
  | int i =>
    repeat' walk_at "st"
    refine q_isiV (.int i) (kit_ty (r := false) (by decide +kernel)) ?_
    repeat' walk_at "st"
    refine q_isiV (.int i) (kit_ty (r := false) (by decide +kernel)) ?_
    repeat' walk_at "st"
    refine q_isiV (.int i) (kit_ty (r := false) (by decide +kernel)) ?_
    repeat' walk_at "st"
    exact q _ _ (Ex.refl _) (.int i)
  | str x =>
    repeat' walk_at "st"
    refine q_isiV (.str x) (kit_ty (r := false) (by decide +kernel)) ?_
    repeat' walk_at "st"
    refine q_isiV (.str x) (kit_ty (r := false) (by decide +kernel)) ?_
    repeat' walk_at "st"
    refine q_isiV (.str x) (kit_ty (r := false) (by decide +kernel)) ?_
    repeat' walk_at "st"
    exact q _ _ (Ex.refl _) (.str x)
  | @lst a xs ds nm ha dxs =>
    repeat' walk_at "st"
    refine .inl ?_
    repeat' walk_at "st"
    intro L hL
    have nL : L ∉ M := mo.new hL
    simp only [PyData.depth] at hd
    simp only [smD, Bool.and_eq_true, decide_eq_true_eq] at hl
    refine lc_list (xs := xs) (fun i H' => Ex H H' ∧ ∃ ws, H' L = some (.lst ws) ∧ DpMs (L :: M) H' ws (ds.take i)) ?_ ?_ ?_ ?_
    · exact ⟨Ex.mk hL rfl, [], upd_same, by rw [List.take_zero]; exact .nil⟩
    · rintro i H' _ ⟨e1, _⟩
      exact sql (e1 _ _ ha)
    · rintro i x H' hx ⟨e1, ws, h1, d1⟩
      obtain ⟨d, hdi, dx⟩ := dpms_at dxs hx
      have li := (List.getElem?_eq_some_iff.mp hdi).1
      have lw := dpms_len d1
      rw [List.length_take] at lw
      refine ⟨rfl, ?_⟩
      repeat' walk_at "st"
      refine c_copied (L :: M) (dpm_ex e1 dx) (by have := depth_at hdi; omega) (sm_at hdi hl.2) (mo_add (fsome h1) (mo_ex e1 mo)) (fun H2 v2 e2 d2 => ?_)
      have h2 := e2 _ _ h1
      refine ⟨ws, h2, sl1000' (by have := hl.1; omega), ?_⟩
      generalize hq : upd H2 L _ = H9
      have k9 := kp_updC h2 hq
      have h9 := at_new hq
      refine ⟨by walk_at "exx", _, h9, ?_⟩
      rw [List.take_add_one, hdi]
      exact dpms_kp k9 sub_hd (dpms_app (dpms_ex e2 d1) (dpms_one d2))
    · rintro H' ⟨e1, ws, h1, d1⟩
      rw [dpms_len dxs, List.take_length] at d1
      repeat' walk_at "st"
      exact q _ _ e1 (.lst nL h1 (dpms_sub sub_tl d1))
  | @tup a xs ds ha dxs =>
    repeat' walk_at "st"
    refine .inr ?_
    repeat' walk_at "st"
    intro L hL
    have nL : L ∉ M := mo.new hL
    simp only [PyData.depth] at hd
    simp only [smD, Bool.and_eq_true, decide_eq_true_eq] at hl
    refine lc_tup (xs := xs) (fun i H' => Ex H H' ∧ ∃ ws, H' L = some (.lst ws) ∧ DpMs (L :: M) H' ws (ds.take i)) ?_ ?_ ?_ ?_
    · exact ⟨Ex.mk hL rfl, [], upd_same, by rw [List.take_zero]; exact .nil⟩
    · rintro i H' _ ⟨e1, _⟩
      exact sqt (e1 _ _ ha)
    · rintro i x H' hx ⟨e1, ws, h1, d1⟩
      obtain ⟨d, hdi, dx⟩ := dpms_at dxs hx
      have li := (List.getElem?_eq_some_iff.mp hdi).1
      have lw := dpms_len d1
      rw [List.length_take] at lw
      refine ⟨rfl, ?_⟩
      repeat' walk_at "st"
      refine c_copied (L :: M) (dpm_ex e1 dx) (by have := depth_at hdi; omega) (sm_at hdi hl.2) (mo_add (fsome h1) (mo_ex e1 mo)) (fun H2 v2 e2 d2 => ?_)
      have h2 := e2 _ _ h1
      refine ⟨ws, h2, sl1000' (by have := hl.1; omega), ?_⟩
      generalize hq : upd H2 L _ = H9
      have k9 := kp_updC h2 hq
      have h9 := at_new hq
      refine ⟨by walk_at "exx", _, h9, ?_⟩
      rw [List.take_add_one, hdi]
      exact dpms_kp k9 sub_hd (dpms_app (dpms_ex e2 d1) (dpms_one d2))
    · rintro H' ⟨e1, ws, h1, d1⟩
      rw [dpms_len dxs, List.take_length] at d1
      repeat' walk_at "st"
      refine q_tupA (sql h1) (fun l H2 hl2 e2 h2 => ?_)
      exact q _ _ (e1.trans e2) (.tup h2 (dpms_ex e2 (dpms_sub sub_tl d1)))
theorem copied_none (D : Dn K mg "copied" s_copied p_copied) : Cal P w K mg base "copied" 1 p_copied (sp_copied 0) := by
  refine D.ok sc_copied (fun vs H Q E h => ?_) (fun f cdv A outer s H vs Q E hr h => ?_)
  · obtain ⟨_, _, _, rfl, _⟩ := h
    rfl
  obtain ⟨v, d, M, rfl, dv, hd, hl, mo, q⟩ := h
  exact absurd hd (Nat.not_lt_zero _)
theorem copied_all (T : Glo K w mg) (D : Dn K mg "copied" s_copied p_copied) : ∀ n, Cal P w K mg base "copied" (n + 1) p_copied (sp_copied n)
  | 0 => copied_none D
  | n + 1 => ok_copied T D (copied_all T D n)
/-! ### dicts with tuple keys: sorted, setdefault, walks -/
section
variable {X : Cx} {pins : List (Addr × Obj)} {σ : L2.St} {H : Hp} {s : Shared} {a : Addr} {E : Value → Shared → Prop}
abbrev K2 := Int × Int
def kk2 (p : K2) : List Key := [Sum.inl p.1, Sum.inl p.2]
def kv2 (p : K2) : List V := [V.int p.1, V.int p.2]
theorem kk2_kV (p : K2) : (kk2 p).map kV = kv2 p := rfl
def ent2 (e : K2 × V) : List Key × V := (kk2 e.1, e.2)
def akey (H : Hp) (t : Addr) : K2 := match H t with
  | some (.tup [.int i, .int j]) => (i, j)
  | _ => (0, 0)
def uadr : Value → Addr
  | .ref t => t
  | _ => 0
theorem akey_at {H : Hp} {t : Addr} {p : K2} (h : H t = some (.tup (kv2 p))) : akey H t = p := by
  unfold akey
  rw [h]
  rfl
theorem keys_2 {H : Hp} : ∀ {es : List (K2 × V)} {bs : List Addr}, IsKeys H (es.map ent2) bs → bs.map (akey H) = es.map (·.1) ∧ ∀ b ∈ bs, H b = some (.tup (kv2 (akey H b)))
  | [], _, h => by
    cases h
    exact ⟨rfl, fun _ h => absurd h List.not_mem_nil⟩
  | e :: r, _, h => by
    cases h with
    | cons a t =>
      obtain ⟨h1, h2⟩ := keys_2 t
      have e1 := akey_at (p := e.1) a
      refine ⟨by rw [List.map_cons, List.map_cons, h1, e1], fun b hb => ?_⟩
      rcases List.mem_cons.mp hb with rfl | hb
      · rw [e1]
        exact a
      · exact h2 b hb
theorem swo_lexB : SrtO.Swo SrtO.lexB := by
  refine ⟨fun x y h => ?_, fun x y z h1 h2 => ?_⟩
  · have a := SrtO.lexB_iff.mp h
    refine SrtO.lexB_no.mpr ?_
    omega
  · have a := SrtO.lexB_no.mp h1
    have b := SrtO.lexB_no.mp h2
    refine SrtO.lexB_no.mpr ?_
    omega
/-- sorted(d), d a dict whose keys are pairs of ints: a new list of the keys' tuples, sorted -/
def rSortedDT : List V → Hp → VK → Prop := fun xs H Q => ∃ (a : Addr) (es : List (K2 × V)), xs = [.ref a] ∧ Rd H a (.dT (es.map ent2)) ∧ es.length ≤ 1000 ∧
  ∀ (out : List (K2 × Addr)) (p : Addr), SrtO.Srtd SrtO.lexB (out.map (·.1)) → SrtO.Stb SrtO.lexB (out.map (·.1)) (es.map (·.1)) → (∀ x ∈ out, H x.2 = some (.tup (kv2 x.1))) → H p = none → Q (.ref p) (upd H p (.lst (out.map fun x => V.ref x.2)))
theorem call_sortedDT (hc : X.calm = true) : CallR X (.builtin "sorted") rSortedDT := by
  intro pins s σ H xs us Q I r h
  obtain ⟨d, es, rfl, hd, h16, q⟩ := h
  obtain ⟨u, rfl, rx⟩ := r.one
  cases rx
  obtain ⟨z, hs, ks, pr, o, ds, ep, ho, hx, hdt, he, hn⟩ := (show ObjOk X.prog X.w H s.heap d (.dT (es.map ent2)) from hd.ok I.hok)
  have l1 : ds.size = ks.length := size_of_entries he
  have l2 : (es.map ent2).length = ks.length := Paired.length pr
  rw [List.length_map] at l2
  refine Calls.call_function_entry PyProof.Rows.kind_sorted PyProof.Rows.plain_sorted PyProof.Rows.entry_sorted (PyProof.Rows.args_sorted1 _) ?_
  unfold Builtin.«sorted»
  refine wpAny_bind (m := checkCount "sorted" 1 1 _) (wpAny_pure ?_)
  refine wpAny_bind (PySem.W.kdu_collect (A := X.A.in1) (kdl_raw hs hx hdt) (I.ok.hd hc) ho (by rw [l1, ← l2, sizeLine_eq]; omega) fun h' tk acc hk it => ?_)
  have ea : acc.toList = ks.map fun x => Value.ref x.2.1 := by
    have hl : acc.toList.length = ks.length := by rw [Array.length_toList, it.1]; exact l1
    apply List.ext_getElem?
    intro j
    rw [List.getElem?_map]
    cases hj : acc.toList[j]? with
    | none =>
      have h1 := List.getElem?_eq_none_iff.mp hj
      rw [List.getElem?_eq_none (by omega)]
      all_goals rfl
    | some v =>
      obtain ⟨en, hen, hv⟩ := it.2 j v (by rw [← Array.getElem?_toList]; exact hj)
      have qe := entry_at he j
      rw [hen] at qe
      cases hb : ks[j]? with
      | none =>
        rw [hb] at qe
        exact nomatch (show some en = none from qe)
      | some b =>
        rw [hb] at qe
        have e2 : en = entryOfKey (tupleKind (mixKind X.prog X.w)) b := Option.some.inj qe
        rw [hv, e2]
        all_goals rfl
  obtain ⟨vs, hvs⟩ : ∃ vs, vs = acc.toList := ⟨_, rfl⟩
  obtain ⟨bs, hbs⟩ : ∃ bs : List Addr, bs = ks.map fun x => x.2.1 := ⟨_, rfl⟩
  have eb : vs = bs.map Value.ref := by rw [hvs, hbs, ea, List.map_map]; all_goals rfl
  have lvs : vs.length = ks.length := by rw [eb, hbs, List.length_map, List.length_map]
  have hK : IsKeys H (es.map ent2) bs := by rw [hbs]; exact isKeys_of pr
  obtain ⟨k1, k2⟩ := keys_2 hK
  have hmem : ∀ u ∈ vs, ∃ b, u = Value.ref b ∧ H b = some (.tup (kv2 (akey H b))) := fun u hu => by
    rw [eb] at hu
    obtain ⟨b, hb, rfl⟩ := List.mem_map.mp hu
    exact ⟨b, rfl, k2 b hb⟩
  rw [← hvs]
  have I1 : Inv X pins σ H { s with heap := h', toks := tk } := I.kept hk
  have hz : vs.length ≤ sizeLine := by rw [lvs, ← l2, sizeLine_eq]; omega
  refine wpAny_bind (wpAny_newList ?_ hz)
  have hoL : (h'.push (PyProof.Rows.seqObj "list" vs.toArray 0)).get? h'.objs.size = some (PyProof.Rows.seqObj "list" vs.toArray 0) := Heap.get?_push_size _ rfl
  show wpAny _ _ _ _ _ { s with heap := h'.push (PyProof.Rows.seqObj "list" vs.toArray 0), toks := tk }
  refine wpAny_bind (wpAny_holding (wpAny_call_entry PyProof.Rows.slot_list_sort ⟨_, hoL, rfl⟩ PyProof.Rows.entry_list_sort
    (SrtO.list_sort_ord (SrtO.swo_lex fun u => akey H (uadr u)) hoL hz (fun h2 => ?_) fun out hs hb => ⟨_, rfl, ?_⟩) (PyProof.Rows.args_list_sort _)))
  · refine SrtO.pairs_sortableO (k := fun u => akey H (uadr u)) (by omega) (fun v hv => ?_) fun o e => ?_
    · obtain ⟨b, rfl, hb⟩ := hmem v hv
      obtain ⟨_, its2, r2, o, ho, hc, n, hd⟩ := I1.hok _ _ hb
      obtain ⟨u1, u2, rfl, ri, rj⟩ := vals2 r2
      obtain ⟨t1, rfl⟩ := ri
      obtain ⟨t2, rfl⟩ := rj
      exact ⟨b, o, t1, t2, n, rfl, Heap.get?_push_of_some _ ho, hc, hd⟩
    · have e' : some o = some (PyProof.Rows.seqObj "list" vs.toArray 0) := e.symm.trans hoL
      cases e'
      intro c
      exact absurd (Value.type.inj c) (by decide)
  · have hout : ∀ u ∈ out, ∃ b, u = Value.ref b ∧ H b = some (.tup (kv2 (akey H b))) := fun u hu => hmem u (hb.perm.mem_iff.mp hu)
    have hv3 : ∀ u ∈ out, ∃ b, u = Value.ref b := fun u hu => (hout u hu).elim fun b h => ⟨b, h.1⟩
    obtain ⟨n, hn⟩ := PyProof.Rows.sortedHeap_at (vs := vs) (out := out.toArray) hoL
    have el : (out.map fun u => (akey H (uadr u), uadr u)).map (fun x => V.ref x.2) = out.map backV := by
      rw [List.map_map]
      refine List.map_congr_left fun u hu => ?_
      obtain ⟨b, rfl⟩ := hv3 u hu
      rfl
    have ek : (out.map fun u => (akey H (uadr u), uadr u)).map (·.1) = out.map fun u => akey H (uadr u) := by
      rw [List.map_map]
      rfl
    have ev : vs.map (fun u => akey H (uadr u)) = es.map (·.1) := by
      rw [← k1, eb, List.map_map]
      rfl
    refine wpAny_pure ⟨_, rfl, .ref h'.objs.size, upd H h'.objs.size (.lst ((out.map fun u => (akey H (uadr u), uadr u)).map fun x => V.ref x.2)), I1.laid (t' := tk) (fun b u e => ?_) (Nat.le_refl _)
      (show ObjOk X.prog X.w _ _ _ (.lst ((out.map fun u => (akey H (uadr u), uadr u)).map fun x => V.ref x.2)) from ⟨by rw [List.length_map, List.length_map, hb.len]; exact hz, out, n, by rw [el]; exact vals_back hv3, hn⟩), rfl, q _ _ (by rw [ek]; exact SrtO.srtd_map hs) (by rw [ek, ← ev]; exact SrtO.Stb.map swo_lexB _ hb) (fun x hx => ?_) (I1.hok.fresh (Nat.le_refl _))⟩
    · have hb : b < h'.objs.size := Heap.lt_size e
      rw [PyProof.Rows.sortedHeap_old (Nat.ne_of_lt hb) (by rw [PyProof.Rows.size_push']; exact Nat.lt_succ_of_lt hb)]
      exact Heap.get?_push_of_some _ e
    · obtain ⟨u, hu, rfl⟩ := List.mem_map.mp hx
      obtain ⟨b, rfl, h⟩ := hout u hu
      exact h
end
section
open PySem.Spec PyProof.Rows
variable {X : Cx} {pins : List (Addr × Obj)} {σ : L2.St} {H : Hp} {s : Shared} {a b : Addr} {r : Value} {d : V} {A : Around} {E : Value → Shared → Prop}
theorem d_setdT {kvs : List (List Key × V)} {k : List Key} {Q : Value → Shared → Prop} (hu : A.units + 1 < cLine) (I : L2.Inv X pins σ H s) (e : H a = some (.dT kvs)) (eb : H b = some (.tup (k.map kV))) (rd : RelV d r) (hl : kvs.length < sizeLine)
    (h1 : ∀ v, valV kvs k = some v → ∀ (w' : Value) (s' : Shared), L2.Inv X pins σ H s' → RelV v w' → Q w' s') (h2 : valV kvs k = none → ∀ (w' : Value) (s' : Shared), L2.Inv X pins σ (upd H a (.dT (putK kvs k d))) s' → RelV d w' → Q w' s') :
    wpAny (model X.prog X.w) A (call (.builtin "dict.setdefault") [.ref a, .ref b, r]) Q E s := by
  obtain ⟨z, hd, xs, rel, dd⟩ := dt_of I.hok e
  have hz : xs.length ≤ sizeLine := by rw [← Paired.length rel]; exact z
  refine call_setdefault_heap (hsz := hz) (tupleKind_room_in1 hu) (key_of I.hok eb) hd dd (fun p hp => ?_) (fun hn h' dd' hs => ?_)
  · have q := rel.val k
    rw [hp] at q
    cases q0 : valV kvs k with
    | none =>
      rw [q0] at q
      exact (show False from q).elim
    | some v0 =>
      rw [q0] at q
      exact h1 v0 q0 _ _ (I.tok _) q
  · have q := rel.val k
    rw [hn] at q
    cases q0 : valV kvs k with
    | some v0 =>
      rw [q0] at q
      exact (show False from q).elim
    | none =>
      have hl2 : (putK kvs k d).length ≤ sizeLine := by have := length_putK kvs k d; omega
      obtain ⟨q, es, ep, hq, h3, h4, h5, _, h6⟩ := dd'
      refine h2 q0 _ _ (d_write I (by rw [e]; exact True.intro) hs ⟨q, hq⟩ ⟨hl2, hd, _, (rel.put k eb rd).keeps fun c ys ec => ?_, q, es, ep, hq, h3, h4, h5, h6⟩) rd
      rw [upd_ne (ne_of ec e (fun z => nomatch z))]
      exact ec
/-- d.setdefault(y, z), d's keys tuples -/
def tDSetdT (td ty tx : TE) : TE := fun σ H Q => td σ H fun x H1 => ∃ a, x = .ref a ∧ IsD H1 a ∧ ty σ H1 fun y H2 => tx σ H2 fun z H3 => ∃ (kvs : List (List Key × V)) (k : List Key) (b : Addr), H3 a = some (.dT kvs) ∧ y = .ref b ∧ H3 b = some (.tup (k.map kV)) ∧ kvs.length < sizeLine ∧
  (∀ v, valV kvs k = some v → Q v H3) ∧ (valV kvs k = none → Q z (upd H3 a (.dT (putK kvs k z))))
theorem pe_dsetdT {o e f : Expr} {td ty tx : TE} {apos cpos : Pos} (hu : X.A.units + 1 < cLine) (ho : PE X o td) (he : PE X e ty) (hf : PE X f tx) (m : M2 X o "setdefault" apos e f cpos) : PE X (.Call (.Attribute o "setdefault" apos) [e, f] [] cpos) (tDSetdT td ty tx) := by
  refine ⟨fun pins s σ H Q I h => ?_⟩
  refine wpAny_Call_method m.base m.few m.line PySem.F.plainAttrs_dict PySem.F.slot_dict_setdefault PySem.F.type_dict_setdefault (thn (ho.run pins s σ H _ I h) fun u s1 ⟨x, H1, I1, rx, a, ex, d, q1⟩ => ?_)
  subst ex
  obtain rfl : u = Value.ref a := rx
  obtain ⟨t1, t2, _⟩ := isD_at I1 d
  refine ⟨t1, t2, ?_⟩
  rw [m.trees]
  refine Calls.callWith_builtin rfl (Calls.evalArgs_plain (Calls.spliced_cons (thn (he.run pins s1 σ H1 _ I1 q1) fun iv s2 ⟨y, H2, I2, ry, q2⟩ =>
    Calls.spliced_cons (thn (hf.run pins s2 σ H2 _ I2 q2) fun fv s3 ⟨z, H3, I3, rz, kvs, k, b, ea, ey, eb, hl, q3, q4⟩ => Calls.spliced_nil ?_))))
  subst ey
  cases (show iv = Value.ref b from ry)
  exact d_setdT hu I3 ea eb rz hl (fun v hv w' s4 I4 rw' => ⟨v, _, I4, rw', q3 v hv⟩) fun hn w' s4 I4 rw' => ⟨z, _, I4, rw', q4 hn⟩
end
abbrev s_Links___init__ : Stmt := inClass (topS 3) 0
theorem sc_Links___init__ : FnScope ["self", "delays"] ["self", "delays"] (defScope s_Links___init__) := ⟨rfl, rfl, rfl, by decide +kernel, rfl, by decide +kernel, by decide +kernel⟩
abbrev p_Links___init__ : List Str := ["self", "delays"]
abbrev s_Links_send : Stmt := inClass (topS 3) 1
theorem sc_Links_send : FnScope ["self", "tick", "source", "goal", "message", "lane"] ["self", "tick", "source", "goal", "message"] (defScope s_Links_send) := ⟨rfl, rfl, rfl, by decide +kernel, rfl, by decide +kernel, by decide +kernel⟩
abbrev p_Links_send : List Str := ["self", "tick", "source", "goal", "message"]
abbrev s_Links_next_delay : Stmt := inClass (topS 3) 2
theorem sc_Links_next_delay : FnScope ["self"] ["self"] (defScope s_Links_next_delay) := ⟨rfl, rfl, rfl, by decide +kernel, rfl, by decide +kernel, by decide +kernel⟩
abbrev p_Links_next_delay : List Str := ["self"]
abbrev s_Links_due : Stmt := inClass (topS 3) 3
theorem sc_Links_due : FnScope ["self", "tick", "found", "directions", "direction", "lane", "_", "message"] ["self", "tick"] (defScope s_Links_due) := ⟨rfl, rfl, rfl, by decide +kernel, rfl, by decide +kernel, by decide +kernel⟩
abbrev p_Links_due : List Str := ["self", "tick"]
abbrev s_Links_empty : Stmt := inClass (topS 3) 4
theorem sc_Links_empty : FnScope ["self", "direction"] ["self"] (defScope s_Links_empty) := ⟨rfl, rfl, rfl, by decide +kernel, rfl, by decide +kernel, by decide +kernel⟩
abbrev p_Links_empty : List Str := ["self"]
abbrev s_law : Stmt := topS 8
theorem sc_law : FnScope ["script", "state", "delays", "links", "rows", "sent", "tick", "given", "found", "pair", "told", "k", "empty", "row"] ["script"] (defScope s_law) := ⟨rfl, rfl, rfl, by decide +kernel, rfl, by decide +kernel, by decide +kernel⟩
abbrev p_law : List Str := ["script"]
section
variable {K : PySem.W.Frag} {σ : L2.St} {H : Hp} {Q : VK} {td ty tx : TE}
theorem r_dnewT (q : ∀ p Hn, H p = none → Ex H Hn → Hn p = some (.dT []) → Q (.ref p) Hn) : tDNewT σ H Q := fun p hp => q p _ hp (Ex.mk hp rfl) upd_same
theorem r_setdT (q : td σ H fun x H1 => ∃ a, x = .ref a ∧ IsD H1 a ∧ ty σ H1 fun y H2 => tx σ H2 fun z H3 => ∃ (kvs : List (List Key × V)) (k : List Key) (b : Addr), H3 a = some (.dT kvs) ∧ y = .ref b ∧ H3 b = some (.tup (k.map kV)) ∧ kvs.length < sizeLine ∧
  (∀ v, valV kvs k = some v → Q v H3) ∧ (valV kvs k = none → Q z (upd H3 a (.dT (putK kvs k z))))) : tDSetdT td ty tx σ H Q := q
theorem q_isD {a : Addr} {kvs : List (List Key × V)} {B : Addr → Prop} (h : H a = some (.dT kvs)) (q : B a) : ∃ b, V.ref a = .ref b ∧ IsD H b ∧ B b := ⟨a, rfl, .inr ⟨kvs, .inl h⟩, q⟩
theorem r_get2 (q : td σ H fun x H1 => ∃ a, x = .ref a ∧ IsD H1 a ∧ ty σ H1 fun y H2 => tx σ H2 fun z H3 => ∃ o, DGet H3 a y o ∧ Q (o.getD z) H3) : tDGet2 td ty tx σ H Q := q
end
local macro_rules | `(tactic| walk_at "own") => `(tactic| first
  | (with_reducible refine r_dnewT ?_; walk_at "i_new")
  | with_reducible refine r_setdT ?_
  | with_reducible refine r_get2 ?_
  | ((with_reducible refine q_isD (kvs := ?kvs) ?h ?_); (case h => walk_at "lift")))
structure LkK (K : PySem.W.Frag) (C : Addr) : Prop where
  cl : Cls K C
  n1 : NoAttr K C "delays"
  n2 : NoAttr K C "many"
  n3 : NoAttr K C "lanes"
def lfl (D : Addr) (m : Int) (LN : Addr) : List (Str × V) := [("delays", .ref D), ("many", .int m), ("lanes", .ref LN)]
/-- the rows of a dict: the keys kx, the lists at a -/
def trow (kx : Nat → K2) (a : Nat → Addr) (n : Nat) : List (List Key × V) := (List.range n).map fun k => (kk2 (kx k), V.ref (a k))
def tent (kx : Nat → K2) (a : Nat → Addr) (n : Nat) : List (K2 × V) := (List.range n).map fun k => (kx k, V.ref (a k))
theorem tent_row {kx : Nat → K2} {a : Nat → Addr} {n : Nat} : (tent kx a n).map ent2 = trow kx a n := by
  unfold tent trow
  rw [List.map_map]
  rfl
theorem tent_keys {kx : Nat → K2} {a : Nat → Addr} {n : Nat} : (tent kx a n).map (·.1) = (List.range n).map kx := by
  unfold tent
  rw [List.map_map]
  rfl
theorem trow_len {kx : Nat → K2} {a : Nat → Addr} {n : Nat} : (trow kx a n).length = n := by unfold trow; rw [List.length_map, List.length_range]
theorem kk2_inj {p q : K2} (h : kk2 p = kk2 q) : p = q := by
  obtain ⟨a, b⟩ := p
  obtain ⟨c, d⟩ := q
  simp only [kk2, List.cons.injEq, Sum.inl.injEq, and_true] at h
  rw [h.1, h.2]
def Inj (n : Nat) (kx : Nat → K2) : Prop := ∀ i j, i < n → j < n → kx i = kx j → i = j
theorem find_row {kx : Nat → K2} {a : Nat → Addr} {p : K2} : ∀ n, (∀ i, i < n → kx i ≠ p) → valV (trow kx a n) (kk2 p) = none := by
  intro n h
  unfold valV
  rw [Option.map_eq_none_iff, List.find?_eq_none]
  intro x hx
  obtain ⟨i, hi, rfl⟩ := List.mem_map.mp hx
  have := h i (List.mem_range.mp hi)
  simp only [decide_eq_true_eq]
  exact fun z => this (kk2_inj z)
theorem trow_at {kx : Nat → K2} {a : Nat → Addr} {k : Nat} : ∀ n, Inj n kx → k < n → valV (trow kx a n) (kk2 (kx k)) = some (.ref (a k))
  | 0, _, h => by omega
  | n + 1, inj, h => by
    have e : trow kx a (n + 1) = trow kx a n ++ [(kk2 (kx n), V.ref (a n))] := by unfold trow; rw [List.range_succ, List.map_append]; rfl
    rw [e]
    by_cases c : k < n
    · have ih := trow_at (a := a) n (fun i j hi hj => inj i j (by omega) (by omega)) c
      unfold valV at ih ⊢
      obtain ⟨x, hx, hv⟩ := Option.map_eq_some_iff.mp ih
      rw [List.find?_append, hx]
      exact congrArg some hv
    · have ek : k = n := by omega
      subst ek
      have no := find_row (a := a) (p := kx k) k (fun i hi z => by have := inj i k (by omega) (by omega) z; omega)
      unfold valV at no ⊢
      rw [Option.map_eq_none_iff] at no
      rw [List.find?_append, no]
      simp
theorem trow_new {kx : Nat → K2} {a : Nat → Addr} {p : K2} {r : Addr} {n : Nat} (h : ∀ i, i < n → kx i ≠ p) : putK (trow kx a n) (kk2 p) (.ref r) = trow (fun k => if k = n then p else kx k) (fset a n r) (n + 1) := by
  unfold putK
  have no : ((trow kx a n).any fun kv => decide (kv.1 = kk2 p)) = false := by
    rw [List.any_eq_false]
    intro x hx
    obtain ⟨i, hi, rfl⟩ := List.mem_map.mp hx
    simp only [decide_eq_true_eq]
    exact fun z => h i (List.mem_range.mp hi) (kk2_inj z)
  rw [if_neg (by rw [no]; decide)]
  unfold trow
  rw [List.range_succ, List.map_append]
  congr 1
  · refine List.map_congr_left fun k hk => ?_
    have := List.mem_range.mp hk
    show (kk2 (kx k), V.ref (a k)) = (kk2 (if k = n then p else kx k), V.ref (fset a n r k))
    rw [if_neg (by omega), fset_lt this]
  · simp [fset_eq]
theorem trow_old {kx : Nat → K2} {a : Nat → Addr} {k : Nat} {r : Addr} {n : Nat} (inj : Inj n kx) (h : k < n) : putK (trow kx a n) (kk2 (kx k)) (.ref r) = trow kx (fset a k r) n := by
  unfold putK
  have yes : ((trow kx a n).any fun kv => decide (kv.1 = kk2 (kx k))) = true := by
    rw [List.any_eq_true]
    exact ⟨_, List.mem_map.mpr ⟨k, List.mem_range.mpr h, rfl⟩, by simp⟩
  rw [if_pos yes]
  unfold trow
  rw [List.map_map]
  refine List.map_congr_left fun i hi => ?_
  have hi' := List.mem_range.mp hi
  show (if kk2 (kx i) = kk2 (kx k) then _ else _) = _
  by_cases c : i = k
  · subst c
    rw [if_pos rfl, fset_eq]
  · rw [if_neg (fun z => c (inj i k hi' h (kk2_inj z)))]
    unfold fset
    rw [if_neg c]
/-! ### queues -/
def qd (x : Int × Int) : PyData := .tuple [.int x.1, .tuple [.str "m", .int x.2]]
def QAt (H : Hp) (a : Addr) (q : List (Int × Int)) : Prop := ∃ vs, H a = some (.lst vs) ∧ Tps H vs (q.map qd)
theorem QAt.kp {M : List Addr} {H H' : Hp} {a : Addr} {q : List (Int × Int)} (k : Kp M H H') (n : a ∉ M) (h : QAt H a q) : QAt H' a q := by
  obtain ⟨vs, h1, h2⟩ := h
  exact ⟨vs, k.out _ _ n h1, tps_kp k h2⟩
theorem QAt.ex {H H' : Hp} {a : Addr} {q : List (Int × Int)} (k : Ex H H') (h : QAt H a q) : QAt H' a q := h.kp (M := []) k.kp List.not_mem_nil
/-- the links: its delays, how many were sent, its lanes -/
structure LkAt (C : Addr) (H : Hp) (lk dx D LN : Addr) (dl : List Int) (m : Nat) (kx : Nat → K2) (la : Nat → Addr) (n : Nat) : Prop where
  ob : H lk = some (.ins C dx (lfl D (m : Int) LN))
  dl : H D = some (.lst (dl.map V.int))
  ln : H LN = some (.dT (trow kx la n))
theorem LkAt.kp {C : Addr} {M : List Addr} {H H' : Hp} {lk dx D LN : Addr} {dl : List Int} {m n : Nat} {kx : Nat → K2} {la : Nat → Addr} (k : Kp M H H') (a : lk ∉ M) (b : D ∉ M) (c : LN ∉ M) (h : LkAt C H lk dx D LN dl m kx la n) : LkAt C H' lk dx D LN dl m kx la n := ⟨k.out _ _ a h.ob, k.out _ _ b h.dl, k.out _ _ c h.ln⟩
theorem LkAt.exx {C : Addr} {H H' : Hp} {lk dx D LN : Addr} {dl : List Int} {m n : Nat} {kx : Nat → K2} {la : Nat → Addr} (k : Ex H H') (h : LkAt C H lk dx D LN dl m kx la n) : LkAt C H' lk dx D LN dl m kx la n := h.kp (M := []) k.kp List.not_mem_nil List.not_mem_nil List.not_mem_nil
variable {C : Addr}
def dlyOf (dl : List Int) (m : Nat) : Int := if dl.length = 0 then 1 else dl.getD (m % dl.length) 1
theorem dly_at {d : Int} {r : List Int} {m : Nat} {z : Int} (e : z = ((m % (d :: r).length : Nat) : Int)) : atI (V.int d :: r.map V.int) z = some (.int (dlyOf (d :: r) m)) := by
  subst e
  have hl : m % (d :: r).length < (d :: r).length := Nat.mod_lt _ (by simp)
  refine atI_nat ?_
  show ((d :: r).map V.int)[m % (d :: r).length]? = _
  unfold dlyOf
  rw [if_neg (by simp), List.getElem?_map, List.getD_eq_getElem?_getD, List.getElem?_eq_getElem hl]
  rfl
def sp_next (C : Addr) : Sp := fun vs H Q _ => ∃ (lk dx D LN : Addr) (dl : List Int) (m : Nat), vs = [.ref lk] ∧ H lk = some (.ins C dx (lfl D (m : Int) LN)) ∧ H D = some (.lst (dl.map V.int)) ∧ dl.length ≤ 1000 ∧ ∀ H', Kp [lk] H H' → H' lk = some (.ins C dx (lfl D ((m + 1 : Nat) : Int) LN)) → Q (.int (dlyOf dl m)) H'
theorem c_next {lk dx D LN : Addr} {dl : List Int} {m : Nat} {H : Hp} {Q : VK} {E : XK} (h1 : H lk = some (.ins C dx (lfl D (m : Int) LN))) (h2 : H D = some (.lst (dl.map V.int))) (h3 : dl.length ≤ 1000) (q : ∀ H', Kp [lk] H H' → H' lk = some (.ins C dx (lfl D ((m + 1 : Nat) : Int) LN)) → Q (.int (dlyOf dl m)) H') : sp_next C [.ref lk] H Q E := ⟨lk, dx, D, LN, dl, m, rfl, h1, h2, h3, q⟩
theorem ok_next (T : Glo K w mg) (W : LkK K C) (D : DnM K C "next_delay" "Links.next_delay" s_Links_next_delay p_Links_next_delay) : MetC P w K mg base C "next_delay" 1 p_Links_next_delay (sp_next C) := by
  obtain ⟨hc, n1, n2, n3⟩ := W
  refine D.ok sc_Links_next_delay (fun vs H Q E h => ?_) (fun f cdv A outer s H vs Q E hr h => ?_)
  · obtain ⟨_, _, _, _, _, _, rfl, _⟩ := h
    rfl
  obtain ⟨lk, dx, DD, LN, dl, m, rfl, hob, hD, hdl, q⟩ := h
  refine ⟨_, (pss_cons (ps_fldaug (pv 0) pe_int in_add) (pss_cons (ps_if (pt_not (pt_truth (pe_fld (pv 0) rfl) (by intro _; rfl))) (pss_one (ps_ret pe_int)) pss_nil) (pss_one (ps_ret (pe_ix ix_seq (pe_fld (pv 0) rfl) (pe_op op_mod (pe_op op_sub (pe_fld (pv 0) rfl) pe_int) (pe_callB call_lenA rfl T.n_len (by decide +kernel) (pa_cons (pe_fld (pv 0) rfl) pa_nil))) (fun _ _ => rfl)))))), ?_⟩
  try dsimp only [cxOf, Cx.nox]
  have hob0 := hob
  simp only [lfl] at hob
  repeat' walk_at "st"
  refine ⟨dx, _, hob0, by show 3 < 1000; decide, ?_⟩
  generalize hq : upd H lk _ = Hn
  have ku : Kp [lk] H Hn := by
    rw [← hq]
    exact kp_one hob0 (by intro _ z; cases z)
  have hu1 : Hn lk = some (.ins C dx (lfl DD ((m + 1 : Nat) : Int) LN)) := by
    rw [← hq, upd_same]
    rfl
  have nD : DD ≠ lk := ne_knd hD hob0 (by intro z; cases z)
  have hD1 : Hn DD = some (.lst (dl.map V.int)) := ku.out _ _ (nin_c nD List.not_mem_nil) hD
  clear hq hob hob0 hD
  have hob := hu1
  simp only [lfl] at hob
  cases dl with
  | nil =>
    simp only [List.map_nil] at hD1
    repeat' walk_at "st"
    exact q _ ku hu1
  | cons d r =>
    simp only [List.map_cons] at hD1
    have hdl' : (r.map V.int).length + 1 ≤ 1000 := by rw [List.length_map]; exact hdl
    repeat' walk_at "st"
    refine ⟨_, _, rfl, rfl, by rw [List.length_cons]; omega, ?_⟩
    refine q_ixL (sql hD1) (dly_at ?_) (q _ ku hu1)
    rw [List.length_cons, List.length_map, List.length_cons, show ((m + 1 : Nat) : Int) - 1 = (m : Int) by omega]
    rfl
theorem dpm_msg {M : List Addr} {H : Hp} {v : V} {x : Int} (h : DpM M H v (.tuple [.str "m", .int x])) : ∃ c, v = .ref c ∧ H c = some (.tup [.str "m", .int x]) := by
  cases h with
  | tup h t =>
    cases t with
    | cons a t =>
      cases a
      cases t with
      | cons a t =>
        cases a
        cases t
        exact ⟨_, rfl, h⟩
theorem msg_dpm {M : List Addr} {H : Hp} {c : Addr} {x : Int} (h : H c = some (.tup [.str "m", .int x])) : DpM M H (.ref c) (.tuple [.str "m", .int x]) := .tup h (.cons (.str _) (.cons (.int _) .nil))
theorem msg_tp {H : Hp} {c : Addr} {x : Int} (h : H c = some (.tup [.str "m", .int x])) : Tp H (.ref c) (.tuple [.str "m", .int x]) := .tup h (.cons (.str _) (.cons (.int _) .nil))
theorem q_tp {H : Hp} {p c : Addr} {t x : Int} (h : H p = some (.tup [.int t, .ref c])) (hc : H c = some (.tup [.str "m", .int x])) : Tp H (.ref p) (qd (t, x)) := .tup h (.cons (.int _) (.cons (msg_tp hc) .nil))
def sp_send (C : Addr) : Sp := fun vs H Q _ => ∃ (lk dx D LN mg : Addr) (dl : List Int) (m n : Nat) (kx : Nat → K2) (la : Nat → Addr) (qx : Nat → List (Int × Int)) (t : Int) (p : K2) (x : Int), vs = [.ref lk, .int t, .int p.1, .int p.2, .ref mg] ∧ LkAt C H lk dx D LN dl m kx la n ∧ H mg = some (.tup [.str "m", .int x]) ∧ dl.length ≤ 1000 ∧ n ≤ 1000 ∧ Inj n kx ∧ (∀ k, k < n → QAt H (la k) (qx k) ∧ (qx k).length ≤ 1000 ∧ la k ≠ D) ∧
  (∀ k, k < n → kx k = p → ∀ H', Kp [lk, la k] H H' → LkAt C H' lk dx D LN dl (m + 1) kx la n → QAt H' (la k) (qx k ++ [(t + dlyOf dl m, x)]) → Q .non H') ∧
  ((∀ k, k < n → kx k ≠ p) → ∀ H' L, Kp [lk, LN] H H' → H L = none → LkAt C H' lk dx D LN dl (m + 1) (fun k => if k = n then p else kx k) (fset la n L) (n + 1) → QAt H' L [(t + dlyOf dl m, x)] → Q .non H')
theorem ok_send (T : Glo K w mg) (W : LkK K C) (D : DnM K C "send" "Links.send" s_Links_send p_Links_send) (G_Links_next_delay : MetC P w K mg base C "next_delay" 1 p_Links_next_delay (sp_next C)) (G_copied : Cal P w K mg base "copied" 5 p_copied (sp_copied 4)) : MetC P w K mg base C "send" 6 p_Links_send (sp_send C) := by
  obtain ⟨hc, n1, n2, n3⟩ := W
  refine D.ok sc_Links_send (fun vs H Q E h => ?_) (fun f cdv A outer s H vs Q E hr h => ?_)
  · obtain ⟨_, _, _, _, _, _, _, _, _, _, _, _, _, _, rfl, _⟩ := h
    rfl
  obtain ⟨lk, dx, DD, LN, mg', dl, m, n, kx, la, qx, t, pr, x, rfl, lka, hmg, hdl, hn0, inj, hq, k1, k2⟩ := h
  refine ⟨_, (pss_cons (ps_set (i := 5) sc_Links_send.nd rfl (by first | exact Or.inl rfl | exact Or.inr rfl) (pe_dsetdT (hu_of hr) (pe_fld (pv 0) rfl) (pe_tup (pa_cons (pv 2) (pa_cons (pv 3) pa_nil))) (pe_lst pa_nil) ⟨rfl, rfl, rfl, rfl⟩)) (pss_one (ps_expr (pe_bm PySem.F.plainAttrs_list PySem.F.slot_list_append PySem.F.type_list_append mt_append (pv 5) (pa_cons (pe_tup (pa_cons (pe_op op_addA (pv 1) (pe_mtC0 G_Links_next_delay (hr.mono (by walk_at "lev")) (pv 0))) (pa_cons (pe_cal G_copied (hr.mono (by walk_at "lev")) rfl (pa_cons (pv 4) pa_nil)) pa_nil))) pa_nil))))), ?_⟩
  try dsimp only [cxOf, Cx.nox]
  have hob := lka.ob
  have hob0 := hob
  have hD := lka.dl
  have hln := lka.ln
  simp only [lfl] at hob
  repeat' walk_at "st"
  rename_i kt H1 hkt ke1 hkt1
  obtain ⟨H2, rfl⟩ : ∃ x, x = Hn := ⟨_, rfl⟩
  obtain ⟨L, rfl⟩ : ∃ x, x = p := ⟨_, rfl⟩
  have e02 : Ex H H2 := ke1.trans ke
  have tmg : Tp H2 (.ref mg') (.tuple [.str "m", .int x]) := .tup (e02 _ _ hmg) (.cons (.str _) (.cons (.int _) .nil))
  have hln2 := e02 _ _ hln
  have hob2 := e02 _ _ hob0
  have hD2 := e02 _ _ hD
  have hL := free_back ke1 hp
  have hkt2 := ke _ _ hkt1
  have nlD : lk ≠ DD := ne_knd hob0 hD (by intro z; cases z)
  have nlN : lk ≠ LN := ne_knd hob0 hln (by intro z; cases z)
  have nDN : DD ≠ LN := ne_knd hD hln (by intro z; cases z)
  have zl : (trow kx la n).length < sizeLine := by rw [trow_len, sizeLine_eq]; omega
  clear hob hkt hkt1 ke1
  by_cases hk : ∃ k, k < n ∧ kx k = pr
  · obtain ⟨k, hkn, rfl⟩ := hk
    obtain ⟨⟨vs, hv1, hv2⟩, hql, hqD⟩ := hq k hkn
    have hv2' := e02 _ _ hv1
    have tv2 := tps_ex e02 hv2
    have lvs : vs.length = (qx k).length := by rw [tps_len hv2, List.length_map]
    have nlk : la k ≠ lk := ne_knd hv1 hob0 (by intro z; cases z)
    have nlN2 : la k ≠ LN := ne_knd hv1 hln (by intro z; cases z)
    refine ⟨trow kx la n, kk2 (kx k), kt, hln2, rfl, hkt2, zl, fun v hv => ?_, fun hv => by rw [trow_at n inj hkn] at hv; cases hv⟩
    rw [trow_at n inj hkn] at hv
    cases hv
    clear k2
    repeat' walk_at "st"
    refine c_next hob2 hD2 hdl (fun H3 ku hob3 => ?_)
    have hv3 := ku.out _ _ (nin_c nlk List.not_mem_nil) hv2'
    have tv3 := tps_kp ku tv2
    have hm3 := ku.tup _ _ (e02 _ _ hmg)
    repeat' walk_at "st"
    refine c_copied [] (msg_dpm hm3) (by simp [PyData.depth, PyData.depthAll]) (by simp [smD, smDs]) (fun x hx => absurd hx List.not_mem_nil) (fun H4 v4 e4 d4 => ?_)
    obtain ⟨c4, rfl, hc4⟩ := dpm_msg d4
    have hv4 := e4 _ _ hv3
    have tv4 := tps_ex e4 tv3
    have hob4 := e4 _ _ hob3
    have hln4 : H4 LN = some (.dT (trow kx la n)) := e4 _ _ (ku.out _ _ (nin_c nlN.symm List.not_mem_nil) hln2)
    have hD4 := e4 _ _ (ku.out _ _ (nin_c nlD.symm List.not_mem_nil) hD2)
    clear hn hp ke
    repeat' walk_at "st"
    rename_i Hm
    refine k1 k hkn rfl _ (by walk_at "kpx") ⟨ku.out _ _ (nin_c nlk.symm List.not_mem_nil) (ke _ _ hob4), ku.out _ _ (nin_c hqD.symm List.not_mem_nil) (ke _ _ hD4), ku.out _ _ (nin_c nlN2.symm List.not_mem_nil) (ke _ _ hln4)⟩ ⟨_, hu, ?_⟩
    rw [List.map_append]
    exact tps_kp ku (tps_app (tps_ex ke tv4) (.cons (q_tp hn (ke _ _ hc4)) .nil))
  · have hk' : ∀ k, k < n → kx k ≠ pr := fun k h z => hk ⟨k, h, z⟩
    have hno := find_row (a := la) n hk'
    refine ⟨trow kx la n, kk2 pr, kt, hln2, rfl, hkt2, zl, (fun v hv => by rw [hno] at hv; cases hv), fun _ => ?_⟩
    rw [trow_new hk']
    generalize hqq : upd H2 LN _ = H2b
    have kLN : Kp [LN] H2 H2b := by
      rw [← hqq]
      exact kp_one hln2 (by intro _ z; cases z)
    have hLN2 := at_new hqq
    clear k1 hqq
    have nLN : L ≠ LN := fun z => by rw [z, hln] at hL; cases hL
    have nLlk : L ≠ lk := fun z => by rw [z, hob0] at hL; cases hL
    have nLD : L ≠ DD := fun z => by rw [z, hD] at hL; cases hL
    have hobb := kLN.out _ _ (nin_c nlN List.not_mem_nil) hob2
    have hDb := kLN.out _ _ (nin_c nDN List.not_mem_nil) hD2
    have hLb := kLN.out _ _ (nin_c nLN List.not_mem_nil) hn
    have hmb := kLN.tup _ _ (e02 _ _ hmg)
    have k0b : True ∧ Kp [lk, LN] H H2b := ⟨trivial, e02.kp.trans (kLN.sub fun x hx => by rw [List.mem_singleton.mp hx]; exact List.mem_cons_of_mem _ (List.mem_cons_self ..))⟩
    clear hn hp ke
    repeat' walk_at "st"
    refine c_next hobb hDb hdl (fun H3 ku hob3 => ?_)
    have hv3 := ku.out _ _ (nin_c nLlk List.not_mem_nil) hLb
    have hm3 := ku.tup _ _ hmb
    repeat' walk_at "st"
    refine c_copied [] (msg_dpm hm3) (by simp [PyData.depth, PyData.depthAll]) (by simp [smD, smDs]) (fun x hx => absurd hx List.not_mem_nil) (fun H4 v4 e4 d4 => ?_)
    obtain ⟨c4, rfl, hc4⟩ := dpm_msg d4
    have hv4 := e4 _ _ hv3
    have hob4 := e4 _ _ hob3
    have hln4 := e4 _ _ (ku.out _ _ (nin_c nlN.symm List.not_mem_nil) hLN2)
    have hD4 := e4 _ _ (ku.out _ _ (nin_c nlD.symm List.not_mem_nil) hDb)
    have k04 : True ∧ Kp [lk, LN] H H4 := ⟨trivial, (k0b.2.trans (ku.sub fun x hx => by rw [List.mem_singleton.mp hx]; exact List.mem_cons_self ..)).trans e4.kp⟩
    repeat' walk_at "st"
    rename_i Hm
    refine k2 hk' _ L (kp_fresh (k04.2.trans ke.kp) ku (subf_c (.inr hL) subf_n)) hL ⟨ku.out _ _ (nin_c nLlk.symm List.not_mem_nil) (ke _ _ hob4), ku.out _ _ (nin_c nLD.symm List.not_mem_nil) (ke _ _ hD4), ku.out _ _ (nin_c nLN.symm List.not_mem_nil) (ke _ _ hln4)⟩ ⟨_, hu, ?_⟩
    exact tps_kp ku (.cons (q_tp hn (ke _ _ hc4)) .nil)
/-! ### what is due -/
def cut (t : Int) (q : List (Int × Int)) : List (Int × Int) := q.dropWhile fun x => decide (x.1 ≤ t)
def outq (t : Int) (q : List (Int × Int)) : List (Int × Int) := q.takeWhile fun x => decide (x.1 ≤ t)
def posK (kx : Nat → K2) (n : Nat) (p : K2) : Nat := ((List.range n).find? fun k => decide (kx k = p)).getD 0
theorem posK_at {kx : Nat → K2} {n k : Nat} (inj : Inj n kx) (h : k < n) : posK kx n (kx k) = k := by
  unfold posK
  cases e : (List.range n).find? fun j => decide (kx j = kx k) with
  | none =>
    rw [List.find?_eq_none] at e
    have := e k (List.mem_range.mpr h)
    simp at this
  | some j =>
    have h1 := List.find?_some e
    have h2 := List.mem_range.mp (List.mem_of_find?_eq_some e)
    exact inj j k h2 h (of_decide_eq_true h1)
def fnd (kx : Nat → K2) (n : Nat) (qx : Nat → List (Int × Int)) (t : Int) (ks : List K2) : List (Int × Int) := ks.flatMap fun p => (outq t (qx (posK kx n p))).map fun x => (p.2, x.2)
theorem fnd_snoc {kx : Nat → K2} {n : Nat} {qx : Nat → List (Int × Int)} {t : Int} {ks : List K2} {p : K2} : fnd kx n qx t (ks ++ [p]) = fnd kx n qx t ks ++ (outq t (qx (posK kx n p))).map fun x => (p.2, x.2) := by
  unfold fnd
  rw [List.flatMap_append]
  simp
theorem cut_done {t : Int} {done rest : List (Int × Int)} (h : ∀ x ∈ done, x.1 ≤ t) (hr : ∀ x r, rest = x :: r → ¬ x.1 ≤ t) : outq t (done ++ rest) = done ∧ cut t (done ++ rest) = rest := by
  induction done with
  | nil =>
    cases rest with
    | nil => exact ⟨rfl, rfl⟩
    | cons x r =>
      have := hr x r rfl
      unfold outq cut
      rw [List.nil_append, List.takeWhile_cons_of_neg (by simpa using this), List.dropWhile_cons_of_neg (by simpa using this)]
      exact ⟨rfl, rfl⟩
  | cons x r ih =>
    have hx := h x (List.mem_cons_self ..)
    obtain ⟨i1, i2⟩ := ih fun y hy => h y (List.mem_cons_of_mem _ hy)
    unfold outq cut at *
    rw [List.cons_append, List.takeWhile_cons_of_pos (by simpa using hx), List.dropWhile_cons_of_pos (by simpa using hx), i1, i2]
    exact ⟨rfl, rfl⟩
def afam (a : Nat → Addr) (n : Nat) : List Addr := (List.range n).map a
theorem afam_nin {a : Nat → Addr} {n : Nat} {x : Addr} (h : ∀ k, k < n → a k ≠ x) : x ∉ afam a n := fun z => by
  obtain ⟨k, hk, e⟩ := List.mem_map.mp z
  exact h k (List.mem_range.mp hk) e
theorem afam_mem {a : Nat → Addr} {n k : Nat} (h : k < n) : a k ∈ afam a n := List.mem_map.mpr ⟨k, List.mem_range.mpr h, rfl⟩
theorem mo_truth {K : PySem.W.Frag} {te : TE} (h : MoE te) : MoT (fun σ H (Q : Bool → Hp → Prop) => te σ H fun x H' => ∃ k, TruV K x H' k ∧ Q k H') := fun σ H Q Q' k q => h _ _ _ _ (fun x H1 ⟨b, e, q⟩ => ⟨b, e, k _ _ q⟩) q
/-- a queue's first -/
theorem tps_hd {H : Hp} {vs : List V} {x : Int × Int} {r : List (Int × Int)} (h : Tps H vs ((x :: r).map qd)) : ∃ e c us, vs = .ref e :: us ∧ H e = some (.tup [.int x.1, .ref c]) ∧ H c = some (.tup [.str "m", .int x.2]) ∧ Tps H us (r.map qd) := by
  cases h with
  | cons a t =>
    cases a with
    | tup ha hb =>
      cases hb with
      | cons b1 hb =>
        cases b1
        cases hb with
        | cons b2 hb =>
          cases hb
          cases b2 with
          | tup hc hd =>
            cases hd with
            | cons d1 hd =>
              cases d1
              cases hd with
              | cons d2 hd =>
                cases d2
                cases hd
                exact ⟨_, _, _, rfl, ha, hc, t⟩
theorem nodup_take {α : Type} {l : List α} {i : Nat} {x : α} (h : l.Nodup) (hx : l[i]? = some x) : x ∉ l.take i := fun z => by
  obtain ⟨j, hj, e⟩ := List.mem_iff_getElem.mp z
  have hi : i < l.length := (List.getElem?_eq_some_iff.mp hx).1
  have hj' : j < i := by rw [List.length_take] at hj; omega
  rw [List.getElem_take] at e
  have e2 : l[i] = x := (List.getElem?_eq_some_iff.mp hx).2
  exact List.pairwise_iff_getElem.mp h j i (by omega) hi hj' (e.trans e2.symm)
theorem nodup_keys {kx : Nat → K2} {n : Nat} (inj : Inj n kx) : ((List.range n).map kx).Nodup := by
  unfold List.Nodup
  rw [List.pairwise_map]
  refine List.Pairwise.imp_of_mem (fun {a b} ha hb hab z => ?_) List.nodup_range
  exact hab (inj a b (List.mem_range.mp ha) (List.mem_range.mp hb) z)
variable {C : Addr}
def sp_due (C : Addr) : Sp := fun vs H Q _ => ∃ (lk dx D LN : Addr) (dl : List Int) (m n : Nat) (kx : Nat → K2) (la : Nat → Addr) (qx : Nat → List (Int × Int)) (t : Int), vs = [.ref lk, .int t] ∧ LkAt C H lk dx D LN dl m kx la n ∧ n ≤ 200 ∧ Inj n kx ∧ (∀ i j, i < n → j < n → la i = la j → i = j) ∧ (∀ k, k < n → QAt H (la k) (qx k) ∧ (qx k).length ≤ 200) ∧
  ∀ H' F vs ks, SrtO.Srtd SrtO.lexB ks → SrtO.Stb SrtO.lexB ks ((List.range n).map kx) → Kp (afam la n) H H' → H F = none → H' F = some (.lst vs) → Tps H' vs ((fnd kx n qx t ks).map qd) → (∀ k, k < n → QAt H' (la k) (cut t (qx k))) → Q (.ref F) H'
theorem ok_due (T : Glo K w mg) (W : LkK K C) (D : DnM K C "due" "Links.due" s_Links_due p_Links_due) : MetC P w K mg base C "due" 1 p_Links_due (sp_due C) := by
  obtain ⟨hc, n1, n2, n3⟩ := W
  refine D.ok sc_Links_due (fun vs H Q E h => ?_) (fun f cdv A outer s H vs Q E hr h => ?_)
  · obtain ⟨_, _, _, _, _, _, _, _, _, _, _, rfl, _⟩ := h
    rfl
  obtain ⟨lk, dx, DD, LN, dl, m, n, kx, la, qx, t, rfl, lka, hn0, inj, linj, hq, kk⟩ := h
  refine ⟨_, (pss_cons (ps_set (i := 2) sc_Links_due.nd rfl (by first | exact Or.inl rfl | exact Or.inr rfl) (pe_lst pa_nil)) (pss_cons (ps_set (i := 3) sc_Links_due.nd rfl (by first | exact Or.inl rfl | exact Or.inr rfl) (pe_callB (call_sortedDT rfl) rfl T.n_sorted (by decide +kernel) (pa_cons (pe_fld (pv 0) rfl) pa_nil))) (pss_cons (ps_for PassesOwn.never rfl (pi_list (pv 3)) (pg_name (i := 4) sc_Links_due.nd rfl (by first | exact Or.inl rfl | exact Or.inr rfl)) (pss_cons (ps_set (i := 5) sc_Links_due.nd rfl (by first | exact Or.inl rfl | exact Or.inr rfl) (pe_dget (hu_of hr) (pe_fld (pv 0) rfl) (pv 4) (fun _ _ => rfl))) (pss_one (ps_while PassesOwn.never (PW.pt (pw_and (pt_truth (pv 5) (by intro _; rfl)) (pw_and1 (pt_cmpR op_le (pe_ix ix_seq (pe_ix ix_seq (pv 5) pe_int (fun _ _ => rfl)) pe_int (fun _ _ => rfl)) (pv 1) (nomark _))))) (pss_cons (ps_asg (pe_bm PySem.F.plainAttrs_list PySem.F.slot_list_pop PySem.F.type_list_pop mt_popAt (pv 5) (pa_cons pe_int pa_nil)) (pg_tup rfl (pgs_cons (pg_name (i := 6) sc_Links_due.nd rfl (by first | exact Or.inl rfl | exact Or.inr rfl)) (pgs_cons (pg_name (i := 7) sc_Links_due.nd rfl (by first | exact Or.inl rfl | exact Or.inr rfl)) pgs_nil)))) (pss_one (ps_expr (pe_bm PySem.F.plainAttrs_list PySem.F.slot_list_append PySem.F.type_list_append mt_append (pv 2) (pa_cons (pe_tup (pa_cons (pe_ix ix_seq (pv 4) pe_int (fun _ _ => rfl)) (pa_cons (pv 7) pa_nil))) pa_nil))))))))) (pss_one (ps_ret (pv 2)))))), ?_⟩
  try dsimp only [cxOf, Cx.nox]
  have hob := lka.ob
  have hln := lka.ln
  simp only [lfl] at hob
  repeat' walk_at "st"
  obtain ⟨F, rfl⟩ : ∃ x, x = p := ⟨_, rfl⟩
  obtain ⟨H1, rfl⟩ : ∃ x, x = Hn := ⟨_, rfl⟩
  have hF1 := hn
  have e1 := ke
  refine ⟨LN, tent kx la n, rfl, .inl (by rw [tent_row]; exact e1 _ _ hln), by unfold tent; rw [List.length_map, List.length_range]; omega, fun out DR hs hb hk hDR => ?_⟩
  rw [tent_keys] at hb
  generalize hqD : upd H1 DR _ = H2
  have e2 : Ex H1 H2 := by rw [← hqD]; exact Ex.mk hDR rfl
  have hDR2 : H2 DR = some (.lst (out.map fun x => V.ref x.2)) := at_new hqD
  have hFn : H F = none := hp
  clear hqD hn hp ke
  have hla : ∀ k, k < n → ∃ vs, H (la k) = some (.lst vs) := fun k h => by
    obtain ⟨⟨vs, h1, _⟩, _⟩ := hq k h
    exact ⟨vs, h1⟩
  have nFla : ∀ k, k < n → la k ≠ F := fun k h => (hla k h).elim fun vs h1 => ne_of_none h1 hFn
  have nDla : ∀ k, k < n → la k ≠ DR := fun k h => (hla k h).elim fun vs h1 => ne_of_none (e1 _ _ h1) hDR
  have nDF : DR ≠ F := (ne_of_none hF1 hDR).symm
  have hln2 := e2 _ _ (e1 _ _ hln)
  have hob2 := e2 _ _ (e1 _ _ lka.ob)
  have nLN : LN ∉ F :: afam la n := nin_c (ne_of_none hln hFn) (afam_nin fun k h => (hla k h).elim fun vs h1 => ne_knd h1 hln (by intro z; cases z))
  have nlk : lk ∉ F :: afam la n := nin_c (ne_of_none lka.ob hFn) (afam_nin fun k h => (hla k h).elim fun vs h1 => ne_knd h1 lka.ob (by intro z; cases z))
  have nDR : DR ∉ F :: afam la n := nin_c nDF (afam_nin nDla)
  have hnd : (out.map (·.1)).Nodup := hb.perm.nodup_iff.mpr (nodup_keys inj)
  have hlo : out.length = n := by have := hb.len; rw [List.length_map, List.length_map, List.length_range] at this; exact this
  have hq2 : ∀ k, k < n → QAt H2 (la k) (qx k) := fun k h => ((hq k h).1.ex e1).ex e2
  repeat' walk_at "st"
  refine w_list (xs := out.map fun x => V.ref x.2) (fun i σ H' => ∃ y4 y5 y6 y7 : Option V, σ = [some (.ref lk), some (.int t), some (.ref F), some (.ref DR), y4, y5, y6, y7] ∧ Kp (F :: afam la n) H2 H' ∧ (∃ vs, H' F = some (.lst vs) ∧ Tps H' vs ((fnd kx n qx t ((out.map (·.1)).take i)).map qd) ∧ vs.length ≤ i * 200) ∧ ∀ k, k < n → QAt H' (la k) (if kx k ∈ (out.map (·.1)).take i then cut t (qx k) else qx k)) ?_ ?_ ?_ ?_
  · exact ⟨_, _, _, _, rfl, Kp.refl _, ⟨[], e2 _ _ hF1, .nil, by simp⟩, fun k h => by simpa using hq2 k h⟩
  · rintro i σ H' _ ⟨y4, y5, y6, y7, rfl, k', _⟩
    exact sql (k'.out _ _ nDR hDR2)
  · rintro i x σ H' hx ⟨y4, y5, y6, y7, rfl, k', ⟨vs, hF', tF', lF'⟩, hq'⟩
    rw [List.getElem?_map] at hx
    obtain ⟨⟨pp, b⟩, hib, rfl⟩ := Option.map_eq_some_iff.mp hx
    have hbt : H1 b = some (.tup (kv2 pp)) := hk (pp, b) (List.mem_of_getElem? hib)
    have hio : (out.map (·.1))[i]? = some pp := by rw [List.getElem?_map, hib]; rfl
    obtain ⟨k, hkn, rfl⟩ := List.mem_map.mp (hb.perm.mem_iff.mp (List.mem_of_getElem? hio))
    have hkn := List.mem_range.mp hkn
    have hbt' := k'.tup _ _ (e2 _ _ hbt)
    have hln' := k'.out _ _ nLN hln2
    have hob' := k'.out _ _ nlk hob2
    simp only [lfl] at hob'
    have hnt := nodup_take hnd hio
    have hqk := hq' k hkn
    rw [if_neg hnt] at hqk
    have hi50 : i < 200 := by have := (List.getElem?_eq_some_iff.mp hib).1; omega
    repeat' walk_at "st"
    have hg : DGet H' LN (.ref b) (some (.ref (la k))) := by
      have := DGet.t (k := kk2 (kx k)) hln' hbt'
      rw [trow_at n inj hkn] at this
      exact this
    refine ⟨LN, .ref (la k), rfl, hg, ?_⟩
    repeat' walk_at "st"
    have etk : (out.map (·.1)).take (i + 1) = (out.map (·.1)).take i ++ [kx k] := by rw [List.take_add_one, hio]; rfl
    have lqk := (hq k hkn).2
    obtain ⟨vl0, hvl, tvl⟩ := hqk
    have nlF := nFla k hkn
    have fin : ∀ (H2' : Hp) (dn rs : List (Int × Int)) (vl vf : List V), qx k = dn ++ rs → (∀ x ∈ dn, x.1 ≤ t) → (∀ x r, rs = x :: r → ¬ x.1 ≤ t) → Kp [la k, F] H' H2' → H2' (la k) = some (.lst vl) → Tps H2' vl (rs.map qd) → H2' F = some (.lst vf) → Tps H2' vf ((fnd kx n qx t ((out.map (·.1)).take i) ++ dn.map fun x => ((kx k).2, x.2)).map qd) → vf.length = vs.length + dn.length →
        Kp (F :: afam la n) H2 H2' ∧ (∃ vs, H2' F = some (.lst vs) ∧ Tps H2' vs ((fnd kx n qx t ((out.map (·.1)).take (i + 1))).map qd) ∧ vs.length ≤ (i + 1) * 200) ∧ ∀ k, k < n → QAt H2' (la k) (if kx k ∈ (out.map (·.1)).take (i + 1) then cut t (qx k) else qx k) := by
      intro H2' dn rs vl vf eq hdn hrs k2 h1 t1 h2 t2 lf
      obtain ⟨o1, o2⟩ := cut_done hdn hrs
      rw [← eq] at o1 o2
      have ldn : dn.length ≤ 200 := by have := congrArg List.length eq; rw [List.length_append] at this; omega
      refine ⟨k'.trans (k2.sub fun x hx => ?_), ⟨vf, h2, ?_, by rw [lf]; omega⟩, fun j hj => ?_⟩
      · simp only [List.mem_cons, List.not_mem_nil, or_false] at hx
        rcases hx with rfl | rfl
        · exact List.mem_cons_of_mem _ (afam_mem hkn)
        · exact List.mem_cons_self ..
      · rw [etk, fnd_snoc, posK_at inj hkn, o1]
        exact t2
      · by_cases c : j = k
        · subst c
          rw [if_pos (by rw [etk]; exact List.mem_append_right _ (List.mem_singleton.mpr rfl)), o2]
          exact ⟨vl, h1, t1⟩
        · have n1 : la j ∉ [la k, F] := nin_c (fun z => c (linj j k hj hkn z)) (nin_c (nFla j hj) List.not_mem_nil)
          have e1 : (kx j ∈ (out.map (·.1)).take (i + 1)) ↔ (kx j ∈ (out.map (·.1)).take i) := by
            rw [etk, List.mem_append, List.mem_singleton]
            exact ⟨fun z => z.elim id fun z => absurd (inj j k hj hkn z) c, .inl⟩
          have q1 := (hq' j hj).kp k2 n1
          by_cases c2 : kx j ∈ (out.map (·.1)).take i
          · rw [if_pos c2] at q1
            rw [if_pos (e1.mpr c2)]
            exact q1
          · rw [if_neg c2] at q1
            rw [if_neg fun z => c2 (e1.mp z)]
            exact q1
    refine w_while (fun mm σ H2' => ∃ (dn rs : List (Int × Int)) (vl vf : List V) (y6 y7 : Option V), mm = rs.length ∧ qx k = dn ++ rs ∧ (∀ x ∈ dn, x.1 ≤ t) ∧ σ = [some (.ref lk), some (.int t), some (.ref F), some (.ref DR), some (.ref b), some (.ref (la k)), y6, y7] ∧ Kp [la k, F] H' H2' ∧ H2' (la k) = some (.lst vl) ∧ Tps H2' vl (rs.map qd) ∧ H2' F = some (.lst vf) ∧ Tps H2' vf ((fnd kx n qx t ((out.map (·.1)).take i) ++ dn.map fun x => ((kx k).2, x.2)).map qd) ∧ vf.length = vs.length + dn.length) (qx k).length ⟨[], qx k, vl0, vs, y6, y7, rfl, rfl, by simp, rfl, Kp.refl _, hvl, tvl, hF', by simpa using tF', by simp⟩ ?_ ?_
    · rintro mm σ H2' ⟨dn, rs, vl, vf, y6, y7, rfl, eq, hdn, rfl, k2, h1, t1, h2, t2, lf⟩
      have ldn : dn.length + rs.length ≤ 200 := by have := congrArg List.length eq; rw [List.length_append] at this; omega
      cases rs with
      | nil =>
        cases t1
        repeat' walk_at "st"
        exact ⟨_, _, _, _, rfl, fin H2' dn [] [] vf eq hdn (fun x r z => by cases z) k2 h1 .nil h2 t2 lf⟩
      | cons x r =>
        obtain ⟨e, cc, us, rfl, he, hcc, tu⟩ := tps_hd t1
        have hbb := k2.tup _ _ hbt'
        repeat' walk_at "st"
        · rename_i Ha kua hua Hb
          have nkF : la k ∉ [F] := nin_c (nFla k hkn) List.not_mem_nil
          have tf := tps_kp ku (tps_app (tps_ex ke (tps_kp kua t2)) (.cons (q_tp hn (ke _ _ (kua.tup _ _ hcc))) .nil))
          refine ⟨r.length, Nat.lt_succ_self _, dn ++ [x], r, us, _, _, _, rfl, by rw [eq, List.append_assoc]; rfl, fun y hy => ?_, rfl, by walk_at "kpx", ku.out _ _ nkF (ke _ _ hua), tps_kp ku (tps_ex ke (tps_kp kua tu)), hu, ?_, by rw [List.length_append, List.length_append, lf, List.length_singleton, List.length_singleton]; omega⟩
          · rcases List.mem_append.mp hy with hy | hy
            · exact hdn y hy
            · rw [List.mem_singleton.mp hy]
              assumption
          · have ef : (fnd kx n qx t ((out.map (·.1)).take i) ++ (dn ++ [x]).map fun x => ((kx k).2, x.2)).map qd = (fnd kx n qx t ((out.map (·.1)).take i) ++ dn.map fun x => ((kx k).2, x.2)).map qd ++ [qd ((kx k).2, x.2)] := by simp [List.map_append]
            rw [ef]
            exact tf
        · exact ⟨_, _, _, _, rfl, fin H2' dn (x :: r) _ vf eq hdn (fun x' r' z => by cases z; assumption) k2 h1 t1 h2 t2 lf⟩
    · intro σ H Q Q' hQ h
      exact mo_and (mo_truth mo_var) (mo_test (mo_op mo_I0 (mo_op mo_ix (mo_op mo_ix mo_var mo_c) mo_c) mo_var)) _ _ _ _ hQ h
  · rintro σ H' ⟨y4, y5, y6, y7, rfl, k', ⟨vs, hF', tF', lF'⟩, hq'⟩
    rw [List.length_map, ← List.length_map (f := fun x : K2 × Addr => x.1), List.take_length] at tF' hq'
    repeat' walk_at "st"
    refine kk _ F vs _ hs hb ⟨fun a xs h => k'.tup _ _ (e2 _ _ (e1 _ _ h)), fun a o h h1 => k'.out _ _ (nin_c (ne_of_none h1 hFn) h) (e2 _ _ (e1 _ _ h1))⟩ hFn hF' tF' (fun k h => ?_)
    have := hq' k h
    rw [if_pos (hb.perm.mem_iff.mpr (List.mem_map.mpr ⟨k, List.mem_range.mpr h, rfl⟩))] at this
    exact this
/-! ### walks of a locked dict, empty, the links made -/
section
variable {K : PySem.W.Frag} {σ : L2.St} {H : Hp} {Q : VK} {td : TE} {R : It → Hp → Prop} {nx bk ct : L2.St → Hp → Prop} {rt : VK}
theorem upd_back {H : Hp} {d : Addr} {u v : HO} (h : H d = some u) : upd (upd H d v) d u = H := by
  funext x
  by_cases c : x = d
  · rw [c, upd_same, h]
  · rw [upd_ne c, upd_ne c]
theorem r_keysT (q : td σ H fun x H1 => ∃ d o, x = .ref d ∧ ((∃ kvs, H1 d = some (.frz o (.dK kvs)) ∧ R (Itk d o kvs) H1) ∨ ∃ kvs, H1 d = some (.frz o (.dT kvs)) ∧ R (Itkt d o kvs) H1)) : iKeys td σ H R := q
end
section
variable {σ : L2.St} {H : Hp} {g : TG} {ts : TS} {nx : L2.St → Hp → Prop} {rt : VK} {d : Addr} {o : Obj} {kvs : List (List Key × V)}
theorem w_keysT (Pv : Nat → L2.St → Hp → Prop) (h0 : Pv 0 σ H) (hG : ∀ i σ H, i ≤ kvs.length → Pv i σ H → H d = some (.frz o (.dT kvs)))
    (hs : ∀ i x σ H, i < kvs.length → Pv i σ H → (∃ (k : List Key) (v : V) (q : Addr), kvs[i]? = some (k, v) ∧ x = .ref q ∧ H q = some (.tup (k.map kV))) → g x σ H fun σ2 H2 => ts ⟨Pv (i + 1), rt, nx, Pv (i + 1)⟩ σ2 H2) (hd : ∀ σ H, Pv kvs.length σ H → nx σ H) :
    ∃ W : Nat → Nat → L2.St → Hp → Prop, (∃ m, W 0 m σ H) ∧ ∀ i m σ H, W i m σ H →
      ((Itkt d o kvs).stop i H ∧ nx σ H) ∨ ((Itkt d o kvs).go i H ∧ ∃ N : L2.St → Hp → Prop, (∀ σ' H', N σ' H' → ∃ m', m' < m ∧ W (i + 1) m' σ' H') ∧ ∀ x H', (Itkt d o kvs).yld i H x H' → g x σ H' fun σ2 H2 => ts ⟨N, rt, nx, N⟩ σ2 H2) :=
  for_it (D := ⟨nx, rt, nx, nx⟩) walk_keysT Pv h0 hG (fun i x σ H H' hi p y => by
    obtain ⟨e, y⟩ := y
    subst e
    exact hs i x σ _ hi p y) hd
theorem lc_keysT {tt : TT} {te : TE} {vs : List Nat} {H1 : Hp} {D : Addr} {Qd : Hp → Prop} (Pv : Nat → Hp → Prop) (h0 : Pv 0 (upd H1 D (.lst []))) (hG : ∀ i H, i ≤ kvs.length → Pv i H → H d = some (.frz o (.dT kvs)))
    (hs : ∀ i x H, i < kvs.length → Pv i H → (∃ (k : List Key) (v : V) (q : Addr), kvs[i]? = some (k, v) ∧ x = .ref q ∧ H q = some (.tup (k.map kV))) → g x (wipe σ vs) H fun σ2 H2 => wipe σ2 vs = wipe σ vs ∧ tt σ2 H2 fun b H3 =>
      if b = true then te σ2 H3 fun y H4 => ∃ acc, H4 D = some (.lst acc) ∧ acc.length < sizeLine ∧ Pv (i + 1) (upd H4 D (.lst (acc ++ [y]))) else Pv (i + 1) H3) (hd : ∀ H, Pv kvs.length H → Qd H) :
    ∃ W : Nat → Nat → Hp → Prop, (∃ m, W 0 m (upd H1 D (.lst []))) ∧ ∀ i m H, W i m H →
      ((Itkt d o kvs).stop i H ∧ Qd H) ∨ ((Itkt d o kvs).go i H ∧ ∃ Nx : Hp → Prop, (∀ H', Nx H' → ∃ m', m' < m ∧ W (i + 1) m' H') ∧ ∀ x H', (Itkt d o kvs).yld i H x H' → g x (wipe σ vs) H' fun σ2 H2 => wipe σ2 vs = wipe σ vs ∧ tt σ2 H2 fun b H3 =>
        if b = true then te σ2 H3 fun y H4 => ∃ acc, H4 D = some (.lst acc) ∧ acc.length < sizeLine ∧ Nx (upd H4 D (.lst (acc ++ [y]))) else Nx H3) :=
  lc_it walk_keysT Pv h0 hG (fun i x H H' hi p y => by
    obtain ⟨e, y⟩ := y
    subst e
    exact hs i x _ hi p y) hd
theorem rd_frz (h : H d = some (.frz o (.dT kvs))) : Rd H d (.dT kvs) := .inr ⟨o, h⟩
end
theorem trow_ix {kx : Nat → K2} {a : Nat → Addr} {n i : Nat} (h : i < n) : (trow kx a n)[i]? = some (kk2 (kx i), V.ref (a i)) := by
  unfold trow
  rw [List.getElem?_map, List.getElem?_range h]
  rfl
variable {C : Addr}
def sp_linit (C : Addr) : Sp := fun vs H Q _ => ∃ (lk dx ds : Addr) (dl : List Int), vs = [.ref lk, .ref ds] ∧ H lk = some (.ins C dx []) ∧ H ds = some (.lst (dl.map V.int)) ∧ ∀ H' D LN kx la, Kp [lk] H H' → H D = none → H LN = none → LkAt C H' lk dx D LN dl 0 kx la 0 → Q .non H'
theorem ok_linit (T : Glo K w mg) (W : LkK K C) (D : DnI K mg "Links" "Links.__init__" C s_Links___init__ p_Links___init__) : MakC P w K mg base "Links" C 1 p_Links___init__ (sp_linit C) := by
  obtain ⟨hc, n1, n2, n3⟩ := W
  refine D.ok sc_Links___init__ (fun vs H Q E h => ?_) (fun f cdv A outer s H vs Q E hr h => ?_)
  · obtain ⟨_, _, _, _, rfl, _⟩ := h
    rfl
  obtain ⟨lk, dx, ds, dl, rfl, hob, hds, q⟩ := h
  refine ⟨_, (pss_cons (ps_fld (pv 0) (pe_callTy call_listA rfl T.n_list (by decide +kernel) (pa_cons (pv 1) pa_nil)) rfl) (pss_cons (ps_fld (pv 0) pe_int rfl) (pss_one (ps_fld (pv 0) pe_dnewT rfl)))), ?_⟩
  try dsimp only [cxOf, Cx.nox]
  have nds : ds ≠ lk := ne_knd hds hob (by intro z; cases z)
  repeat' walk_at "st"
  rename_i D1 G1 hD1 kD1 hD1' G2 kG2 hG2 G3 kG3 hG3 G4
  have npl : p ≠ lk := by walk_at "ne1"
  have nDl : D1 ≠ lk := by walk_at "ne1"
  exact q _ D1 p (fun _ => (0, 0)) (fun _ => 0) (by walk_at "kpx") hD1 (by walk_at "frees") ⟨hu, by walk_at "lift", show Hn p = some (.dT []) by walk_at "lift"⟩
def sp_empty (C : Addr) : Sp := fun vs H Q _ => ∃ (lk dx D LN : Addr) (dl : List Int) (m n : Nat) (kx : Nat → K2) (la : Nat → Addr) (qx : Nat → List (Int × Int)), vs = [.ref lk] ∧ LkAt C H lk dx D LN dl m kx la n ∧ Inj n kx ∧ (∀ k, k < n → QAt H (la k) (qx k)) ∧ Q (.bl ((List.range n).all fun k => (qx k).isEmpty)) H
theorem ok_empty (T : Glo K w mg) (W : LkK K C) (D : DnM K C "empty" "Links.empty" s_Links_empty p_Links_empty) : MetC P w K mg base C "empty" 1 p_Links_empty (sp_empty C) := by
  obtain ⟨hc, n1, n2, n3⟩ := W
  refine D.ok sc_Links_empty (fun vs H Q E h => ?_) (fun f cdv A outer s H vs Q E hr h => ?_)
  · obtain ⟨_, _, _, _, _, _, _, _, _, _, rfl, _⟩ := h
    rfl
  obtain ⟨lk, dx, DD, LN, dl, m, n, kx, la, qx, rfl, lka, inj, hq, kk⟩ := h
  refine ⟨_, (pss_cons (ps_lock (ps_for PassesOwn.never rfl (pi_keys (pe_fld (pv 0) rfl)) (pg_name (i := 1) sc_Links_empty.nd rfl (by first | exact Or.inl rfl | exact Or.inr rfl)) (pss_one (ps_if (pt_truth (pe_dget (hu_of hr) (pe_fld (pv 0) rfl) (pv 1) (fun _ _ => rfl)) (by intro _; rfl)) (pss_one (ps_ret pe_bl)) pss_nil)))) (pss_one (ps_ret pe_bl))), ?_⟩
  try dsimp only [cxOf, Cx.nox]
  have hob := lka.ob
  have hln := lka.ln
  simp only [lfl] at hob
  repeat' walk_at "st"
  refine ⟨LN, .dT (trow kx la n), hln, trivial, fun od => ?_⟩
  generalize hG : upd H LN _ = H0
  have kG : Kp [LN] H H0 := by
    rw [← hG]
    exact kp_one hln (by intro _ z; cases z)
  have hG' : H0 LN = some (.frz od (.dT (trow kx la n))) := at_new hG
  have hbk : upd H0 LN (.dT (trow kx la n)) = H := by rw [← hG]; exact upd_back hln
  have hob0 := kG.out _ _ (nin_c (ne_knd lka.ob hln (by intro z; cases z)) List.not_mem_nil) hob
  clear hG hob
  repeat' walk_at "st"
  refine r_keysT ?_
  repeat' walk_at "st"
  refine ⟨LN, od, rfl, .inr ⟨_, hG', ?_⟩⟩
  refine w_keysT (fun i σ H' => ∃ y : Option V, σ = [some (.ref lk), y] ∧ H' = H0 ∧ ∀ k, k < i → qx k = []) ?_ ?_ ?_ ?_
  · exact ⟨_, rfl, rfl, fun k h => by omega⟩
  · rintro i σ H' _ ⟨y, rfl, rfl, _⟩
    exact hG'
  · rintro i x σ H' hi ⟨y, rfl, rfl, hqi⟩ ⟨k, v, b, hik, rfl, hb⟩
    rw [trow_len] at hi
    rw [trow_ix hi] at hik
    cases hik
    obtain ⟨vs, hv, tv⟩ := hq i hi
    have hv0 : H' (la i) = some (.lst vs) := kG.out _ _ (nin_c (ne_knd hv hln (by intro z; cases z)) List.not_mem_nil) hv
    have tv0 := tps_kp kG tv
    have hg : DGet H' LN (.ref b) (some (.ref (la i))) := .inr ⟨trow kx la n, kk2 (kx i), b, rd_frz hG', rfl, hb, by rw [trow_at n inj hi]⟩
    repeat' walk_at "st"
    refine ⟨LN, .ref (la i), rfl, hg, ?_⟩
    cases hqq : qx i with
    | nil =>
      rw [hqq] at tv0
      cases tv0
      repeat' walk_at "st"
      refine ⟨_, rfl, rfl, fun k h => ?_⟩
      by_cases c : k = i
      · rw [c]
        exact hqq
      · exact hqi k (by omega)
    | cons z r =>
      rw [hqq] at tv0
      obtain ⟨e, cc, us, rfl, _, _, _⟩ := tps_hd tv0
      have hno : ((List.range n).all fun k => (qx k).isEmpty) = false := by
        rw [List.all_eq_false]
        exact ⟨i, List.mem_range.mpr hi, by rw [hqq]; simp⟩
      rw [hno] at kk
      repeat' walk_at "st"
      refine ⟨hG', ?_⟩
      rw [hbk]
      exact kk
  · rintro σ H' ⟨y, rfl, rfl, hqi⟩
    rw [trow_len] at hqi
    have hyes : ((List.range n).all fun k => (qx k).isEmpty) = true := by
      rw [List.all_eq_true]
      intro k hk
      rw [hqi k (List.mem_range.mp hk)]
      rfl
    rw [hyes] at kk
    refine ⟨hG', ?_⟩
    rw [hbk]
    repeat' walk_at "st"
    exact kk
/-! ### the world of the law -/
structure Wld (C : Addr) (H : Hp) (st c lk dx DD LN RW GV : Addr) (dl gl : List Int) (m n : Nat) (kx : Nat → K2) (la ra : Nat → Addr) (qx : Nat → List (Int × Int)) : Prop where
  lka : LkAt C H lk dx DD LN dl m kx la n
  rw : H RW = some (.dT (trow kx ra n))
  gv : H GV = some (.lst (gl.map V.int))
  inj : Inj n kx
  nLR : LN ≠ RW
  sD : DD ∉ [st, c]
  sG : GV ∉ [st, c]
  fa : ∀ k, k < n → la k ∉ [st, c, DD, GV]
  fb : ∀ k, k < n → ra k ∉ [st, c, DD, GV]
  fx : ∀ i j, i < n → j < n → la i ≠ ra j
  fl : ∀ i j, i < n → j < n → la i = la j → i = j
  fr : ∀ i j, i < n → j < n → ra i = ra j → i = j
  ql : ∀ k, k < n → QAt H (la k) (qx k)
  qr : ∀ k, k < n → QAt H (ra k) (qx k)
  len : ∀ k, k < n → (qx k).length ≤ m
  nm : n ≤ m
section
variable {C : Addr} {H H' : Hp} {st c lk dx DD LN RW GV : Addr} {dl gl : List Int} {m n : Nat} {kx : Nat → K2} {la ra : Nat → Addr} {qx : Nat → List (Int × Int)}
theorem Wld.kp {M : List Addr} (w : Wld C H st c lk dx DD LN RW GV dl gl m n kx la ra qx) (k : Kp M H H') (n1 : lk ∉ M) (n2 : DD ∉ M) (n3 : LN ∉ M) (n4 : RW ∉ M) (n5 : GV ∉ M) (n6 : ∀ k, k < n → la k ∉ M) (n7 : ∀ k, k < n → ra k ∉ M) : Wld C H' st c lk dx DD LN RW GV dl gl m n kx la ra qx :=
  ⟨w.lka.kp k n1 n2 n3, k.out _ _ n4 w.rw, k.out _ _ n5 w.gv, w.inj, w.nLR, w.sD, w.sG, w.fa, w.fb, w.fx, w.fl, w.fr, fun j h => (w.ql j h).kp k (n6 j h), fun j h => (w.qr j h).kp k (n7 j h), w.len, w.nm⟩
theorem Wld.ex (w : Wld C H st c lk dx DD LN RW GV dl gl m n kx la ra qx) (k : Ex H H') : Wld C H' st c lk dx DD LN RW GV dl gl m n kx la ra qx :=
  w.kp (M := []) k.kp List.not_mem_nil List.not_mem_nil List.not_mem_nil List.not_mem_nil List.not_mem_nil (fun _ _ => List.not_mem_nil) fun _ _ => List.not_mem_nil
theorem nin_st {x : Addr} (h : x ∉ [st, c, DD, GV]) : x ∉ [st, c] := fun z => h (by
  simp only [List.mem_cons, List.not_mem_nil, or_false] at z ⊢
  rcases z with z | z
  · exact .inl z
  · exact .inr (.inl z))
theorem st_lists {st c : Addr} {H : Hp} {x : Addr} {u : HO} (so : StOk st c H) (h : H x = some u) (n : ∀ xs, u ≠ .lst xs) : x ∉ [st, c] := by
  obtain ⟨⟨ns, z, a, b, d⟩, e⟩ := so
  exact nin_c (ne_knd h a (n _)) (nin_c (ne_knd h b (n _)) List.not_mem_nil)
theorem Wld.draws (w : Wld C H st c lk dx DD LN RW GV dl gl m n kx la ra qx) (so : StOk st c H) (k : Kp [st, c] H H') : Wld C H' st c lk dx DD LN RW GV dl gl m n kx la ra qx :=
  w.kp k (st_lists so w.lka.ob (by intro _ z; cases z)) w.sD (st_lists so w.lka.ln (by intro _ z; cases z)) (st_lists so w.rw (by intro _ z; cases z)) w.sG (fun j h => nin_st (w.fa j h)) fun j h => nin_st (w.fb j h)
end
/-- each key's place, and the order of a sorted list of the keys -/
theorem keys_uniq {ks ks' : List K2} {kx : Nat → K2} {n : Nat} (h1 : SrtO.Srtd SrtO.lexB ks) (h2 : SrtO.Stb SrtO.lexB ks ((List.range n).map kx)) (h1' : SrtO.Srtd SrtO.lexB ks') (h2' : SrtO.Stb SrtO.lexB ks' ((List.range n).map kx)) : ks = ks' :=
  SrtO.stb_uniq swo_lexB h1 h1' ⟨h2.perm.trans h2'.perm.symm, fun x => (h2.cls x).trans (h2'.cls x).symm⟩
theorem q_depth (q : List (Int × Int)) : PyData.depthAll (q.map qd) ≤ 20 := fdepth_map q fun x _ => by simp [qd, PyData.depth, PyData.depthAll]
theorem q_lay (q : List (Int × Int)) : PyData.canLayAll0 (q.map qd) = true := flay_map q fun x _ => by
  simp [qd, PyData.canLay0, PyData.canLayAll0]
  decide +kernel
theorem c_due {C lk dx D LN : Addr} {dl : List Int} {m n : Nat} {kx : Nat → K2} {la : Nat → Addr} {qx : Nat → List (Int × Int)} {t : Int} {H : Hp} {Q : VK} {E : XK} (h1 : LkAt C H lk dx D LN dl m kx la n) (h2 : n ≤ 200) (h3 : Inj n kx) (h4 : ∀ i j, i < n → j < n → la i = la j → i = j) (h5 : ∀ k, k < n → QAt H (la k) (qx k) ∧ (qx k).length ≤ 200)
    (q : ∀ H' F vs ks, SrtO.Srtd SrtO.lexB ks → SrtO.Stb SrtO.lexB ks ((List.range n).map kx) → Kp (afam la n) H H' → H F = none → H' F = some (.lst vs) → Tps H' vs ((fnd kx n qx t ks).map qd) → (∀ k, k < n → QAt H' (la k) (cut t (qx k))) → Q (.ref F) H') : sp_due C [.ref lk, .int t] H Q E := ⟨lk, dx, D, LN, dl, m, n, kx, la, qx, t, rfl, h1, h2, h3, h4, h5, q⟩
def sp_law (K : PySem.W.Frag) : Sp := fun vs H Q _ => ∃ (a : Addr) (ns : List Int), vs = [.ref a] ∧ SqL K H a (ns.map V.int) ∧ ns.length ≤ 63 ∧ ∀ H', Q (.bl true) H'
theorem c_state {a : Addr} {ns : List Int} {H : Hp} {Q : VK} {E : XK} (h1 : SqL K H a (ns.map V.int)) (h2 : ns.length ≤ 63) (q : ∀ st c H', Ex H H' → H st = none → H c = none → StOk st c H' → Q (.ref st) H') : sp_state K [.ref a] H Q E := ⟨a, ns, rfl, h1, h2, q⟩
theorem ifsk {c : TT} {ts us : TS} {nx bk ct : L2.St → Hp → Prop} {rt : VK} {σ : L2.St} {H : Hp} (R : L2.St → Hp → Prop) (h : ∀ nx' : L2.St → Hp → Prop, (∀ σ' H', R σ' H' → nx' σ' H') → tIfS c ts us ⟨nx', rt, bk, ct⟩ σ H) (q : ∀ σ' H', R σ' H' → nx σ' H') : tIfS c ts us ⟨nx, rt, bk, ct⟩ σ H := h nx q
theorem q_makLk {C : Addr} {ds : Addr} {dl : List Int} {H : Hp} {Q : VK} (h1 : H ds = some (.lst (dl.map V.int)))
    (q : ∀ H' lk dx D LN kx la, Ex H H' → H lk = none → H D = none → H LN = none → LkAt C H' lk dx D LN dl 0 kx la 0 → Q (.ref lk) H') : makK C (sp_linit C) Q [.ref ds] H := by
  intro h dx nh ndx ne
  have fr : ∀ x, upd (upd H dx (.own h)) h (.ins C dx []) x = none → H x = none := fun x hx => by
    by_cases z : x = h
    · rw [z]; exact nh
    · rw [upd_ne z] at hx
      by_cases z2 : x = dx
      · rw [z2]; exact ndx
      · rw [upd_ne z2] at hx
        exact hx
  have ex : Ex H (upd (upd H dx (.own h)) h (.ins C dx [])) := fun b u hb => by rw [upd_ne (ne_of_none hb nh), upd_ne (ne_of_none hb ndx)]; exact hb
  refine ⟨h, dx, ds, dl, rfl, upd_same, ex _ _ h1, fun H' D LN kx la k a1 a2 lk => ⟨rfl, ?_⟩⟩
  exact q H' h dx D LN kx la (fun b u hb => k.out _ _ (nin_c (ne_of_none hb nh) List.not_mem_nil) (ex _ _ hb)) nh (fr _ a1) (fr _ a2) lk
theorem kp_updL {H H9 : Hp} {p : Addr} {xs : List V} {o' : HO} (h : H p = some (.lst xs)) (e : upd H p o' = H9) : Kp [p] H H9 := by
  rw [← e]
  exact kp_one h (by intro _ z; cases z)
/-- the delays as the law keeps them -/
def glOf (dl : List Int) : List Int := if dl.length = 0 then [1] else dl
theorem gl_pos (dl : List Int) : 0 < (glOf dl).length := by
  unfold glOf
  by_cases c : dl.length = 0
  · rw [if_pos c]; decide
  · rw [if_neg c]; omega
theorem gl_at {dl : List Int} {m : Nat} {z : Int} (e : z = ((m % (glOf dl).length : Nat) : Int)) : atI ((glOf dl).map V.int) z = some (.int (dlyOf dl m)) := by
  subst e
  have hl : m % (glOf dl).length < (glOf dl).length := Nat.mod_lt _ (gl_pos dl)
  refine atI_nat ?_
  rw [List.getElem?_map, List.getElem?_eq_getElem hl]
  show some (V.int _) = _
  congr 2
  unfold glOf dlyOf at *
  by_cases c : dl.length = 0
  · simp only [c, if_true]
    simp
  · simp only [c, if_false]
    simp only [c, if_false] at hl
    rw [List.getD_eq_getElem?_getD, List.getElem?_eq_getElem hl]
    rfl
theorem modI (m l : Nat) (h : 0 < l) : (m : Int) - (m : Int) / (l : Int) * (l : Int) = ((m % l : Nat) : Int) := by
  have h1 : (m : Int) / (l : Int) = ((m / l : Nat) : Int) := rfl
  rw [h1]
  have h2 := Nat.div_add_mod m l
  have h3 : ((m / l : Nat) : Int) * (l : Int) = ((m / l * l : Nat) : Int) := (Int.natCast_mul _ _).symm
  rw [h3]
  have h4 : m / l * l = l * (m / l) := Nat.mul_comm _ _
  omega
theorem gl_le {dl : List Int} (h : dl.length ≤ 7) : (glOf dl).length ≤ 7 := by
  unfold glOf
  by_cases c : dl.length = 0
  · rw [if_pos c]; decide
  · rw [if_neg c]; exact h
section
variable {C : Addr} {H : Hp} {st c lk dx DD LN RW GV : Addr} {dl gl : List Int} {m n : Nat} {kx : Nat → K2} {la ra : Nat → Addr} {qx : Nat → List (Int × Int)}
theorem fset_ne {a : Nat → Addr} {i k : Nat} {p : Addr} (h : k ≠ i) : fset a i p k = a k := if_neg h
theorem Wld.old {B P4 P5 : Hp} {k : Nat} {R : Addr} {x : Int × Int} (w : Wld C H st c lk dx DD LN RW GV dl gl m n kx la ra qx) (hkn : k < n) (kB : Kp [lk, la k] H B) (e4 : Ex B P4) (hR : B R = none) (soB : StOk st c B) (hlk : B lk ≠ none) (hla : B (la k) ≠ none) (kRW : Kp [RW] P4 P5) (lk4 : LkAt C P4 lk dx DD LN dl (m + 1) kx la n) (qa : QAt P4 (la k) (qx k ++ [x]))
    (h5 : P5 RW = some (.dT (trow kx (fset ra k R) n))) (hR4 : QAt P4 R (qx k ++ [x])) : Wld C P5 st c lk dx DD LN RW GV dl gl (m + 1) n kx la (fset ra k R) (fun j => if j = k then qx k ++ [x] else qx j) := by
  have k2 : Kp [lk, la k] H P4 := kB.trans e4.kp
  have kn : ∀ y u, H y = some u → y ∉ [lk, la k] → y ≠ R := fun y u h h2 => ne_of_none (kB.out _ _ h2 h) hR
  have q0 : ∀ j, j < n → ∃ vs, H (la j) = some (.lst vs) := fun j h => by
    obtain ⟨vs, h1, _⟩ := w.ql j h
    exact ⟨vs, h1⟩
  have r0 : ∀ j, j < n → ∃ vs, H (ra j) = some (.lst vs) := fun j h => by
    obtain ⟨vs, h1, _⟩ := w.qr j h
    exact ⟨vs, h1⟩
  have nla : ∀ y u, H y = some u → (∀ xs, u ≠ .lst xs) → ∀ j, j < n → y ≠ la j := fun y u h h2 j hj => (q0 j hj).elim fun vs h1 => ne_knd h h1 (h2 _)
  have nDl : DD ∉ [lk, la k] := nin_c (ne_knd w.lka.dl w.lka.ob (by intro z; cases z)) (nin_c (fun z => w.fa k hkn (by rw [← z]; simp)) List.not_mem_nil)
  have nGl : GV ∉ [lk, la k] := nin_c (ne_knd w.gv w.lka.ob (by intro z; cases z)) (nin_c (fun z => w.fa k hkn (by rw [← z]; simp)) List.not_mem_nil)
  have nrl : ∀ j, j < n → ra j ∉ [lk, la k] := fun j hj => nin_c ((r0 j hj).elim fun vs h1 => ne_knd h1 w.lka.ob (by intro z; cases z)) (nin_c (fun z => w.fx k j hkn hj z.symm) List.not_mem_nil)
  have nll : ∀ j, j < n → j ≠ k → la j ∉ [lk, la k] := fun j hj hjk => nin_c ((q0 j hj).elim fun vs h1 => ne_knd h1 w.lka.ob (by intro z; cases z)) (nin_c (fun z => hjk (w.fl j k hj hkn z)) List.not_mem_nil)
  have laR : ∀ j, j < n → la j ≠ R := fun j hj z => by
    by_cases c2 : j = k
    · exact hla (by rw [← c2, z]; exact hR)
    · exact (q0 j hj).elim fun vs h1 => kn _ _ h1 (nll j hj c2) z
  have raR : ∀ j, j < n → ra j ≠ R := fun j hj => (r0 j hj).elim fun vs h1 => kn _ _ h1 (nrl j hj)
  have lRW : ∀ j, j < n → la j ∉ [RW] := fun j hj => nin_c ((q0 j hj).elim fun vs h1 => ne_knd h1 w.rw (by intro z; cases z)) List.not_mem_nil
  have rRW : ∀ j, j < n → ra j ∉ [RW] := fun j hj => nin_c ((r0 j hj).elim fun vs h1 => ne_knd h1 w.rw (by intro z; cases z)) List.not_mem_nil
  have nRRW : R ≠ RW := fun z => by
    have : RW ∉ [lk, la k] := nin_c (ne_knd w.rw w.lka.ob (by intro z; cases z)) (nin_c (nla RW _ w.rw (by intro _ z; cases z) k hkn) List.not_mem_nil)
    exact kn _ _ w.rw this z.symm
  have sR : R ∉ [st, c] := st_fresh soB hR
  refine ⟨lk4.kp kRW (nin_c (ne_knd w.lka.ob w.rw (by intro z; cases z)) List.not_mem_nil) (nin_c (ne_knd w.lka.dl w.rw (by intro z; cases z)) List.not_mem_nil) (nin_c w.nLR List.not_mem_nil), h5, kRW.out _ _ (nin_c (ne_knd w.gv w.rw (by intro z; cases z)) List.not_mem_nil) (k2.out _ _ nGl w.gv), w.inj, w.nLR, w.sD, w.sG, w.fa, fun j hj => ?_, fun i j hi hj => ?_, w.fl, fun i j hi hj e => ?_, fun j hj => ?_, fun j hj => ?_, fun j hj => ?_, Nat.le_succ_of_le w.nm⟩
  · by_cases c2 : j = k
    · rw [c2, fset_eq]
      intro z
      simp only [List.mem_cons, List.not_mem_nil, or_false] at z sR
      rcases z with z | z | z | z
      · exact sR (.inl z)
      · exact sR (.inr z)
      · exact kn _ _ w.lka.dl nDl z.symm
      · exact kn _ _ w.gv nGl z.symm
    · rw [fset_ne c2]
      exact w.fb j hj
  · by_cases c2 : j = k
    · rw [c2, fset_eq]
      exact laR i hi
    · rw [fset_ne c2]
      exact w.fx i j hi hj
  · by_cases c1 : i = k
    · by_cases c2 : j = k
      · rw [c1, c2]
      · rw [c1, fset_eq, fset_ne c2] at e
        exact absurd e.symm (raR j hj)
    · by_cases c2 : j = k
      · rw [c2, fset_eq, fset_ne c1] at e
        exact absurd e (raR i hi)
      · rw [fset_ne c1, fset_ne c2] at e
        exact w.fr i j hi hj e
  · show QAt P5 (la j) (if j = k then _ else _)
    by_cases c2 : j = k
    · rw [if_pos c2, c2]
      exact qa.kp kRW (lRW k hkn)
    · rw [if_neg c2]
      exact ((w.ql j hj).kp k2 (nll j hj c2)).kp kRW (lRW j hj)
  · show QAt P5 (fset ra k R j) (if j = k then _ else _)
    by_cases c2 : j = k
    · rw [if_pos c2, c2, fset_eq]
      exact hR4.kp kRW (nin_c nRRW List.not_mem_nil)
    · rw [if_neg c2, fset_ne c2]
      exact ((w.qr j hj).kp k2 (nrl j hj)).kp kRW (rRW j hj)
  · show (if j = k then qx k ++ [x] else qx j).length ≤ m + 1
    have h1 := w.len j hj
    by_cases c2 : j = k
    · rw [if_pos c2, List.length_append, List.length_singleton]
      rw [c2] at h1
      omega
    · rw [if_neg c2]
      omega
end
section
variable {C : Addr} {H : Hp} {st c lk dx DD LN RW GV : Addr} {dl gl : List Int} {m n : Nat} {kx : Nat → K2} {la ra : Nat → Addr} {qx : Nat → List (Int × Int)}
theorem Wld.new {B P4 P5 : Hp} {pr : K2} {L R : Addr} {x : Int × Int} (w : Wld C H st c lk dx DD LN RW GV dl gl m n kx la ra qx) (hno : ∀ i, i < n → kx i ≠ pr) (kB : Kp [lk, LN] H B) (nL : H L = none) (hLB : B L ≠ none) (e4 : Ex B P4) (hR : B R = none) (so0 : StOk st c H) (soB : StOk st c B) (kRW : Kp [RW] P4 P5) (lk4 : LkAt C P4 lk dx DD LN dl (m + 1) (fun k => if k = n then pr else kx k) (fset la n L) (n + 1)) (qa : QAt P4 L [x])
    (h5 : P5 RW = some (.dT (trow (fun k => if k = n then pr else kx k) (fset ra n R) (n + 1)))) (hR4 : QAt P4 R [x]) : Wld C P5 st c lk dx DD LN RW GV dl gl (m + 1) (n + 1) (fun k => if k = n then pr else kx k) (fset la n L) (fset ra n R) (fun j => if j = n then [x] else qx j) := by
  have k2 : Kp [lk, LN] H P4 := kB.trans e4.kp
  have kn : ∀ y u, H y = some u → y ∉ [lk, LN] → y ≠ R := fun y u h h2 => ne_of_none (kB.out _ _ h2 h) hR
  have ln : ∀ y u, H y = some u → y ≠ L := fun y u h => ne_of_none h nL
  have q0 : ∀ j, j < n → ∃ vs, H (la j) = some (.lst vs) := fun j h => by
    obtain ⟨vs, h1, _⟩ := w.ql j h
    exact ⟨vs, h1⟩
  have r0 : ∀ j, j < n → ∃ vs, H (ra j) = some (.lst vs) := fun j h => by
    obtain ⟨vs, h1, _⟩ := w.qr j h
    exact ⟨vs, h1⟩
  have nlst : ∀ y vs, H y = some (.lst vs) → y ∉ [lk, LN] := fun y vs h => nin_c (ne_knd h w.lka.ob (by intro z; cases z)) (nin_c (ne_knd h w.lka.ln (by intro z; cases z)) List.not_mem_nil)
  have nDl := nlst DD _ w.lka.dl
  have nGl := nlst GV _ w.gv
  have nll : ∀ j, j < n → la j ∉ [lk, LN] := fun j hj => (q0 j hj).elim fun vs h1 => nlst _ _ h1
  have nrl : ∀ j, j < n → ra j ∉ [lk, LN] := fun j hj => (r0 j hj).elim fun vs h1 => nlst _ _ h1
  have laR : ∀ j, j < n → la j ≠ R := fun j hj => (q0 j hj).elim fun vs h1 => kn _ _ h1 (nll j hj)
  have raR : ∀ j, j < n → ra j ≠ R := fun j hj => (r0 j hj).elim fun vs h1 => kn _ _ h1 (nrl j hj)
  have laL : ∀ j, j < n → la j ≠ L := fun j hj => (q0 j hj).elim fun vs h1 => ln _ _ h1
  have raL : ∀ j, j < n → ra j ≠ L := fun j hj => (r0 j hj).elim fun vs h1 => ln _ _ h1
  have lRW : ∀ j, j < n → la j ∉ [RW] := fun j hj => nin_c ((q0 j hj).elim fun vs h1 => ne_knd h1 w.rw (by intro z; cases z)) List.not_mem_nil
  have rRW : ∀ j, j < n → ra j ∉ [RW] := fun j hj => nin_c ((r0 j hj).elim fun vs h1 => ne_knd h1 w.rw (by intro z; cases z)) List.not_mem_nil
  have nRL : R ≠ L := fun z => hLB (by rw [← z]; exact hR)
  have nRWk : RW ∉ [lk, LN] := nin_c (ne_knd w.rw w.lka.ob (by intro z; cases z)) (nin_c w.nLR.symm List.not_mem_nil)
  have nRRW : R ≠ RW := fun z => kn _ _ w.rw nRWk z.symm
  have nLRW : L ≠ RW := fun z => ln _ _ w.rw z.symm
  have sR : R ∉ [st, c] := st_fresh soB hR
  have sL : L ∉ [st, c] := st_fresh so0 nL
  have four : ∀ y, y ∉ [st, c] → y ≠ DD → y ≠ GV → y ∉ [st, c, DD, GV] := fun y h1 h2 h3 z => by
    simp only [List.mem_cons, List.not_mem_nil, or_false] at z h1
    rcases z with z | z | z | z
    · exact h1 (.inl z)
    · exact h1 (.inr z)
    · exact h2 z
    · exact h3 z
  refine ⟨lk4.kp kRW (nin_c (ne_knd w.lka.ob w.rw (by intro z; cases z)) List.not_mem_nil) (nin_c (ne_knd w.lka.dl w.rw (by intro z; cases z)) List.not_mem_nil) (nin_c w.nLR List.not_mem_nil), h5, kRW.out _ _ (nin_c (ne_knd w.gv w.rw (by intro z; cases z)) List.not_mem_nil) (k2.out _ _ nGl w.gv), fun i j hi hj e => ?_, w.nLR, w.sD, w.sG, fun j hj => ?_, fun j hj => ?_, fun i j hi hj => ?_, fun i j hi hj e => ?_, fun i j hi hj e => ?_, fun j hj => ?_, fun j hj => ?_, fun j hj => ?_, Nat.succ_le_succ w.nm⟩
  · have e' : (if i = n then pr else kx i) = (if j = n then pr else kx j) := e
    by_cases c1 : i = n
    · by_cases c2 : j = n
      · rw [c1, c2]
      · rw [if_pos c1, if_neg c2] at e'
        exact absurd e'.symm (hno j (by omega))
    · by_cases c2 : j = n
      · rw [if_neg c1, if_pos c2] at e'
        exact absurd e' (hno i (by omega))
      · rw [if_neg c1, if_neg c2] at e'
        exact w.inj i j (by omega) (by omega) e'
  · by_cases c2 : j = n
    · rw [c2, fset_eq]
      exact four L sL (fun z => ln _ _ w.lka.dl z.symm) (fun z => ln _ _ w.gv z.symm)
    · rw [fset_ne c2]
      exact w.fa j (by omega)
  · by_cases c2 : j = n
    · rw [c2, fset_eq]
      exact four R sR (fun z => kn _ _ w.lka.dl nDl z.symm) (fun z => kn _ _ w.gv nGl z.symm)
    · rw [fset_ne c2]
      exact w.fb j (by omega)
  · by_cases c1 : i = n
    · by_cases c2 : j = n
      · rw [c1, c2, fset_eq, fset_eq]
        exact nRL.symm
      · rw [c1, fset_eq, fset_ne c2]
        exact (raL j (by omega)).symm
    · by_cases c2 : j = n
      · rw [c2, fset_eq, fset_ne c1]
        exact laR i (by omega)
      · rw [fset_ne c1, fset_ne c2]
        exact w.fx i j (by omega) (by omega)
  · by_cases c1 : i = n
    · by_cases c2 : j = n
      · rw [c1, c2]
      · rw [c1, fset_eq, fset_ne c2] at e
        exact absurd e.symm (laL j (by omega))
    · by_cases c2 : j = n
      · rw [c2, fset_eq, fset_ne c1] at e
        exact absurd e (laL i (by omega))
      · rw [fset_ne c1, fset_ne c2] at e
        exact w.fl i j (by omega) (by omega) e
  · by_cases c1 : i = n
    · by_cases c2 : j = n
      · rw [c1, c2]
      · rw [c1, fset_eq, fset_ne c2] at e
        exact absurd e.symm (raR j (by omega))
    · by_cases c2 : j = n
      · rw [c2, fset_eq, fset_ne c1] at e
        exact absurd e (raR i (by omega))
      · rw [fset_ne c1, fset_ne c2] at e
        exact w.fr i j (by omega) (by omega) e
  · show QAt P5 (fset la n L j) (if j = n then _ else _)
    by_cases c2 : j = n
    · rw [if_pos c2, c2, fset_eq]
      exact qa.kp kRW (nin_c nLRW List.not_mem_nil)
    · rw [if_neg c2, fset_ne c2]
      exact ((w.ql j (by omega)).kp k2 (nll j (by omega))).kp kRW (lRW j (by omega))
  · show QAt P5 (fset ra n R j) (if j = n then _ else _)
    by_cases c2 : j = n
    · rw [if_pos c2, c2, fset_eq]
      exact hR4.kp kRW (nin_c nRRW List.not_mem_nil)
    · rw [if_neg c2, fset_ne c2]
      exact ((w.qr j (by omega)).kp k2 (nrl j (by omega))).kp kRW (rRW j (by omega))
  · show (if j = n then [x] else qx j).length ≤ m + 1
    by_cases c2 : j = n
    · rw [if_pos c2, List.length_singleton]
      omega
    · rw [if_neg c2]
      have h1 := w.len j (by omega)
      omega
end
def lensQ (qx : Nat → List (Int × Int)) (n : Nat) : List Int := (List.range n).map fun k => ((qx k).length : Int)
theorem lensQ_succ {qx : Nat → List (Int × Int)} {n : Nat} : lensQ qx (n + 1) = lensQ qx n ++ [((qx n).length : Int)] := by
  unfold lensQ
  rw [List.range_succ, List.map_append]
  rfl
theorem sum_snoc (xs : List Int) (y : Int) : (xs ++ [y]).sum = xs.sum + y := by
  induction xs with
  | nil => simp
  | cons x r ih =>
    rw [List.cons_append, List.sum_cons, List.sum_cons, ih]
    omega
theorem lens_sum {qx : Nat → List (Int × Int)} : ∀ n, 0 ≤ (lensQ qx n).sum ∧ ((lensQ qx n).sum = 0 ↔ ((List.range n).all fun k => (qx k).isEmpty) = true)
  | 0 => ⟨Int.le_refl 0, by simp [lensQ]⟩
  | n + 1 => by
    obtain ⟨h1, h2⟩ := lens_sum (qx := qx) n
    rw [lensQ_succ, sum_snoc, List.range_succ, List.all_append]
    refine ⟨by omega, ?_⟩
    rw [Bool.and_eq_true, ← h2]
    have e : ([n].all fun k => (qx k).isEmpty) = true ↔ (qx n).length = 0 := by
      simp [List.length_eq_zero_iff]
    rw [e]
    omega
variable {C : Addr}
theorem body_law {fd : FuncData} {fa : Addr} {F : Fun K "law" "law" s_law fa fd} (T : Glo K w mg) (G__law_state : Cal P w K mg base "_law_state" 1 p__law_state (sp_state K)) (G__law_draw : Cal P w K mg base "_law_draw" 1 p__law_draw sp_draw) (G__law_pick : Cal P w K mg base "_law_pick" 2 p__law_pick (sp_pick K))
    (M_Links : MakC P w K mg base "Links" C 1 p_Links___init__ (sp_linit C)) (W : LkK K C) (G_Links_due : MetC P w K mg base C "due" 1 p_Links_due (sp_due C)) (G_Links_send : MetC P w K mg base C "send" 6 p_Links_send (sp_send C)) (G_Links_empty : MetC P w K mg base C "empty" 1 p_Links_empty (sp_empty C)) : FnOk P w K mg base CX0 10 fa fd ["script"] (sp_law K) := by
  obtain ⟨hcW, n1, n2, n3⟩ := W
  refine F.ok sc_law (fun vs H Q E h => ?_) (fun cdv A outer s H vs Q E hr h => ?_)
  · obtain ⟨_, _, rfl, _⟩ := h
    rfl
  obtain ⟨a, ns, rfl, hs, hl, q⟩ := h
  refine ⟨_, (pss_cons (ps_set (i := 1) sc_law.nd rfl (by first | exact Or.inl rfl | exact Or.inr rfl) (pe_cal G__law_state (hr.mono (by walk_at "lev")) rfl (pa_cons (pv 0) pa_nil))) (pss_cons (ps_setLc (i := 2) (own := [("k", 11)]) (tt := tYes) rfl sc_law.nd rfl rfl (sw_true rfl rfl rfl (by decide +kernel)) (pi_range1 rfl T.n_range (pa_cons (pe_cal G__law_draw (hr.mono (by walk_at "lev")) rfl (pa_cons (pv 1) (pa_cons pe_int pa_nil))) pa_nil)) (blkOk_by (N := ["script", "state", "delays", "links", "rows", "sent", "tick", "given", "found", "pair", "told", "k", "empty", "row"]) (sc := defScope s_law) (by decide +kernel)) (fun _ _ _ _ _ => (pg_name (i := 11) sc_law.nd rfl (by first | exact Or.inl rfl | exact Or.inr rfl))) (fun _ _ _ _ _ => pts_nil) (fun _ _ _ _ _ => (pe_op (op_addK (K := K) rfl) pe_int (pe_cal G__law_draw (hr.mono (by walk_at "lev")) rfl (pa_cons (pv 1) (pa_cons pe_int pa_nil)))))) (pss_cons (ps_set (i := 3) sc_law.nd rfl (by first | exact Or.inl rfl | exact Or.inr rfl) (pe_mkC M_Links (hr.mono (by walk_at "lev")) rfl (pa_cons (pv 2) pa_nil))) (pss_cons (ps_if (pt_cmpR op_gt (pe_callB call_lenA rfl T.n_len (by decide +kernel) (pa_cons (pv 2) pa_nil)) pe_int (nomark _)) (pss_one (ps_set (i := 7) sc_law.nd rfl (by first | exact Or.inl rfl | exact Or.inr rfl) (pe_callTy call_listA rfl T.n_list (by decide +kernel) (pa_cons (pv 2) pa_nil)))) (pss_one (ps_set (i := 7) sc_law.nd rfl (by first | exact Or.inl rfl | exact Or.inr rfl) (pe_lst (pa_cons pe_int pa_nil))))) (pss_cons (ps_expr (pe_bm PySem.F.plainAttrs_list PySem.F.slot_list_append PySem.F.type_list_append mt_append (pv 2) (pa_cons pe_int pa_nil))) (pss_cons (ps_set (i := 4) sc_law.nd rfl (by first | exact Or.inl rfl | exact Or.inr rfl) pe_dnewT) (pss_cons (ps_set (i := 5) sc_law.nd rfl (by first | exact Or.inl rfl | exact Or.inr rfl) pe_int) (pss_cons (ps_for PassesOwn.never rfl (pi_range2 rfl T.n_range (pa_cons pe_int (pa_cons (pe_op op_addA pe_int (pe_cal G__law_draw (hr.mono (by walk_at "lev")) rfl (pa_cons (pv 1) (pa_cons pe_int pa_nil)))) pa_nil))) (pg_name (i := 6) sc_law.nd rfl (by first | exact Or.inl rfl | exact Or.inr rfl)) (pss_cons (ps_set (i := 8) sc_law.nd rfl (by first | exact Or.inl rfl | exact Or.inr rfl) (pe_lst pa_nil)) (pss_cons (ps_for PassesOwn.never rfl (pi_list (pe_callB (call_sortedDT rfl) rfl T.n_sorted (by decide +kernel) (pa_cons (pv 4) pa_nil))) (pg_name (i := 9) sc_law.nd rfl (by first | exact Or.inl rfl | exact Or.inr rfl)) (pss_cons (ps_set (i := 13) sc_law.nd rfl (by first | exact Or.inl rfl | exact Or.inr rfl) (pe_dget (hu_of hr) (pv 4) (pv 9) (fun _ _ => rfl))) (pss_one (ps_while PassesOwn.never (PW.pt (pw_and (pt_cmpR op_gt (pe_callB call_lenA rfl T.n_len (by decide +kernel) (pa_cons (pv 13) pa_nil)) pe_int (nomark _)) (pw_and1 (pt_cmpR op_le (pe_ix ix_seq (pe_ix ix_seq (pv 13) pe_int (fun _ _ => rfl)) pe_int (fun _ _ => rfl)) (pv 6) (nomark _))))) (pss_one (ps_expr (pe_bm PySem.F.plainAttrs_list PySem.F.slot_list_append PySem.F.type_list_append mt_append (pv 8) (pa_cons (pe_tup (pa_cons (pe_ix ix_seq (pv 9) pe_int (fun _ _ => rfl)) (pa_cons (pe_ix ix_seq (pe_bm PySem.F.plainAttrs_list PySem.F.slot_list_pop PySem.F.type_list_pop mt_popAt (pv 13) (pa_cons pe_int pa_nil)) pe_int (fun _ _ => rfl)) pa_nil))) pa_nil)))))))) (pss_cons (ps_set (i := 10) sc_law.nd rfl (by first | exact Or.inl rfl | exact Or.inr rfl) (pe_mtC G_Links_due (hr.mono (by walk_at "lev")) (pv 3) (pa_cons (pv 6) pa_nil))) (pss_cons (ps_if (PW.pt (pw_or (pt_not (pt_val (pe_callB call_isi rfl T.n_isinstance (by decide +kernel) (pa_cons (pv 10) (pa_cons (pe_ty (n := "list") rfl T.n_list (by decide +kernel)) pa_nil))))) (pw_or1 (pt_cmpR (op_neA (hu64 hr)) (pv 10) (pv 8) (nomark _))))) (pss_one (ps_ret pe_bl)) pss_nil) (pss_cons (ps_for PassesOwn.never rfl (pi_range1 rfl T.n_range (pa_cons (pe_cal G__law_draw (hr.mono (by walk_at "lev")) rfl (pa_cons (pv 1) (pa_cons pe_int pa_nil))) pa_nil)) (pg_name (i := 11) sc_law.nd rfl (by first | exact Or.inl rfl | exact Or.inr rfl)) (pss_cons (ps_set (i := 9) sc_law.nd rfl (by first | exact Or.inl rfl | exact Or.inr rfl) (pe_cal G__law_pick (hr.mono (by walk_at "lev")) rfl (pa_cons (pv 1) (pa_cons (pe_lst (pa_cons (pe_tup (pa_cons pe_int (pa_cons pe_int pa_nil))) (pa_cons (pe_tup (pa_cons pe_int (pa_cons pe_int pa_nil))) (pa_cons (pe_tup (pa_cons pe_int (pa_cons pe_int pa_nil))) (pa_cons (pe_tup (pa_cons pe_int (pa_cons pe_int pa_nil))) (pa_cons (pe_tup (pa_cons pe_int (pa_cons pe_int pa_nil))) (pa_cons (pe_tup (pa_cons pe_int (pa_cons pe_int pa_nil))) (pa_cons (pe_tup (pa_cons pe_int (pa_cons pe_int pa_nil))) pa_nil)))))))) pa_nil)))) (pss_cons (ps_expr (pe_mtC G_Links_send (hr.mono (by walk_at "lev")) (pv 3) (pa_cons (pv 6) (pa_cons (pe_ix ix_seq (pv 9) pe_int (fun _ _ => rfl)) (pa_cons (pe_ix ix_seq (pv 9) pe_int (fun _ _ => rfl)) (pa_cons (pe_tup (pa_cons pe_str (pa_cons (pv 5) pa_nil))) pa_nil)))))) (pss_cons (ps_dput (hu_of hr) (pv 4) (pv 9) (pe_op op_addA (pe_dget2 (hu_of hr) (pv 4) (pv 9) (pe_lst pa_nil) ⟨rfl, rfl, rfl, rfl⟩) (pe_lst (pa_cons (pe_tup (pa_cons (pe_op op_addA (pv 6) (pe_ix ix_seq (pv 7) (pe_op op_sub (pv 5) (pe_op op_mul (pe_op op_fdiv (pv 5) (pe_callB call_lenA rfl T.n_len (by decide +kernel) (pa_cons (pv 7) pa_nil))) (pe_callB call_lenA rfl T.n_len (by decide +kernel) (pa_cons (pv 7) pa_nil)))) (fun _ _ => rfl))) (pa_cons (pe_tup (pa_cons pe_str (pa_cons (pv 5) pa_nil))) pa_nil))) pa_nil))) rfl) (pss_one (ps_set (i := 5) sc_law.nd rfl (by first | exact Or.inl rfl | exact Or.inr rfl) (pe_op op_addA (pv 5) pe_int))))))) (pss_cons (ps_set (i := 12) sc_law.nd rfl (by first | exact Or.inl rfl | exact Or.inr rfl) (pe_mtC0 G_Links_empty (hr.mono (by walk_at "lev")) (pv 3))) (pss_one (ps_if (PW.pt (pw_or (pt_not (pt_val (pe_callB call_isi rfl T.n_isinstance (by decide +kernel) (pa_cons (pv 12) (pa_cons (pe_ty (n := "bool") rfl T.n_bool (by decide +kernel)) pa_nil))))) (pw_or1 (pt_cmpR (op_neA (hu64 hr)) (pv 12) (pe_cmpR (op_eqA (hu64 hr)) (pe_callB (cr_sum rfl) rfl T.n_sum (by decide +kernel) (pa_cons (pe_lock (pe_lc (own := [("pair", 9)]) (tt := tYes) rfl sc_law.nd (pi_keys (pv 4)) (blkOk_by (N := ["script", "state", "delays", "links", "rows", "sent", "tick", "given", "found", "pair", "told", "k", "empty", "row"]) (sc := defScope s_law) (by decide +kernel)) (fun _ _ _ _ _ => (pg_name (i := 9) sc_law.nd rfl (by first | exact Or.inl rfl | exact Or.inr rfl))) (fun _ _ _ _ _ => pts_nil) (fun _ _ _ _ _ => (pe_callB (call_lenK (K := K) rfl) rfl T.n_len (by decide +kernel) (pa_cons (pe_dget (hu_of hr) (pv 4) (pv 9) (fun _ _ => rfl)) pa_nil))))) pa_nil)) pe_int (nomark _)) (nomark _))))) (pss_one (ps_ret pe_bl)) pss_nil))))))))) (pss_one (ps_ret pe_bl)))))))))), ?_⟩
  try dsimp only [cxOf, Cx.nox]
  repeat' walk_at "st"
  refine c_state hs hl ?_
  intro st c H1 e1 hst hc so
  repeat' walk_at "st"
  obtain ⟨H2, rfl⟩ : ∃ x, x = Hn := ⟨_, rfl⟩
  obtain ⟨nd, rfl⟩ : ∃ g : Nat, dn = (g : Int) := ⟨dn.toNat, by omega⟩
  have so2 := so
  intro DA hDA
  have nDA : DA ∉ [st, c] := st_fresh so2 hDA
  refine lc_range (lo := 0) (n := _) (fun i H' => ∃ dl : List Int, dl.length = i ∧ Kp [st, c] H2 H' ∧ StOk st c H' ∧ H' DA = some (.lst (dl.map V.int))) ?_ ?_ ?_
  · exact ⟨[], rfl, (Ex.mk hDA rfl).kp, st_ex (Ex.mk hDA rfl) so2, upd_same⟩
  · rintro i H3 hi ⟨dl, ldl, k3, so3, h3⟩
    rw [Int.toNat_natCast] at hi
    refine ⟨rfl, ?_⟩
    repeat' walk_at "st"
    have h4 : Hn DA = some (.lst (dl.map V.int)) := by walk_at "lift"
    refine ⟨_, h4, sl1000' (by rw [List.length_map]; omega), ?_⟩
    generalize hq : upd Hn DA _ = H9
    have k9 := kp_updL h4 hq
    have h9 := at_new hq
    refine ⟨dl ++ [1 + dn], by simp [ldl], by walk_at "kpx", by walk_at "st_ok", ?_⟩
    rw [h9, List.map_append]
    rfl
  rintro H3 ⟨dl, ldl, k3, so3, hD3⟩
  rw [Int.toNat_natCast] at ldl
  have l7 : dl.length ≤ 7 := by omega
  clear n0 n1 ke hs
  repeat' walk_at "st"
  refine q_makLk hD3 (fun H4 lk dx DD LN kx0 la0 e34 nlk nDD nLN lka => ?_)
  have so4 := st_ex e34 so3
  have hD4 := e34 _ _ hD3
  have wlk := e34
  iterate 2 (walk_at "st")
  refine ifsk (fun σ' H' => ∃ GV, σ' = [some (.ref a), some (.ref st), some (.ref DA), some (.ref lk), none, none, none, some (.ref GV), none, none, none, none, none, none] ∧ Ex H4 H' ∧ H4 GV = none ∧ H' GV = some (.lst ((glOf dl).map V.int))) ?_ ?_
  · intro nx' hnx
    repeat' walk_at "st"
    · rename_i hpos
      have eg : glOf dl = dl := if_neg (by rw [List.length_map] at hpos; omega)
      exact hnx _ _ ⟨p, rfl, ke, hp, by rw [eg]; exact hn⟩
    · rename_i hpos
      have eg : glOf dl = [1] := if_pos (by rw [List.length_map] at hpos; omega)
      exact hnx _ _ ⟨p, rfl, ke, hp, by rw [eg]; exact hn⟩
  rintro σ' H5 ⟨GV, rfl, e45, nGV, hGV⟩
  have so5 := st_ex e45 so4
  have hD5 := e45 _ _ hD4
  have lka5 := lka.exx e45
  repeat' walk_at "st"
  rename_i G6 G7 k7
  obtain ⟨RW, rfl⟩ : ∃ x, x = p := ⟨_, rfl⟩
  have k6 := ku
  have h6 := hu
  have hRW := hp
  have hRW7 := hn
  clear ku hu hp hn
  have nDA3 : DD ≠ DA := (ne_of_none hD3 nDD).symm
  have w0 : Wld C Hn st c lk dx DD LN RW GV dl (glOf dl) 0 0 kx0 la0 la0 (fun _ => []) := by
    have a1 : lk ∉ [DA] := nin_c (ne_of_none hD3 nlk).symm List.not_mem_nil
    have a2 : DD ∉ [DA] := nin_c nDA3 List.not_mem_nil
    have a3 : LN ∉ [DA] := nin_c (ne_of_none hD3 nLN).symm List.not_mem_nil
    have a4 : GV ∉ [DA] := nin_c (ne_of_none hD4 nGV).symm List.not_mem_nil
    have l7 := (lka5.kp k6 a1 a2 a3).exx k7
    have b1 : lk ∉ [st, c] := st_fresh so3 nlk
    have b2 : DD ∉ [st, c] := st_fresh so3 nDD
    have b3 : LN ∉ [st, c] := st_fresh so3 nLN
    have b4 : GV ∉ [st, c] := st_fresh so4 nGV
    have so6 : StOk st c G6 := st_kpx k6 (alln_c nDA alln_n) so5
    have b5 : RW ∉ [st, c] := st_fresh so6 hRW
    exact ⟨l7.kp ke b1 b2 b3, ke.out _ _ b5 hRW7, ke.out _ _ b4 (k7 _ _ (k6.out _ _ a4 hGV)), fun i j hi => by omega, ne_of_none ((lka5.kp k6 a1 a2 a3).ln) hRW, b2, b4, fun k h => by omega, fun k h => by omega, fun i j h => by omega, fun i j h => by omega, fun i j h => by omega, fun k h => by omega, fun k h => by omega, fun k h => by omega, Nat.le_refl _⟩
  have soN := so
  clear k6 h6 hRW hRW7 k7 hGV hD5 lka5 hD4 lka e45 e34 nGV nlk nDD nLN hD3 k3 hDA
  refine w_rng (lo := 1) (n := _) (fun i σ H' => ∃ (m n : Nat) (kx : Nat → K2) (la ra : Nat → Addr) (qx : Nat → List (Int × Int)) (y6 y8 y9 y10 y11 y12 y13 : Option V), σ = [some (.ref a), some (.ref st), some (.ref DA), some (.ref lk), some (.ref RW), some (.int (m : Nat)), y6, some (.ref GV), y8, y9, y10, y11, y12, y13] ∧ StOk st c H' ∧ Wld C H' st c lk dx DD LN RW GV dl (glOf dl) m n kx la ra qx ∧ m ≤ 3 * i) ?_ ?_ ?_
  · exact ⟨0, 0, _, _, _, _, _, _, _, _, _, _, _, rfl, soN, w0, Nat.le_refl _⟩
  · rintro i σ G0 hi ⟨m, n, kx, la, ra, qx, y6, y8, y9, y10, y11, y12, y13, rfl, so0, wd, hm⟩
    have hi40 : i < 40 := by omega
    clear w0 soN ke
    repeat' walk_at "st"
    obtain ⟨t, ht⟩ : ∃ t : Int, 1 + (i : Int) = t := ⟨_, rfl⟩
    rw [ht]
    obtain ⟨F, rfl⟩ : ∃ x, x = p := ⟨_, rfl⟩
    obtain ⟨G1, rfl⟩ : ∃ x, x = Hn := ⟨_, rfl⟩
    have hF1 := hn
    have e01 := ke
    have hFn : G0 F = none := hp
    have m120 : m ≤ 117 := by omega
    have wd1 := wd.ex e01
    refine ⟨RW, tent kx ra n, rfl, .inl (by rw [tent_row]; exact wd1.rw), by unfold tent; rw [List.length_map, List.length_range]; have := wd.nm; omega, fun out DR hs hb hk hDR => ?_⟩
    rw [tent_keys] at hb
    generalize hqD : upd G1 DR _ = G2
    have e12 : Ex G1 G2 := by rw [← hqD]; exact Ex.mk hDR rfl
    have hDR2 : G2 DR = some (.lst (out.map fun x => V.ref x.2)) := at_new hqD
    have so2' : StOk st c G2 := st_ex e12 (st_ex e01 so0)
    have wd2 := wd1.ex e12
    clear hqD hn hp ke
    have hra : ∀ k, k < n → ∃ vs, G0 (ra k) = some (.lst vs) := fun k h => by
      obtain ⟨vs, h1, _⟩ := wd.qr k h
      exact ⟨vs, h1⟩
    have nFra : ∀ k, k < n → ra k ≠ F := fun k h => (hra k h).elim fun vs h1 => ne_of_none h1 hFn
    have nDra : ∀ k, k < n → ra k ≠ DR := fun k h => (hra k h).elim fun vs h1 => ne_of_none (e01 _ _ h1) hDR
    have nDF : DR ≠ F := (ne_of_none hF1 hDR).symm
    have nRW : RW ∉ F :: afam ra n := nin_c (ne_of_none wd.rw hFn) (afam_nin fun k h => (hra k h).elim fun vs h1 => ne_knd h1 wd.rw (by intro z; cases z))
    have nDR : DR ∉ F :: afam ra n := nin_c nDF (afam_nin nDra)
    have hnd : (out.map (·.1)).Nodup := hb.perm.nodup_iff.mpr (nodup_keys wd.inj)
    have hlo : out.length = n := by have := hb.len; rw [List.length_map, List.length_map, List.length_range] at this; exact this
    repeat' walk_at "st"
    refine w_list (xs := out.map fun x => V.ref x.2) (fun j σ H' => ∃ y9 y13 : Option V, σ = [some (.ref a), some (.ref st), some (.ref DA), some (.ref lk), some (.ref RW), some (.int (m : Nat)), some (.int t), some (.ref GV), some (.ref F), y9, y10, y11, y12, y13] ∧ Kp (F :: afam ra n) G2 H' ∧ (∃ vs, H' F = some (.lst vs) ∧ Tps H' vs ((fnd kx n qx t ((out.map (·.1)).take j)).map qd) ∧ vs.length ≤ j * 200) ∧ ∀ k, k < n → QAt H' (ra k) (if kx k ∈ (out.map (·.1)).take j then cut t (qx k) else qx k)) ?_ ?_ ?_ ?_
    · exact ⟨_, _, rfl, Kp.refl _, ⟨[], e12 _ _ hF1, .nil, by simp⟩, fun k h => by simpa using wd2.qr k h⟩
    · rintro j σ H' _ ⟨y9, y13, rfl, k', _⟩
      exact sql (k'.out _ _ nDR hDR2)
    · rintro j x σ H' hx ⟨y9, y13, rfl, k', ⟨vs, hF', tF', lF'⟩, hq'⟩
      rw [List.getElem?_map] at hx
      obtain ⟨⟨pp, b⟩, hib, rfl⟩ := Option.map_eq_some_iff.mp hx
      have hbt : G1 b = some (.tup (kv2 pp)) := hk (pp, b) (List.mem_of_getElem? hib)
      have hio : (out.map (·.1))[j]? = some pp := by rw [List.getElem?_map, hib]; rfl
      obtain ⟨k, hkn, rfl⟩ := List.mem_map.mp (hb.perm.mem_iff.mp (List.mem_of_getElem? hio))
      have hkn := List.mem_range.mp hkn
      have hbt' := k'.tup _ _ (e12 _ _ hbt)
      have hrw' := k'.out _ _ nRW wd2.rw
      have hnt := nodup_take hnd hio
      have hqk := hq' k hkn
      rw [if_neg hnt] at hqk
      have hi50 : j < 200 := by have := (List.getElem?_eq_some_iff.mp hib).1; have := wd.nm; omega
      have hg : DGet H' RW (.ref b) (some (.ref (ra k))) := by
        have := DGet.t (k := kk2 (kx k)) hrw' hbt'
        rw [trow_at n wd.inj hkn] at this
        exact this
      repeat' walk_at "st"
      refine ⟨RW, .ref (ra k), rfl, hg, ?_⟩
      repeat' walk_at "st"
      have etk : (out.map (·.1)).take (j + 1) = (out.map (·.1)).take j ++ [kx k] := by rw [List.take_add_one, hio]; rfl
      have lqk : (qx k).length ≤ 200 := by have := wd.len k hkn; omega
      obtain ⟨vl0, hvl, tvl⟩ := hqk
      have nrF := nFra k hkn
      have fin : ∀ (H2' : Hp) (dn rs : List (Int × Int)) (vl vf : List V), qx k = dn ++ rs → (∀ x ∈ dn, x.1 ≤ t) → (∀ x r, rs = x :: r → ¬ x.1 ≤ t) → Kp [ra k, F] H' H2' → H2' (ra k) = some (.lst vl) → Tps H2' vl (rs.map qd) → H2' F = some (.lst vf) → Tps H2' vf ((fnd kx n qx t ((out.map (·.1)).take j) ++ dn.map fun x => ((kx k).2, x.2)).map qd) → vf.length = vs.length + dn.length →
          Kp (F :: afam ra n) G2 H2' ∧ (∃ vs, H2' F = some (.lst vs) ∧ Tps H2' vs ((fnd kx n qx t ((out.map (·.1)).take (j + 1))).map qd) ∧ vs.length ≤ (j + 1) * 200) ∧ ∀ k, k < n → QAt H2' (ra k) (if kx k ∈ (out.map (·.1)).take (j + 1) then cut t (qx k) else qx k) := by
        intro H2' dn rs vl vf eq hdn hrs k2 h1 t1 h2 t2 lf
        obtain ⟨o1, o2⟩ := cut_done hdn hrs
        rw [← eq] at o1 o2
        have ldn : dn.length ≤ 200 := by have := congrArg List.length eq; rw [List.length_append] at this; omega
        refine ⟨k'.trans (k2.sub fun x hx => ?_), ⟨vf, h2, ?_, by rw [lf]; omega⟩, fun i2 hi2 => ?_⟩
        · simp only [List.mem_cons, List.not_mem_nil, or_false] at hx
          rcases hx with rfl | rfl
          · exact List.mem_cons_of_mem _ (afam_mem hkn)
          · exact List.mem_cons_self ..
        · rw [etk, fnd_snoc, posK_at wd.inj hkn, o1]
          exact t2
        · by_cases c : i2 = k
          · subst c
            rw [if_pos (by rw [etk]; exact List.mem_append_right _ (List.mem_singleton.mpr rfl)), o2]
            exact ⟨vl, h1, t1⟩
          · have n1 : ra i2 ∉ [ra k, F] := nin_c (fun z => c (wd.fr i2 k hi2 hkn z)) (nin_c (nFra i2 hi2) List.not_mem_nil)
            have e1 : (kx i2 ∈ (out.map (·.1)).take (j + 1)) ↔ (kx i2 ∈ (out.map (·.1)).take j) := by
              rw [etk, List.mem_append, List.mem_singleton]
              exact ⟨fun z => z.elim id fun z => absurd (wd.inj i2 k hi2 hkn z) c, .inl⟩
            have q1 := (hq' i2 hi2).kp k2 n1
            by_cases c2 : kx i2 ∈ (out.map (·.1)).take j
            · rw [if_pos c2] at q1
              rw [if_pos (e1.mpr c2)]
              exact q1
            · rw [if_neg c2] at q1
              rw [if_neg fun z => c2 (e1.mp z)]
              exact q1
      refine w_while (fun mm σ H2' => ∃ (dn rs : List (Int × Int)) (vl vf : List V), mm = rs.length ∧ qx k = dn ++ rs ∧ (∀ x ∈ dn, x.1 ≤ t) ∧ σ = [some (.ref a), some (.ref st), some (.ref DA), some (.ref lk), some (.ref RW), some (.int (m : Nat)), some (.int t), some (.ref GV), some (.ref F), some (.ref b), y10, y11, y12, some (.ref (ra k))] ∧ Kp [ra k, F] H' H2' ∧ H2' (ra k) = some (.lst vl) ∧ Tps H2' vl (rs.map qd) ∧ H2' F = some (.lst vf) ∧ Tps H2' vf ((fnd kx n qx t ((out.map (·.1)).take j) ++ dn.map fun x => ((kx k).2, x.2)).map qd) ∧ vf.length = vs.length + dn.length) (qx k).length ⟨[], qx k, vl0, vs, rfl, rfl, by simp, rfl, Kp.refl _, hvl, tvl, hF', by simpa using tF', by simp⟩ ?_ ?_
      · rintro mm σ H2' ⟨dn, rs, vl, vf, rfl, eq, hdn, rfl, k2, h1, t1, h2, t2, lf⟩
        have ldn : dn.length + rs.length ≤ 200 := by have := congrArg List.length eq; rw [List.length_append] at this; omega
        clear e1 hst hc so so2 so3 so4 so5 wlk
        cases rs with
        | nil =>
          cases t1
          repeat' walk_at "st"
          exact ⟨_, _, rfl, fin H2' dn [] [] vf eq hdn (fun x r z => by cases z) k2 h1 .nil h2 t2 lf⟩
        | cons x r =>
          obtain ⟨e, cc, us, rfl, he, hcc, tu⟩ := tps_hd t1
          have hbb := k2.tup _ _ hbt'
          repeat' walk_at "st"
          · rename_i Ha kua hua Hb
            have nkF : ra k ∉ [F] := nin_c (nFra k hkn) List.not_mem_nil
            have tf := tps_kp ku (tps_app (tps_ex ke (tps_kp kua t2)) (.cons (q_tp hn (ke _ _ (kua.tup _ _ hcc))) .nil))
            refine ⟨r.length, Nat.lt_succ_self _, dn ++ [x], r, us, _, rfl, by rw [eq, List.append_assoc]; rfl, fun y hy => ?_, rfl, by walk_at "kpx", ku.out _ _ nkF (ke _ _ hua), tps_kp ku (tps_ex ke (tps_kp kua tu)), hu, ?_, by rw [List.length_append, List.length_append, lf, List.length_singleton, List.length_singleton]; omega⟩
            · rcases List.mem_append.mp hy with hy | hy
              · exact hdn y hy
              · rw [List.mem_singleton.mp hy]
                assumption
            · have ef : (fnd kx n qx t ((out.map (·.1)).take j) ++ (dn ++ [x]).map fun x => ((kx k).2, x.2)).map qd = (fnd kx n qx t ((out.map (·.1)).take j) ++ dn.map fun x => ((kx k).2, x.2)).map qd ++ [qd ((kx k).2, x.2)] := by simp [List.map_append]
              rw [ef]
              exact tf
          · exact ⟨_, _, rfl, fin H2' dn (x :: r) _ vf eq hdn (fun x' r' z => by cases z; assumption) k2 h1 t1 h2 t2 lf⟩
      · intro σ H Q Q' hQ h
        exact mo_and (mo_test (mo_op mo_I0 (mo_cb mo_lenA (mo_cons mo_var mo_nil)) mo_c)) (mo_test (mo_op mo_I0 (mo_op mo_ix (mo_op mo_ix mo_var mo_c) mo_c) mo_var)) _ _ _ _ hQ h
    · rintro σ G3 ⟨y9, y13, rfl, k3', ⟨vs, hF3, tF3, lF3⟩, hq3⟩
      rw [List.length_map, ← List.length_map (f := fun x : K2 × Addr => x.1), List.take_length] at tF3 hq3
      have hqr3 : ∀ k, k < n → QAt G3 (ra k) (cut t (qx k)) := fun k h => by
        have := hq3 k h
        rw [if_pos (hb.perm.mem_iff.mpr (List.mem_map.mpr ⟨k, List.mem_range.mpr h, rfl⟩))] at this
        exact this
      have nk : ∀ x u, G0 x = some u → (∀ k, k < n → ra k ≠ x) → x ∉ F :: afam ra n := fun x u h h2 => nin_c (ne_of_none h hFn) (afam_nin h2)
      have hla : ∀ k, k < n → ∃ vs, G0 (la k) = some (.lst vs) := fun k h => by
        obtain ⟨vs, h1, _⟩ := wd.ql k h
        exact ⟨vs, h1⟩
      have nlkR := nk lk _ wd.lka.ob fun k h => (hra k h).elim fun vs h1 => ne_knd h1 wd.lka.ob (by intro z; cases z)
      have nLNR := nk LN _ wd.lka.ln fun k h => (hra k h).elim fun vs h1 => ne_knd h1 wd.lka.ln (by intro z; cases z)
      have nDDR := nk DD _ wd.lka.dl fun k h z => wd.fb k h (by rw [z]; simp)
      have nGVR := nk GV _ wd.gv fun k h z => wd.fb k h (by rw [z]; simp)
      have nlaR : ∀ k, k < n → la k ∉ F :: afam ra n := fun k h => (hla k h).elim fun vs h1 => nk (la k) _ h1 fun j hj z => wd.fx k j h hj z.symm
      have lka3 := wd2.lka.kp k3' nlkR nDDR nLNR
      have ql3 : ∀ k, k < n → QAt G3 (la k) (qx k) ∧ (qx k).length ≤ 200 := fun k h => ⟨(wd2.ql k h).kp k3' (nlaR k h), by have := wd.len k h; omega⟩
      have hob3 := lka3.ob
      simp only [lfl] at hob3
      repeat' walk_at "st"
      refine c_due lka3 (by have := wd.nm; omega) wd.inj wd.fl ql3 (fun G4 F2 vs2 ks hks1 hks2 k4 hF2n hF24 tF24 hql4 => ?_)
      have eks := keys_uniq hs hb hks1 hks2
      rw [← eks] at tF24
      have nFla : F ∉ afam la n := afam_nin fun k h => (hla k h).elim fun vs h1 => ne_of_none h1 hFn
      have hF4 := k4.out _ _ nFla hF3
      have tF4 := tps_kp k4 tF3
      repeat' walk_at "st"
      refine fq_neDat (.lst (sql hF24) (tps_dp tF24)) (.lst (sql hF4) (tps_dp tF4)) (q_lay _) (q_depth _) ?_
      have so3' : StOk st c G3 := st_kpx k3' (fun x hx => by
        rcases List.mem_cons.mp hx with rfl | hx
        · exact st_fresh so0 hFn
        · obtain ⟨k, hk, rfl⟩ := List.mem_map.mp hx
          exact nin_st (wd.fb k (List.mem_range.mp hk))) so2'
      have so4' : StOk st c G4 := st_kpx k4 (fun x hx => by
        obtain ⟨k, hk, rfl⟩ := List.mem_map.mp hx
        exact nin_st (wd.fa k (List.mem_range.mp hk))) so3'
      have nkl : ∀ x u, G0 x = some u → (∀ xs, u ≠ .lst xs) → x ∉ afam la n := fun x u h h2 => afam_nin fun k hk => (hla k hk).elim fun vs h1 => ne_knd h1 h (h2 _).symm
      have wd4 : Wld C G4 st c lk dx DD LN RW GV dl (glOf dl) m n kx la ra (fun k => cut t (qx k)) := by
        refine ⟨lka3.kp k4 (nkl lk _ wd.lka.ob (by intro _ z; cases z)) (afam_nin fun k h z => wd.fa k h (by rw [z]; simp)) (nkl LN _ wd.lka.ln (by intro _ z; cases z)), k4.out _ _ (nkl RW _ wd.rw (by intro _ z; cases z)) (k3'.out _ _ nRW wd2.rw), k4.out _ _ (afam_nin fun k h z => wd.fa k h (by rw [z]; simp)) (k3'.out _ _ nGVR wd2.gv), wd.inj, wd.nLR, wd.sD, wd.sG, wd.fa, wd.fb, wd.fx, wd.fl, wd.fr, hql4, fun k h => (hqr3 k h).kp k4 (afam_nin fun j hj z => wd.fx j k hj h z), fun k h => Nat.le_trans (List.dropWhile_sublist _).length_le (wd.len k h), wd.nm⟩
      clear hks1 hks2 eks tF24 tF4 tF3 hF3 hF4 hF24 hq3 hqr3 ql3 lka3 hql4 k4 k3' hs hb hk hDR hDR2 nk nkl nlkR nLNR nDDR nGVR nlaR nRW nDR hnd hlo nFra nDra nDF hra hla wd wd1 wd2 so0 so2' so3' e01 e12 hob3 nFla hF2n hFn hF1 lF3
      repeat' walk_at "st"
      obtain ⟨G5, rfl⟩ : ∃ x, x = Hn := ⟨_, rfl⟩
      have wd5 := wd4.draws so4' ke
      have so5' := so
      have hd4 : dn.toNat ≤ 3 := by omega
      clear wd4 so4' ke so e1 hst hc so2 so3 so4 so5 wlk nDA3 nDA
      refine w_rng (lo := 0) (n := _) (fun jj σ H' => ∃ (m n : Nat) (kx : Nat → K2) (la ra : Nat → Addr) (qx : Nat → List (Int × Int)) (y9 y11 y13 : Option V), σ = [some (.ref a), some (.ref st), some (.ref DA), some (.ref lk), some (.ref RW), some (.int (m : Nat)), some (.int t), some (.ref GV), some (.ref F), y9, some (.ref F2), y11, y12, y13] ∧ StOk st c H' ∧ Wld C H' st c lk dx DD LN RW GV dl (glOf dl) m n kx la ra qx ∧ m ≤ 3 * i + jj) ?_ ?_ ?_
      · exact ⟨_, _, _, _, _, _, _, _, _, rfl, so5', wd5, hm⟩
      · clear wd5 so5'
        rintro jj σ G0 hjj ⟨m, n, kx, la, ra, qx, y9, y11, y13, rfl, so0, wd, hm⟩
        have m120 : m ≤ 120 := by omega
        iterate 70 (walk_at "st")
        have mm := List.mem_of_getElem? ej
        simp only [List.mem_cons, List.not_mem_nil, or_false] at mm
        obtain ⟨tp, px, py, rfl, htp⟩ : ∃ (tp : Addr) (x y : Int), v = .ref tp ∧ Hn tp = some (.tup [.int x, .int y]) := by
          rcases mm with rfl | rfl | rfl | rfl | rfl | rfl | rfl
          · exact ⟨_, 0, 1, rfl, by walk_at "lift"⟩
          · exact ⟨_, 1, 0, rfl, by walk_at "lift"⟩
          · exact ⟨_, 1, 2, rfl, by walk_at "lift"⟩
          · exact ⟨_, 2, 1, rfl, by walk_at "lift"⟩
          · exact ⟨_, 0, 3, rfl, by walk_at "lift"⟩
          · exact ⟨_, 3, 0, rfl, by walk_at "lift"⟩
          · exact ⟨_, 2, 3, rfl, by walk_at "lift"⟩
        obtain ⟨pr, hpr⟩ : ∃ pr : K2, pr = (px, py) := ⟨_, rfl⟩
        have wdP : Wld C Hn st c lk dx DD LN RW GV dl (glOf dl) m n kx la ra qx := wd.draws so0 (by walk_at "kpx")
        have soP := so
        rename_i zp0 zH0 za0 zb0 zc0 zp1 zH1 za1 zb1 zc1 zp2 zH2 za2 zb2 zc2 zp3 zH3 za3 zb3 zc3 zp4 zH4 za4 zb4 zc4 zp5 zH5 za5 zb5 zc5 zp6 zH6 za6 zb6 zc6 zH7 zb7
        clear mm ej ke hp hn za0 zb0 zc0 za1 zb1 zc1 za2 zb2 zc2 za3 zb3 zc3 za4 zb4 zc4 za5 zb5 zc5 za6 zb6 zc6 zb7 wd so0 so
        obtain ⟨P1, rfl⟩ : ∃ x, x = Hn := ⟨_, rfl⟩
        have hobP := wdP.lka.ob
        simp only [lfl] at hobP
        repeat' walk_at "st"
        refine ⟨lk, dx, DD, LN, p, dl, m, n, kx, la, qx, t, pr, (m : Int), by rw [hpr], (wdP.ex ke).lka, hn, by omega, by have := wdP.nm; omega, wdP.inj, fun k h => ⟨(wdP.ex ke).ql k h, by have := wdP.len k h; omega, fun z => wdP.fa k h (by rw [z]; simp)⟩, fun k hkn hkx P2 kP lkP qaP => ?_, fun hno P2 L kP nL lkP qaP => ?_⟩
        · subst hkx
          obtain ⟨Q0, rfl⟩ : ∃ x, x = Hn := ⟨_, rfl⟩
          have keQ := ke
          have wdQ := wdP.ex keQ
          obtain ⟨vr, hvr0, tvr0⟩ := wdQ.qr k hkn
          have nRl : RW ∉ [lk, la k] := nin_c (ne_knd wdQ.rw wdQ.lka.ob (by intro z; cases z)) (nin_c ((wdQ.ql k hkn).elim fun vs h1 => ne_knd wdQ.rw h1.1 (by intro z; cases z)) List.not_mem_nil)
          have nGl : GV ∉ [lk, la k] := nin_c (ne_knd wdQ.gv wdQ.lka.ob (by intro z; cases z)) (nin_c (fun z => wdQ.fa k hkn (by rw [z]; simp)) List.not_mem_nil)
          have nrl : ∀ j, j < n → ra j ∉ [lk, la k] := fun j hj => nin_c ((wdQ.qr j hj).elim fun vs h1 => ne_knd h1.1 wdQ.lka.ob (by intro z; cases z)) (nin_c (fun z => wdQ.fx k j hkn hj z.symm) List.not_mem_nil)
          have hrw2 := kP.out _ _ nRl wdQ.rw
          have hgv2 := kP.out _ _ nGl wdQ.gv
          have hvr2 := kP.out _ _ (nrl k hkn) hvr0
          have tvr2 := tps_kp kP tvr0
          have htp2 : P2 tp = some (.tup (kv2 (kx k))) := by rw [hpr]; exact kP.tup _ _ (ke _ _ htp)
          clear hn hp hobP
          repeat' walk_at "st"
          have hg : DGet Hn RW (.ref tp) (some (.ref (ra k))) := by
            have := DGet.t (k := kk2 (kx k)) (ke _ _ hrw2) (ke _ _ htp2)
            rw [trow_at n wdP.inj hkn] at this
            exact this
          have hgvn := ke _ _ hgv2
          have hglp : (0 : Int) < (((glOf dl).map V.int).length : Int) := by rw [List.length_map]; have := gl_pos dl; omega
          refine ⟨some (.ref (ra k)), hg, ?_⟩
          have hgl7 : (((glOf dl).map V.int).length : Int) ≤ 7 := by rw [List.length_map]; have := gl_le l7; omega
          have lvr : vr.length ≤ 120 := by have := tps_len tvr0; rw [List.length_map] at this; have := wdP.len k hkn; omega
          have hvr3 := ke _ _ hvr2
          have tvr3 := tps_ex ke tvr2
          have hrw3 := ke _ _ hrw2
          have htp3 := ke _ _ htp2
          obtain ⟨P3, rfl⟩ : ∃ x, x = Hn := ⟨_, rfl⟩
          have k23 : Ex P2 P3 := ke
          clear hn hp ke
          repeat' walk_at "st"
          refine q_ixL (sql hgvn) (gl_at (m := m) (by rw [List.length_map]; exact modI m _ (gl_pos dl))) ?_
          repeat' walk_at "st"
          rename_i ma B1 hma kb1 hma1 ta B2 hta kb2 hta1
          have x3n : Ex P3 Hn := (kb1.trans kb2).trans ke
          have tnew : Tp Hn (.ref ta) (qd (t + dlyOf dl m, (m : Int))) := q_tp (ke _ _ hta1) (ke _ _ (kb2 _ _ hma1))
          show rAddA K (.ref (ra k)) (.ref p) Hn _
          refine q_catN (xs := vr) (x3n _ _ hvr3) hn (by simp; try omega) (fun R P4 hR e4 hR4 => ?_)
          have hrwn := x3n _ _ hrw3
          have htpn := x3n _ _ htp3
          obtain ⟨P3n, rfl⟩ : ∃ x, x = Hn := ⟨_, rfl⟩
          clear hn hp ke kb1 kb2 hma1 hta1 hma hta
          repeat' walk_at "st"
          refine ⟨RW, _, rfl, DPut.t (k := kk2 (kx k)) (e4 _ _ hrwn) (e4 _ _ htpn) (by rw [trow_len, sizeLine_eq]; have := wdP.nm; omega), ?_⟩
          rw [trow_old wdP.inj hkn]
          generalize hqq : upd P4 RW _ = P5
          have kRW : Kp [RW] P4 P5 := by
            rw [← hqq]
            exact kp_one (e4 _ _ hrwn) (by intro _ z; cases z)
          have hRW5 := at_new hqq
          clear hqq
          repeat' walk_at "st"
          have kB : Kp [lk, la k] Q0 P3n := (kP.trans k23.kp).trans x3n.kp
          have soQ : StOk st c Q0 := st_ex keQ soP
          have soB : StOk st c P3n := st_kpx kB (alln_c (st_lists soQ wdQ.lka.ob (by intro _ z; cases z)) (alln_c (nin_st (wdQ.fa k hkn)) alln_n)) soQ
          have so5 : StOk st c P5 := st_kpx kRW (alln_c (st_lists soQ wdQ.rw (by intro _ z; cases z)) alln_n) (st_ex e4 soB)
          exact ⟨m + 1, n, kx, la, _, _, _, _, _, rfl, so5, wdQ.old hkn kB e4 hR soB (fsome (x3n _ _ (k23 _ _ lkP.ob))) (qaP.elim fun v h => fsome (x3n _ _ (k23 _ _ h.1))) kRW (((lkP.exx k23).exx x3n).exx e4) (((qaP.ex k23).ex x3n).ex e4) hRW5 ⟨_, hR4, by rw [List.map_append]; exact tps_ex e4 (tps_app (tps_ex x3n tvr3) (.cons tnew .nil))⟩, by omega⟩
        · obtain ⟨Q0, rfl⟩ : ∃ x, x = Hn := ⟨_, rfl⟩
          have keQ := ke
          have wdQ := wdP.ex keQ
          have nRl : RW ∉ [lk, LN] := nin_c (ne_knd wdQ.rw wdQ.lka.ob (by intro z; cases z)) (nin_c wdQ.nLR.symm List.not_mem_nil)
          have nGl : GV ∉ [lk, LN] := nin_c (ne_knd wdQ.gv wdQ.lka.ob (by intro z; cases z)) (nin_c (ne_knd wdQ.gv wdQ.lka.ln (by intro z; cases z)) List.not_mem_nil)
          have hrw2 := kP.out _ _ nRl wdQ.rw
          have hgv2 := kP.out _ _ nGl wdQ.gv
          have htp2 : P2 tp = some (.tup (kv2 pr)) := by rw [hpr]; exact kP.tup _ _ (ke _ _ htp)
          clear hn hp hobP
          repeat' walk_at "st"
          have hg : DGet Hn RW (.ref tp) none := by
            have := DGet.t (k := kk2 pr) (ke _ _ hrw2) (ke _ _ htp2)
            rw [find_row n hno] at this
            exact this
          have hgvn := ke _ _ hgv2
          have hglp : (0 : Int) < (((glOf dl).map V.int).length : Int) := by rw [List.length_map]; have := gl_pos dl; omega
          refine ⟨none, hg, ?_⟩
          have hgl7 : (((glOf dl).map V.int).length : Int) ≤ 7 := by rw [List.length_map]; have := gl_le l7; omega
          have hrw3 := ke _ _ hrw2
          have htp3 := ke _ _ htp2
          obtain ⟨P3, rfl⟩ : ∃ x, x = Hn := ⟨_, rfl⟩
          obtain ⟨EL, rfl⟩ : ∃ x, x = p := ⟨_, rfl⟩
          have hE := hn
          have k23 : Ex P2 P3 := ke
          clear hn hp ke
          repeat' walk_at "st"
          refine q_ixL (sql hgvn) (gl_at (m := m) (by rw [List.length_map]; exact modI m _ (gl_pos dl))) ?_
          repeat' walk_at "st"
          rename_i ma B1 hma kb1 hma1 ta B2 hta kb2 hta1
          have x3n : Ex P3 Hn := (kb1.trans kb2).trans ke
          have tnew : Tp Hn (.ref ta) (qd (t + dlyOf dl m, (m : Int))) := q_tp (ke _ _ hta1) (ke _ _ (kb2 _ _ hma1))
          show rAddA K (.ref EL) (.ref p) Hn _
          refine q_catN (xs := []) (x3n _ _ hE) hn (by simp; try omega) (fun R P4 hR e4 hR4 => ?_)
          have hrwn := x3n _ _ hrw3
          have htpn := x3n _ _ htp3
          obtain ⟨P3n, rfl⟩ : ∃ x, x = Hn := ⟨_, rfl⟩
          clear hn hp ke kb1 kb2 hma1 hta1 hma hta
          repeat' walk_at "st"
          refine ⟨RW, _, rfl, DPut.t (k := kk2 pr) (e4 _ _ hrwn) (e4 _ _ htpn) (by rw [trow_len, sizeLine_eq]; have := wdP.nm; omega), ?_⟩
          rw [trow_new hno]
          generalize hqq : upd P4 RW _ = P5
          have kRW : Kp [RW] P4 P5 := by
            rw [← hqq]
            exact kp_one (e4 _ _ hrwn) (by intro _ z; cases z)
          have hRW5 := at_new hqq
          clear hqq
          repeat' walk_at "st"
          have kB : Kp [lk, LN] Q0 P3n := (kP.trans k23.kp).trans x3n.kp
          have soQ : StOk st c Q0 := st_ex keQ soP
          have soB : StOk st c P3n := st_kpx kB (alln_c (st_lists soQ wdQ.lka.ob (by intro _ z; cases z)) (alln_c (st_lists soQ wdQ.lka.ln (by intro _ z; cases z)) alln_n)) soQ
          have so5 : StOk st c P5 := st_kpx kRW (alln_c (st_lists soQ wdQ.rw (by intro _ z; cases z)) alln_n) (st_ex e4 soB)
          exact ⟨m + 1, n + 1, _, _, _, _, _, _, _, rfl, so5, wdQ.new hno kB nL (qaP.elim fun v h => fsome (x3n _ _ (k23 _ _ h.1))) e4 hR soQ soB kRW (((lkP.exx k23).exx x3n).exx e4) (((qaP.ex k23).ex x3n).ex e4) hRW5 ⟨_, hR4, tps_ex e4 (.cons tnew .nil)⟩, by omega⟩
      · clear wd5 so5'
        rintro σ G0 ⟨m, n, kx, la, ra, qx, y9, y11, y13, rfl, so0, wd, hm⟩
        have hob0 := wd.lka.ob
        simp only [lfl] at hob0
        repeat' walk_at "st"
        refine ⟨lk, dx, DD, LN, dl, m, n, kx, la, qx, rfl, wd.lka, wd.inj, wd.ql, ?_⟩
        obtain ⟨s0, s1⟩ := lens_sum (qx := qx) n
        generalize ((List.range n).all fun k => (qx k).isEmpty) = eb at s1 ⊢
        repeat' walk_at "st"
        refine ⟨RW, .dT (trow kx ra n), wd.rw, trivial, fun od => ?_⟩
        generalize hG : upd G0 RW _ = G1
        have hG' : G1 RW = some (.frz od (.dT (trow kx ra n))) := at_new hG
        have kG : Kp [RW] G0 G1 := by
          rw [← hG]
          exact kp_one wd.rw (by intro _ z; cases z)
        clear hG
        repeat' walk_at "st"
        refine r_keysT ?_
        repeat' walk_at "st"
        refine ⟨RW, od, rfl, .inr ⟨_, hG', ?_⟩⟩
        intro D hD
        refine lc_keysT (fun i H' => Ex G1 H' ∧ H' D = some (.lst ((lensQ qx i).map V.int))) ?_ ?_ ?_ ?_
        · exact ⟨Ex.mk hD rfl, upd_same⟩
        · rintro i H' _ ⟨e, _⟩
          exact e _ _ hG'
        · rintro i x H' hi ⟨e, hDi⟩ ⟨k, v, b, hik, rfl, hb⟩
          rw [trow_len] at hi
          rw [trow_ix hi] at hik
          cases hik
          obtain ⟨vs, hv, tv⟩ := wd.qr i hi
          have hv0 : H' (ra i) = some (.lst vs) := e _ _ (kG.out _ _ (nin_c (ne_knd hv wd.rw (by intro z; cases z)) List.not_mem_nil) hv)
          have lvs : vs.length = (qx i).length := by rw [tps_len tv, List.length_map]
          have hg : DGet H' RW (.ref b) (some (.ref (ra i))) := .inr ⟨trow kx ra n, kk2 (kx i), b, rd_frz (e _ _ hG'), rfl, hb, by rw [trow_at n wd.inj hi]⟩
          refine ⟨rfl, ?_⟩
          repeat' walk_at "st"
          refine ⟨RW, .ref (ra i), rfl, hg, ?_⟩
          repeat' walk_at "st"
          refine ⟨_, hDi, sl1000' (by unfold lensQ; rw [List.length_map, List.length_map, List.length_range]; have := wd.nm; omega), ?_⟩
          generalize hq : upd H' D _ = H9
          have h9 := at_new hq
          have k9 := kp_updL hDi hq
          refine ⟨kp_new k9 e hD, ?_⟩
          rw [h9, lensQ_succ, List.map_append, lvs]
          rfl
        · rintro H' ⟨e, hDn⟩
          rw [trow_len] at hDn
          refine ⟨e _ _ hG', ?_⟩
          have nDR : D ≠ RW := (ne_of_none hG' hD).symm
          generalize hG2 : upd H' RW _ = G2
          have e02 : Ex G0 G2 := fun b u hb => by
            rw [← hG2]
            by_cases c2 : b = RW
            · rw [c2, upd_same]
              rw [c2, wd.rw] at hb
              exact hb
            · rw [upd_ne c2]
              exact e _ _ (kG.out _ _ (nin_c c2 List.not_mem_nil) hb)
          have hD2 : G2 D = some (.lst ((lensQ qx n).map V.int)) := by
            rw [← hG2, upd_ne nDR]
            exact hDn
          clear hG2 hDn e hG' kG hD
          repeat' walk_at "st"
          refine ⟨D, lensQ qx n, rfl, sql hD2, ?_⟩
          generalize (lensQ qx n).sum = sm at s0 s1 ⊢
          have so2 := st_ex e02 so0
          have wd2 := wd.ex e02
          have hm2 : m ≤ 3 * (i + 1) := by omega
          by_cases hz : sm = 0
          · have he := s1.mp hz
            subst he hz
            repeat' walk_at "st"
            exact ⟨_, _, _, _, _, _, _, _, _, _, _, _, _, rfl, so2, wd2, hm2⟩
          · have he : eb = false := by
              cases eb with
              | false => rfl
              | true => exact absurd (s1.mpr rfl) hz
            subst he
            repeat' walk_at "st"
            · exact absurd (by assumption) hz
            · exact ⟨_, _, _, _, _, _, _, _, _, _, _, _, _, rfl, so2, wd2, hm2⟩
  · rintro σ G0 ⟨m, n, kx, la, ra, qx, y6, y8, y9, y10, y11, y12, y13, rfl, so0, wd, hm⟩
    repeat' walk_at "st"
    exact q _
theorem build_law {C_Links : Addr} {fd : FuncData} {fa : Addr} (F : Fun K "law" "law" s_law fa fd) (T : Glo K w mg) (D_copied : Dn K mg "copied" s_copied p_copied) (D__law_state : Dn K mg "_law_state" s__law_state p__law_state) (D__law_draw : Dn K mg "_law_draw" s__law_draw p__law_draw) (D__law_pick : Dn K mg "_law_pick" s__law_pick p__law_pick) (D_Links___init__ : DnI K mg "Links" "Links.__init__" C_Links s_Links___init__ p_Links___init__) (D_Links_send : DnM K C_Links "send" "Links.send" s_Links_send p_Links_send) (D_Links_next_delay : DnM K C_Links "next_delay" "Links.next_delay" s_Links_next_delay p_Links_next_delay) (D_Links_due : DnM K C_Links "due" "Links.due" s_Links_due p_Links_due) (D_Links_empty : DnM K C_Links "empty" "Links.empty" s_Links_empty p_Links_empty) (W : LkK K C_Links) : FnOk P w K mg base CX0 10 fa fd ["script"] (sp_law K) := by
  have dr := ok_draw (P := P) (w := w) (base := base) T D__law_draw
  have pi := ok_pick T D__law_pick dr
  have co := copied_all (P := P) (w := w) (base := base) T D_copied 4
  have nx := ok_next (P := P) (w := w) (base := base) T W D_Links_next_delay
  exact body_law (F := F) T (ok_state T D__law_state) dr pi (ok_linit T W D_Links___init__) W (ok_due T W D_Links_due) (ok_send T W D_Links_send nx co) (ok_empty T W D_Links_empty)
theorem dn_mk {h : Heap} {x : Str} {st : Stmt} {ps : List Str} {f : Addr} {oc : Value} {od an : Option Addr} {osl : Array (Option Value)} {kV doc pm cdv ct : Value} (X : K.In h) (G : h.Ns mainGlobals mg) (a : PySem.W.nsIn K mainGlobals x = some (some (.ref f)))
    (l : K.lookup f = some ⟨oc, od, .func (PySem.W.fnOf x x (defArgs st) (defBody st) (defScope st) .none kV doc pm an cdv ct), osl⟩) (c : PySem.W.codeIn K cdv x = true) (k : PySem.W.keepIn K (.ref f) = true)
    (hb : ∀ (kV doc pm : Value) (an : Option Addr) (cdv ct : Value) (us : List Value), us.length = ps.length → bindArgs (PySem.W.fnOf x x (defArgs st) (defBody st) (defScope st) .none kV doc pm an cdv ct) ⟨us, []⟩ = pure (ps.zip us)) : Dn K mg x st ps :=
  ⟨f, _, fun_mk l c k, PySem.W.mg_of X G a, (fun_mk l c k).binds hb⟩
theorem all_mk {l : PySem.W.OpenLaw} {w : World} {K : PySem.W.Frag} {h : Heap} {mg : Str → Option Value} {fa : Addr} (X : K.In h) (G : h.Ns mainGlobals mg) (hfa : mg "law" = some (.ref fa))
    {f0 : Addr} {od0 an0 : Option Addr} {sl0 : Array (Option Value)} {oc0 kV0 dc0 pm0 cd0 ct0 : Value}
    {f1 : Addr} {od1 an1 : Option Addr} {sl1 : Array (Option Value)} {oc1 kV1 dc1 pm1 cd1 ct1 : Value}
    {f2 : Addr} {od2 an2 : Option Addr} {sl2 : Array (Option Value)} {oc2 kV2 dc2 pm2 cd2 ct2 : Value}
    {f3 : Addr} {od3 an3 : Option Addr} {sl3 : Array (Option Value)} {oc3 kV3 dc3 pm3 cd3 ct3 : Value}
    {f4 : Addr} {od4 an4 : Option Addr} {sl4 : Array (Option Value)} {oc4 kV4 dc4 pm4 cd4 ct4 : Value}
    {C_Links : Addr}
    {f_Links___init__ : Addr} {od_Links___init__ an_Links___init__ : Option Addr} {sl_Links___init__ : Array (Option Value)} {oc_Links___init__ kV_Links___init__ dc_Links___init__ pm_Links___init__ cd_Links___init__ ct_Links___init__ : Value}
    {f_Links_send : Addr} {od_Links_send an_Links_send : Option Addr} {sl_Links_send : Array (Option Value)} {oc_Links_send kV_Links_send dc_Links_send pm_Links_send cd_Links_send ct_Links_send : Value}
    {f_Links_next_delay : Addr} {od_Links_next_delay an_Links_next_delay : Option Addr} {sl_Links_next_delay : Array (Option Value)} {oc_Links_next_delay kV_Links_next_delay dc_Links_next_delay pm_Links_next_delay cd_Links_next_delay ct_Links_next_delay : Value}
    {f_Links_due : Addr} {od_Links_due an_Links_due : Option Addr} {sl_Links_due : Array (Option Value)} {oc_Links_due kV_Links_due dc_Links_due pm_Links_due cd_Links_due ct_Links_due : Value}
    {f_Links_empty : Addr} {od_Links_empty an_Links_empty : Option Addr} {sl_Links_empty : Array (Option Value)} {oc_Links_empty kV_Links_empty dc_Links_empty pm_Links_empty cd_Links_empty ct_Links_empty : Value}
    (a0 : PySem.W.nsIn K mainGlobals "copied" = some (some (.ref f0))) (l0 : K.lookup f0 = some ⟨oc0, od0, .func (PySem.W.fnOf "copied" "copied" (defArgs s_copied) (defBody s_copied) (defScope s_copied) .none kV0 dc0 pm0 an0 cd0 ct0), sl0⟩) (c0 : PySem.W.codeIn K cd0 "copied" = true) (k0 : PySem.W.keepIn K (.ref f0) = true)
    (a1 : PySem.W.nsIn K mainGlobals "_law_state" = some (some (.ref f1))) (l1 : K.lookup f1 = some ⟨oc1, od1, .func (PySem.W.fnOf "_law_state" "_law_state" (defArgs s__law_state) (defBody s__law_state) (defScope s__law_state) .none kV1 dc1 pm1 an1 cd1 ct1), sl1⟩) (c1 : PySem.W.codeIn K cd1 "_law_state" = true) (k1 : PySem.W.keepIn K (.ref f1) = true)
    (a2 : PySem.W.nsIn K mainGlobals "_law_draw" = some (some (.ref f2))) (l2 : K.lookup f2 = some ⟨oc2, od2, .func (PySem.W.fnOf "_law_draw" "_law_draw" (defArgs s__law_draw) (defBody s__law_draw) (defScope s__law_draw) .none kV2 dc2 pm2 an2 cd2 ct2), sl2⟩) (c2 : PySem.W.codeIn K cd2 "_law_draw" = true) (k2 : PySem.W.keepIn K (.ref f2) = true)
    (a3 : PySem.W.nsIn K mainGlobals "_law_pick" = some (some (.ref f3))) (l3 : K.lookup f3 = some ⟨oc3, od3, .func (PySem.W.fnOf "_law_pick" "_law_pick" (defArgs s__law_pick) (defBody s__law_pick) (defScope s__law_pick) .none kV3 dc3 pm3 an3 cd3 ct3), sl3⟩) (c3 : PySem.W.codeIn K cd3 "_law_pick" = true) (k3 : PySem.W.keepIn K (.ref f3) = true)
    (a4 : PySem.W.nsIn K mainGlobals "law" = some (some (.ref f4))) (l4 : K.lookup f4 = some ⟨oc4, od4, .func (PySem.W.fnOf "law" "law" (defArgs s_law) (defBody s_law) (defScope s_law) .none kV4 dc4 pm4 an4 cd4 ct4), sl4⟩) (c4 : PySem.W.codeIn K cd4 "law" = true) (k4 : PySem.W.keepIn K (.ref f4) = true)
    (aC_Links : PySem.W.nsIn K mainGlobals "Links" = some (some (.ref C_Links))) (pg_Links : PySem.W.plainGet K C_Links Str.empty = true) (hd_Links : PySem.W.hasDictIn K C_Links = true) (po_Links : PySem.W.plainOver K C_Links = true) (sa_Links : PySem.W.findIn K (.ref C_Links) "__setattr__" = some (some (.builtin "object.__setattr__"))) (mk_Links : PySem.W.makesIn K C_Links = true) (kc_Links : PySem.W.keepIn K (.ref C_Links) = true)
    (na_Links_delays : PySem.W.findIn K (.ref C_Links) "delays" = some none)
    (na_Links_many : PySem.W.findIn K (.ref C_Links) "many" = some none)
    (na_Links_lanes : PySem.W.findIn K (.ref C_Links) "lanes" = some none)
    (a_Links___init__ : PySem.W.findIn K (.ref C_Links) "__init__" = some (some (.ref f_Links___init__))) (i_Links___init__ : PySem.W.isFn K (.ref f_Links___init__) = true) (l_Links___init__ : K.lookup f_Links___init__ = some ⟨oc_Links___init__, od_Links___init__, .func (PySem.W.fnOf "__init__" "Links.__init__" (defArgs s_Links___init__) (defBody s_Links___init__) (defScope s_Links___init__) .none kV_Links___init__ dc_Links___init__ pm_Links___init__ an_Links___init__ cd_Links___init__ ct_Links___init__), sl_Links___init__⟩) (c_Links___init__ : PySem.W.codeIn K cd_Links___init__ "Links.__init__" = true) (k_Links___init__ : PySem.W.keepIn K (.ref f_Links___init__) = true)
    (a_Links_send : PySem.W.findIn K (.ref C_Links) "send" = some (some (.ref f_Links_send))) (i_Links_send : PySem.W.isFn K (.ref f_Links_send) = true) (l_Links_send : K.lookup f_Links_send = some ⟨oc_Links_send, od_Links_send, .func (PySem.W.fnOf "send" "Links.send" (defArgs s_Links_send) (defBody s_Links_send) (defScope s_Links_send) .none kV_Links_send dc_Links_send pm_Links_send an_Links_send cd_Links_send ct_Links_send), sl_Links_send⟩) (c_Links_send : PySem.W.codeIn K cd_Links_send "Links.send" = true) (k_Links_send : PySem.W.keepIn K (.ref f_Links_send) = true)
    (a_Links_next_delay : PySem.W.findIn K (.ref C_Links) "next_delay" = some (some (.ref f_Links_next_delay))) (i_Links_next_delay : PySem.W.isFn K (.ref f_Links_next_delay) = true) (l_Links_next_delay : K.lookup f_Links_next_delay = some ⟨oc_Links_next_delay, od_Links_next_delay, .func (PySem.W.fnOf "next_delay" "Links.next_delay" (defArgs s_Links_next_delay) (defBody s_Links_next_delay) (defScope s_Links_next_delay) .none kV_Links_next_delay dc_Links_next_delay pm_Links_next_delay an_Links_next_delay cd_Links_next_delay ct_Links_next_delay), sl_Links_next_delay⟩) (c_Links_next_delay : PySem.W.codeIn K cd_Links_next_delay "Links.next_delay" = true) (k_Links_next_delay : PySem.W.keepIn K (.ref f_Links_next_delay) = true)
    (a_Links_due : PySem.W.findIn K (.ref C_Links) "due" = some (some (.ref f_Links_due))) (i_Links_due : PySem.W.isFn K (.ref f_Links_due) = true) (l_Links_due : K.lookup f_Links_due = some ⟨oc_Links_due, od_Links_due, .func (PySem.W.fnOf "due" "Links.due" (defArgs s_Links_due) (defBody s_Links_due) (defScope s_Links_due) .none kV_Links_due dc_Links_due pm_Links_due an_Links_due cd_Links_due ct_Links_due), sl_Links_due⟩) (c_Links_due : PySem.W.codeIn K cd_Links_due "Links.due" = true) (k_Links_due : PySem.W.keepIn K (.ref f_Links_due) = true)
    (a_Links_empty : PySem.W.findIn K (.ref C_Links) "empty" = some (some (.ref f_Links_empty))) (i_Links_empty : PySem.W.isFn K (.ref f_Links_empty) = true) (l_Links_empty : K.lookup f_Links_empty = some ⟨oc_Links_empty, od_Links_empty, .func (PySem.W.fnOf "empty" "Links.empty" (defArgs s_Links_empty) (defBody s_Links_empty) (defScope s_Links_empty) .none kV_Links_empty dc_Links_empty pm_Links_empty an_Links_empty cd_Links_empty ct_Links_empty), sl_Links_empty⟩) (c_Links_empty : PySem.W.codeIn K cd_Links_empty "Links.empty" = true) (k_Links_empty : PySem.W.keepIn K (.ref f_Links_empty) = true)
    (z_n_len : PySem.W.nsIn K mainGlobals "len" = some none) (z_n_int : PySem.W.nsIn K mainGlobals "int" = some none) (z_n_abs : PySem.W.nsIn K mainGlobals "abs" = some none) (z_n_range : PySem.W.nsIn K mainGlobals "range" = some none) (z_n_list : PySem.W.nsIn K mainGlobals "list" = some none) (z_n_tuple : PySem.W.nsIn K mainGlobals "tuple" = some none) (z_n_dict : PySem.W.nsIn K mainGlobals "dict" = some none) (z_n_bool : PySem.W.nsIn K mainGlobals "bool" = some none) (z_n_sorted : PySem.W.nsIn K mainGlobals "sorted" = some none) (z_n_sum : PySem.W.nsIn K mainGlobals "sum" = some none) (z_n_isinstance : PySem.W.nsIn K mainGlobals "isinstance" = some none) :
    ∃ fd : FuncData, (∀ (s : Shared) (v : Value), BindsTo s fd ⟨[v], []⟩ [("script", v)]) ∧ ∀ base : Heap, K.In base → base.Ns mainGlobals mg → FnOk l.prog w K mg base CX0 10 fa fd ["script"] (sp_law K) := by
  have e := hfa.symm.trans (PySem.W.mg_of X G a4)
  cases e
  have FL := fun_mk (st := s_law) l4 c4 k4
  have D_copied : Dn K mg "copied" s_copied p_copied := dn_mk X G a0 l0 c0 k0 (fun _ _ _ _ _ _ us hl => match us, hl with | [_], _ => rfl)
  have D__law_state : Dn K mg "_law_state" s__law_state p__law_state := dn_mk X G a1 l1 c1 k1 (fun _ _ _ _ _ _ us hl => match us, hl with | [_], _ => rfl)
  have D__law_draw : Dn K mg "_law_draw" s__law_draw p__law_draw := dn_mk X G a2 l2 c2 k2 (fun _ _ _ _ _ _ us hl => match us, hl with | [_, _], _ => rfl)
  have D__law_pick : Dn K mg "_law_pick" s__law_pick p__law_pick := dn_mk X G a3 l3 c3 k3 (fun _ _ _ _ _ _ us hl => match us, hl with | [_, _], _ => rfl)
  have CL_Links : Cls K C_Links := ⟨pg_Links, hd_Links, po_Links, sa_Links⟩
  have F_Links___init__ := fun_mk (st := s_Links___init__) l_Links___init__ c_Links___init__ k_Links___init__
  have b_Links___init__ := F_Links___init__.binds (ps := p_Links___init__) fun _ _ _ _ _ _ us hl => match us, hl with | [_, _], _ => rfl
  have D_Links___init__ : DnI K mg "Links" "Links.__init__" C_Links s_Links___init__ p_Links___init__ := ⟨_, _, ⟨mk_Links, a_Links___init__, i_Links___init__, kc_Links⟩, F_Links___init__, PySem.W.mg_of X G aC_Links, b_Links___init__⟩
  have F_Links_send := fun_mk (st := s_Links_send) l_Links_send c_Links_send k_Links_send
  have b_Links_send := F_Links_send.binds (ps := p_Links_send) fun _ _ _ _ _ _ us hl => match us, hl with | [_, _, _, _, _], _ => rfl
  have D_Links_send : DnM K C_Links "send" "Links.send" s_Links_send p_Links_send := ⟨_, _, CL_Links, ⟨a_Links_send, i_Links_send, k_Links_send⟩, F_Links_send, b_Links_send⟩
  have F_Links_next_delay := fun_mk (st := s_Links_next_delay) l_Links_next_delay c_Links_next_delay k_Links_next_delay
  have b_Links_next_delay := F_Links_next_delay.binds (ps := p_Links_next_delay) fun _ _ _ _ _ _ us hl => match us, hl with | [_], _ => rfl
  have D_Links_next_delay : DnM K C_Links "next_delay" "Links.next_delay" s_Links_next_delay p_Links_next_delay := ⟨_, _, CL_Links, ⟨a_Links_next_delay, i_Links_next_delay, k_Links_next_delay⟩, F_Links_next_delay, b_Links_next_delay⟩
  have F_Links_due := fun_mk (st := s_Links_due) l_Links_due c_Links_due k_Links_due
  have b_Links_due := F_Links_due.binds (ps := p_Links_due) fun _ _ _ _ _ _ us hl => match us, hl with | [_, _], _ => rfl
  have D_Links_due : DnM K C_Links "due" "Links.due" s_Links_due p_Links_due := ⟨_, _, CL_Links, ⟨a_Links_due, i_Links_due, k_Links_due⟩, F_Links_due, b_Links_due⟩
  have F_Links_empty := fun_mk (st := s_Links_empty) l_Links_empty c_Links_empty k_Links_empty
  have b_Links_empty := F_Links_empty.binds (ps := p_Links_empty) fun _ _ _ _ _ _ us hl => match us, hl with | [_], _ => rfl
  have D_Links_empty : DnM K C_Links "empty" "Links.empty" s_Links_empty p_Links_empty := ⟨_, _, CL_Links, ⟨a_Links_empty, i_Links_empty, k_Links_empty⟩, F_Links_empty, b_Links_empty⟩
  have X_Links := (⟨CL_Links, na_Links_delays, na_Links_many, na_Links_lanes⟩ : LkK K C_Links)
  have T : Glo K w mg := ⟨PySem.W.mg_none_of X G z_n_len, PySem.W.mg_none_of X G z_n_int, PySem.W.mg_none_of X G z_n_abs, PySem.W.mg_none_of X G z_n_range, PySem.W.mg_none_of X G z_n_list, PySem.W.mg_none_of X G z_n_tuple, PySem.W.mg_none_of X G z_n_dict, PySem.W.mg_none_of X G z_n_bool, PySem.W.mg_none_of X G z_n_sorted, PySem.W.mg_none_of X G z_n_sum, PySem.W.mg_none_of X G z_n_isinstance⟩
  refine ⟨PySem.W.fnOf "law" "law" (defArgs s_law) (defBody s_law) (defScope s_law) .none kV4 dc4 pm4 an4 cd4 ct4, fun s v => .of_eq rfl, fun base _ _ => ?_⟩
  exact build_law FL T D_copied D__law_state D__law_draw D__law_pick D_Links___init__ D_Links_send D_Links_next_delay D_Links_due D_Links_empty X_Links
theorem walk {l : PySem.W.OpenLaw} {q : Program} {loose : List Str} {XP : (Str → Option Value) → Heap → Prop} {YP : World → Heap → Prop} {d : DefRec} {K : Params → PySem.W.Frag} (hn : l.most = some 63) (hdf : d.params.defaults = [])
    (hY : ∀ (w : World) (h : Heap), YP w h → (K w.params).In h)
    (F : ∀ (w : World) (mg : Str → Option Value) (fa : Addr) (h : Heap), (K w.params).In h → h.Ns mainGlobals mg → mg d.name = some (.ref fa) →
      ∃ fd : FuncData, (∀ (s : Shared) (u : Value), BindsTo s fd ⟨[u], []⟩ [("script", u)]) ∧ ∀ base : Heap, (K w.params).In base → base.Ns mainGlobals mg → FnOk l.prog w (K w.params) mg base CX0 10 fa fd ["script"] (sp_law (K w.params))) :
    PySem.W.WalkO q loose XP YP l.row.toRowW d [] (fun f vs => PySem.call f vs) :=
  L2.walk_of (n := 63) (k := 10) (x := "script") (CX := fun _ => CX0) (sp := fun w => sp_law (K w.params)) hn (by decide) hdf ⟨rfl, by decide, by decide⟩ hY F (fun _ _ a ns hl _ hS => ⟨a, ns, rfl, hS, hl, fun _ => rfl⟩) fun _ _ _ _ _ z => z
end Y
open PySem PySem.W PyProof.Rows
set_option maxRecDepth 100000 in
set_option maxHeartbeats 0 in
theorem PySem.Challenge.cw_placedanyhow_k43_links_keep_their_order_holds : PySem.Challenge.rw_placedanyhow_k43_links_keep_their_order.Holds := by
  w_on; o_law; k_head; (case hw => w_witness2)
  k_fill
  refine Y.walk (l := PySem.Challenge.rw_placedanyhow_k43_links_keep_their_order) rfl rfl (fun w h Y => PySem.W.kIn_of Y) ?F
  case F =>
    intro w mg fa h KX G hmg
    refine' Y.all_mk KX G hmg ?a0 ?l0 ?c0 ?k0 ?a1 ?l1 ?c1 ?k1 ?a2 ?l2 ?c2 ?k2 ?a3 ?l3 ?c3 ?k3 ?a4 ?l4 ?c4 ?k4 ?aC_Links ?pg_Links ?hd_Links ?po_Links ?sa_Links ?mk_Links ?kc_Links ?na_Links_delays ?na_Links_many ?na_Links_lanes ?a_Links___init__ ?i_Links___init__ ?l_Links___init__ ?c_Links___init__ ?k_Links___init__ ?a_Links_send ?i_Links_send ?l_Links_send ?c_Links_send ?k_Links_send ?a_Links_next_delay ?i_Links_next_delay ?l_Links_next_delay ?c_Links_next_delay ?k_Links_next_delay ?a_Links_due ?i_Links_due ?l_Links_due ?c_Links_due ?k_Links_due ?a_Links_empty ?i_Links_empty ?l_Links_empty ?c_Links_empty ?k_Links_empty ?z_n_len ?z_n_int ?z_n_abs ?z_n_range ?z_n_list ?z_n_tuple ?z_n_dict ?z_n_bool ?z_n_sorted ?z_n_sum ?z_n_isinstance
    (case a0 => k_is); (case l0 => k_is); (case c0 => k_is); (case k0 => k_is)
    (case a1 => k_is); (case l1 => k_is); (case c1 => k_is); (case k1 => k_is)
    (case a2 => k_is); (case l2 => k_is); (case c2 => k_is); (case k2 => k_is)
    (case a3 => k_is); (case l3 => k_is); (case c3 => k_is); (case k3 => k_is)
    (case a4 => k_is); (case l4 => k_is); (case c4 => k_is); (case k4 => k_is)
    (case aC_Links => k_is)
    (case pg_Links => k_is)
    (case hd_Links => k_is)
    (case po_Links => k_is)
    (case sa_Links => k_is)
    (case mk_Links => k_is)
    (case kc_Links => k_is)
    (case na_Links_delays => k_is)
    (case na_Links_many => k_is)
    (case na_Links_lanes => k_is)
    (case a_Links___init__ => k_is)
    (case i_Links___init__ => k_is)
    (case l_Links___init__ => k_is)
    (case c_Links___init__ => k_is)
    (case k_Links___init__ => k_is)
    (case a_Links_send => k_is)
    (case i_Links_send => k_is)
    (case l_Links_send => k_is)
    (case c_Links_send => k_is)
    (case k_Links_send => k_is)
    (case a_Links_next_delay => k_is)
    (case i_Links_next_delay => k_is)
    (case l_Links_next_delay => k_is)
    (case c_Links_next_delay => k_is)
    (case k_Links_next_delay => k_is)
    (case a_Links_due => k_is)
    (case i_Links_due => k_is)
    (case l_Links_due => k_is)
    (case c_Links_due => k_is)
    (case k_Links_due => k_is)
    (case a_Links_empty => k_is)
    (case i_Links_empty => k_is)
    (case l_Links_empty => k_is)
    (case c_Links_empty => k_is)
    (case k_Links_empty => k_is)
    (case z_n_len => k_is)
    (case z_n_int => k_is)
    (case z_n_abs => k_is)
    (case z_n_range => k_is)
    (case z_n_list => k_is)
    (case z_n_tuple => k_is)
    (case z_n_dict => k_is)
    (case z_n_bool => k_is)
    (case z_n_sorted => k_is)
    (case z_n_sum => k_is)
    (case z_n_isinstance => k_is)
#print axioms PySem.Challenge.cw_placedanyhow_k43_links_keep_their_order_holds
