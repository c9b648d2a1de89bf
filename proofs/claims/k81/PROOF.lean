import PyProof.Rows.All
import Wide.All
import OpenK.AllK
import Wide.FinOn
import HandS.ForMost
import HandS.Flow
import HandS.TupAny
import HandS.TupMul
import HandS.Conv
import HandS.IsInst
import HandS.Strs
import HandS.SetFor
import HandS.ExcInit
import HandS.ExcValue
import HandS.ExcIs
import HandS.ExcField
import KE.KExcIs
import HandS.Style
import HandS.DictComp
import HandS.WordsExc
import HandS.StrMore
import PySem.Challenge.RW_cutscribe_k81_notations_spoilt
set_option Elab.async false
set_option linter.all false
set_option maxRecDepth 100000
set_option maxHeartbeats 4000000
/-! What every law of this place leans on: callees by name, readings step by step, the heap beside the source of draws. -/
namespace Cs
open PySem L2
open PyProof.Rows (envOfC)

/-! ### callees -/
structure At (K : PySem.W.Frag) (mg : Str → Option Value) (x : Str) (st : Stmt) (ps : List Str) : Prop where
  ex : ∃ f fd, Fun K x x st f fd ∧ mg x = some (.ref f) ∧ Binds K fd ps []
structure Cal (P : Program) (w : World) (K : PySem.W.Frag) (mg : Str → Option Value) (base : Heap) (k : Nat) (x : Str) (ps : List Str) (sp : Sp) : Prop where
  ex : ∃ f fd, mg x = some (.ref f) ∧ PySem.W.keepIn K (.ref f) = true ∧ Binds K fd ps [] ∧ FnOk P w K mg base CX0 k f fd ps sp
section
variable {P : Program} {w : World} {K : PySem.W.Frag} {mg : Str → Option Value} {base : Heap}
theorem Cal.mono {j k : Nat} {x : Str} {ps : List Str} {sp : Sp} (C : Cal P w K mg base j x ps sp) (h : j ≤ k) : Cal P w K mg base k x ps sp := by
  obtain ⟨f, fd, a, b, c, d⟩ := C.ex
  exact ⟨f, fd, a, b, c, d.mono h⟩
theorem Cal.imp {k : Nat} {x : Str} {ps : List Str} {sp sp' : Sp} (C : Cal P w K mg base k x ps sp) (h : ∀ vs H Q E, sp' vs H Q E → sp vs H Q E) : Cal P w K mg base k x ps sp' := by
  obtain ⟨f, fd, a, b, c, d⟩ := C.ex
  exact ⟨f, fd, a, b, c, d.imp h⟩
theorem At.ok {x : Str} {st : Stmt} {N ps : List Str} {k : Nat} {sp : Sp} (F : At K mg x st ps) (S : FnScope N ps (defScope st)) (len : ∀ vs H Q E, sp vs H Q E → vs.length = ps.length)
    (hbody : ∀ (f : Addr) (cdv : Value) (A : Around) (outer : List Env) (s : Shared) (H : Hp) (vs : List V) (Q : VK) (E : XK), Room k (A.deeper (envOfC x (defScope st) s.heap.objs.size f cdv)) → sp vs H Q E →
      ∃ t, PSs (cxOf CX0 P w K mg base N x (defScope st) f cdv A outer s H E).nox (defBody st) t ∧ t { nx := fun _ H' => Q .non H', rt := Q } (start N vs) H) : Cal P w K mg base (k + 1) x ps sp := by
  obtain ⟨f, fd, F, m, b⟩ := F.ex
  exact ⟨f, fd, m, F.kp, b, F.ok S len (hbody f)⟩
end
section
variable {X : Cx} {k : Nat} {x : Str} {ps : List Str} {sp : Sp} {p pos : Pos} {e : Expr} {es : List Expr} {t : TA}
theorem pe_c (C : Cal X.prog X.w X.K X.mg X.base k x ps sp) (hr : Room k X.A) (ha : PA X (e :: es) t) (hg : Gl X x := by rfl) (hdb : (x == ("__debug__" : Str)) = false := by decide) (he : starEach (e :: es) X.env = (false, eval e X.env) :: starEach es X.env := by rfl)
    (hpl : (backTo pos (starEach es X.env)).any (·.1) = false := by rfl) : PE X (.Call (.Name x p) (e :: es) [] pos) (tCall sp [] E0 t) := by
  obtain ⟨f, fd, hm, hk, hb, F⟩ := C.ex
  exact pe_call F hr hg hm hk hb .nil pass0 ha hdb he hpl
end

/-- a built-in class as a value -/
theorem pe_ty {X : Cx} {x : Str} {T : String} {pos : Pos} (hm : X.mg x = none) (hv : bootBuiltins x = some (.type T)) (hg : Gl X x := by rfl) (hn : x ≠ "__name__" := by decide) (hd : (x == ("__debug__" : Str)) = false := by decide) : PE X (.Name x pos) (tC (.ty T)) := pe_bltn hg hm hv rfl hn hd
/-- a module's constant -/
theorem pe_k {X : Cx} {x : Str} {v : V} {pos : Pos} (h : ∃ u, X.mg x = some u ∧ RelV v u) (hg : Gl X x := by rfl) (hd : (x == ("__debug__" : Str)) = false := by decide) : PE X (.Name x pos) (tC v) := by
  obtain ⟨u, hm, r⟩ := h
  exact pe_glob hg hm r hd

/-! ### the rules whose reading names the written part, with that part given: within a comprehension's block it must not lean on the block -/
section
variable {X : Cx} {K : PySem.W.Frag} {tg : Expr}
def rLenQ (K : PySem.W.Frag) : List V → Hp → VK → Prop := fun xs H Q => ∃ p ys, xs = [.ref p] ∧ (SqL K H p ys ∨ SqT K H p ys) ∧ Q (.int ys.length) H
def rTupOf (K : PySem.W.Frag) : List V → Hp → VK → Prop := fun xs H Q => ∃ p ys, xs = [.ref p] ∧ ((SqL K H p ys ∧ ∀ l, H l = none → Q (.ref l) (upd H l (.tup ys))) ∨ (SqT K H p ys ∧ Q (.ref p) H))
def rLstOf (K : PySem.W.Frag) : List V → Hp → VK → Prop := fun xs H Q => ∃ p ys, xs = [.ref p] ∧ (SqL K H p ys ∨ SqT K H p ys) ∧ ∀ l, H l = none → Q (.ref l) (upd H l (.lst ys))
theorem call_len_seqK (h : X.K = K) : CallR X (.builtin "len") (rLenQ K) := by subst h; exact call_len_seq
theorem call_tuple_ofK (h : X.K = K) : CallR X (.type "tuple") (rTupOf K) := by subst h; exact call_tuple_of
theorem call_list_ofK (h : X.K = K) : CallR X (.type "list") (rLstOf K) := by subst h; exact call_list_of
theorem call_isiK' (h : X.K = K) : CallR X (.builtin "isinstance") (rIsi K) := by subst h; exact call_isi
theorem ix_listK (h : X.K = K) : IxR X (rIxL K) := by subst h; exact ix_list
theorem ix_tupK (h : X.K = K) : IxR X (rIxT K) := by subst h; exact ix_tup
theorem op_in_seqK (h : X.K = K) : OpR X (compareOp .In) (rIn K false) := by subst h; exact op_in_seq
theorem op_notIn_seqK (h : X.K = K) : OpR X (compareOp .NotIn) (rIn K true) := by subst h; exact op_notIn_seq
theorem op_eqDK (h : X.K = K) (hu : X.A.units + 64 < cLine) : OpR X (compareOp .Eq) (rEqD K) := by subst h; exact op_eqD hu
theorem op_neDK (h : X.K = K) (hu : X.A.units + 64 < cLine) : OpR X (compareOp .NotEq) (rNeD K) := by subst h; exact op_neD hu
theorem op_catTK (h : X.K = K) : OpR X (binaryOp .Add) (rCatT K) := by subst h; exact op_catT
theorem sl_listK (h : X.K = K) : SlR X (rSlL K) := by subst h; exact sl_list
theorem sl_tupAK (h : X.K = K) : SlR X (rSlA K) := by subst h; exact sl_tupA
theorem cr_sumK (h : X.K = K) (hc : X.calm = true) : CallR X (.builtin "sum") (rSum K) := by subst h; exact cr_sum hc
theorem cr_allK (h : X.K = K) (hc : X.calm = true) : CallR X (.builtin "all") (rAll K) := by subst h; exact cr_all hc
theorem cr_anyK (h : X.K = K) (hc : X.calm = true) : CallR X (.builtin "any") (rAny K) := by subst h; exact cr_any hc
theorem mt_indexK (h : X.K = K) : MtR X "list.index" (rIndex K) := by subst h; exact mt_index
theorem pi_listK {l : Expr} {tl : TE} (h : X.K = K) (hl : PE X l tl) : PI X tg l (iList K tl) := by subst h; exact pi_list hl
theorem pi_tupK {l : Expr} {tl : TE} (h : X.K = K) (hl : PE X l tl) : PI X tg l (iTup K tl) := by subst h; exact pi_tup hl
theorem pg_tupK {es : List Expr} {k : Nat} {t : TGs} {n : Nat} {pos : Pos} (hK : X.K = K) (hc : X.calm = true) (h : PGs X es t)
    (hn : (assignEach es X.env).length = n := by rfl) (hst : (assignEach es X.env).findIdx? (·.1) = none := by rfl) : PG X (.Tuple es k pos) (gTup K n t) := by subst hK; exact pg_tup hc h hn hst
def tTruth (K : PySem.W.Frag) (ta : TE) : TT := fun σ H Q => ta σ H fun x H' => ∃ k, TruV K x H' k ∧ Q k H'
theorem pt_truthK {a : Expr} {ta : TE} (h : X.K = K) (ha : PE X a ta) (he : ∀ whole, isTrue a X.env whole = (do let v ← whole; standAt a.pos; holding [v] (truthy v)) := by intro _; rfl) : PT X a (tTruth K ta) := by subst h; exact pt_truth ha he
variable {o e : Expr} {es : List Expr} {to te : TE} {t : TA} {name : Str} {apos cpos pos : Pos} {T id : String} {r : V → List V → Hp → VK → Prop}
theorem pe_bm0K (h : X.K = K) (pa : PlainAttrs T) (slot : Slot T name id) (hty : typeOf (.builtin id) = pure (.type "method_descriptor")) (hm : MtR X id r) (ho : PE X o to)
    (hbase : attributeBase o name X.env (eval o X.env) = eval o X.env := by rfl) (hline : (apos.endLine == cpos.line) = true := by rfl) : PE X (.Call (.Attribute o name apos) [] [] cpos) (tBM0 K T r to) := by subst h; exact pe_bm0 pa slot hty hm ho hbase hline
theorem pe_bmK (h : X.K = K) (pa : PlainAttrs T) (slot : Slot T name id) (hty : typeOf (.builtin id) = pure (.type "method_descriptor")) (hm : MtR X id r) (ho : PE X o to) (ha : PA X (e :: es) t)
    (hbase : attributeBase o name X.env (eval o X.env) = eval o X.env := by rfl)
    (hfew : ((backTo cpos (starEach (e :: es) X.env)).all (fun x => !x.1) && (backToKw cpos (keywordEach [] X.env)).all (fun x => x.1.isSome)
      && decide ((e :: es).length + ([] : List Keyword).length + (if ([] : List Keyword).isEmpty then 0 else 1) < 30)) = true := by rfl)
    (hline : (apos.endLine == cpos.line) = true := by rfl) (hs : starEach (e :: es) X.env = (false, eval e X.env) :: starEach es X.env := by rfl) (hplain : (backTo cpos (starEach es X.env)).any (·.1) = false := by rfl) :
    PE X (.Call (.Attribute o name apos) (e :: es) [] cpos) (tBM K T r to t) := by subst h; exact pe_bm pa slot hty hm ho ha hbase hfew hline hs hplain
def rJoin (K : PySem.W.Frag) : V → List V → Hp → VK → Prop := fun x xs H Q => ∃ a p, ∃ ys : List Str, x = .str a ∧ xs = [.ref p] ∧ (SqL K H p (ys.map V.str) ∨ SqT K H p (ys.map V.str)) ∧ (ys.map (·.length)).sum + ys.length * a.length ≤ 16777216 ∧ Q (.str (Txt.join a ys)) H
theorem pe_joinK (h : X.K = K) (ho : PE X o to) (he : PE X e te) (hs : starEach [e] X.env = [(false, eval e X.env)] := by rfl) (hbase : attributeBase o "join" X.env (eval o X.env) = eval o X.env := by rfl) (hline : (apos.endLine == pos.line) = true := by rfl) :
    PE X (.Call (.Attribute o "join" apos) [e] [] pos) (tM1 (rJoin K) to te) := by subst h; exact pe_join ho he hs hbase hline
end

/-! ### readings, step by step -/
section
variable {σ : St} {H : Hp} {D : Ends} {Q : VK} {t u : TS} {te ta tb tc : TE} {v x y : V} {i : Nat} {tt c c2 : TT} {tas : TA} {K : PySem.W.Frag}
theorem rd_seq (h : t { D with nx := u D } σ H) : tSeq t u D σ H := h
theorem rd_next (h : D.nx σ H) : tNext D σ H := h
theorem rd_asg {g : TG} (h : te σ H fun x H1 => g x σ H1 D.nx) : tAsg te g D σ H := h
theorem rd_gname {R : St → Hp → Prop} (h : R (σ.set i (some v)) H) : gName i v σ H R := h
theorem rd_var (e : σ[i]? = some (some v)) (q : Q v H) : tVar i σ H Q := ⟨v, e, q⟩
theorem rd_c (q : Q v H) : tC v σ H Q := q
theorem rd_op {r : R2} (h : ta σ H fun x H1 => tb σ H1 fun y H2 => r x y H2 Q) : tOp r ta tb σ H Q := h
theorem rd_un {r : V → Hp → VK → Prop} (h : ta σ H fun x H1 => r x H1 Q) : tUn r ta σ H Q := h
theorem rd_test {R : Bool → Hp → Prop} (h : te σ H fun x H' => ∃ k, x = .bl k ∧ R k H') : tTest te σ H R := h
theorem rd_tB {R : Bool → Hp → Prop} (h : te σ H fun x H' => ∃ k, x = .bl k ∧ R k H') : tB te σ H R := h
theorem rd_bl {b : Bool} {R : Bool → Prop} (q : R b) : ∃ k, V.bl b = .bl k ∧ R k := ⟨b, rfl, q⟩
theorem rd_ifs (h : c σ H fun b H1 => if b = true then t D σ H1 else u D σ H1) : tIfS c t u D σ H := h
theorem rd_ret (h : te σ H D.rt) : tRet te D σ H := h
theorem rd_retN (h : D.rt .non H) : tRetN D σ H := h
theorem rd_drop (h : te σ H fun _ H1 => D.nx σ H1) : tDrop te D σ H := h
theorem rd_nil {R : List V → Hp → Prop} (h : R [] H) : tNil σ H R := h
theorem rd_cons {R : List V → Hp → Prop} (h : te σ H fun x H1 => tas σ H1 fun xs H2 => R (x :: xs) H2) : tCons te tas σ H R := h
/-- a new object at any free place -/
def New (H : Hp) (o : HO) (R : Addr → Hp → Prop) : Prop := ∀ p, H p = none → R p (upd H p o)
theorem rd_tup (h : tas σ H fun xs H1 => xs.length ≤ sizeLine ∧ New H1 (.tup xs) fun p H2 => Q (.ref p) H2) : tTup tas σ H Q := h
theorem rd_lst (h : tas σ H fun xs H1 => xs.length ≤ sizeLine ∧ New H1 (.lst xs) fun p H2 => Q (.ref p) H2) : tLst tas σ H Q := h
theorem rd_catT {a b : Addr} {xs ys : List V} (h1 : SqT K H a xs) (h2 : SqT K H b ys) (h3 : xs ≠ []) (h4 : xs.length + ys.length ≤ sizeLine) (q1 : ys = [] → Q (.ref a) H) (q2 : ys ≠ [] → New H (.tup (xs ++ ys)) fun p H2 => Q (.ref p) H2) : rCatT K (.ref a) (.ref b) H Q := ⟨a, b, xs, ys, rfl, rfl, h1, h2, h3, h4, q1, q2⟩
theorem rd_tupl {a : Addr} {xs : List V} (h : SqL K H a xs) (q : New H (.tup xs) fun p H2 => Q (.ref p) H2) : rTupOf K [V.ref a] H Q := ⟨a, xs, rfl, .inl ⟨h, q⟩⟩
theorem rd_tupt {a : Addr} {xs : List V} (h : SqT K H a xs) (q : Q (.ref a) H) : rTupOf K [V.ref a] H Q := ⟨a, xs, rfl, .inr ⟨h, q⟩⟩
theorem rd_lstof {a : Addr} {xs : List V} (h : SqL K H a xs ∨ SqT K H a xs) (q : New H (.lst xs) fun p H2 => Q (.ref p) H2) : rLstOf K [V.ref a] H Q := ⟨a, xs, rfl, h, q⟩
theorem rd_cb {r : List V → Hp → VK → Prop} (h : tas σ H fun vs H1 => r vs H1 Q) : tCB r tas σ H Q := h
theorem rd_call {sp : Sp} {E : XK} (h : tas σ H fun vs H1 => sp (vs ++ []) H1 Q E) : tCall sp [] E tas σ H Q := h
theorem rd_and {R : Bool → Hp → Prop} (h : c σ H fun b H1 => if b = true then c2 σ H1 R else R false H1) : tAnd c c2 σ H R := h
theorem rd_or {R : Bool → Hp → Prop} (h : c σ H fun b H1 => if b = true then R true H1 else c2 σ H1 R) : tOr c c2 σ H R := h
theorem rd_not {R : Bool → Hp → Prop} (h : c σ H fun b H1 => R (!b) H1) : tNot c σ H R := h
theorem rd_andV (h : ta σ H fun x H1 => ∃ c, x = .bl c ∧ if c = true then tb σ H1 Q else Q (.bl false) H1) : tAndV ta tb σ H Q := h
theorem rd_orV (h : ta σ H fun x H1 => ∃ c, x = .bl c ∧ if c = true then Q (.bl true) H1 else tb σ H1 Q) : tOrV ta tb σ H Q := h
theorem rd_notV (h : ta σ H fun x H1 => ∃ c, x = .bl c ∧ Q (.bl (!c)) H1) : tNotV ta σ H Q := h
theorem rd_ife (h : c σ H fun b H1 => if b = true then ta σ H1 Q else tb σ H1 Q) : tIf c ta tb σ H Q := h
theorem rd_bm0 {T : String} {r : V → List V → Hp → VK → Prop} (h : te σ H fun x H1 => tyV K T x H1 ∧ r x [] H1 Q) : tBM0 K T r te σ H Q := h
theorem rd_bm {T : String} {r : V → List V → Hp → VK → Prop} (h : te σ H fun x H1 => tyV K T x H1 ∧ tas σ H1 fun xs H2 => r x xs H2 Q) : tBM K T r te tas σ H Q := h
theorem rd_gsub {to ti : TE} {s : TSet} {R : St → Hp → Prop} (h : to σ H fun o H1 => ti σ H1 fun i H2 => s o i v H2 fun H3 => R σ H3) : gSub to ti s v σ H R := h
theorem rd_i0 {g : Int → Int → V} {a b : Int} (q : Q (g a b) H) : rI0 g (.int a) (.int b) H Q := ⟨a, b, rfl, rfl, q⟩
theorem rd_i {C : Int → Int → Prop} {g : Int → Int → V} {a b : Int} (h : C a b) (q : Q (g a b) H) : rI C g (.int a) (.int b) H Q := ⟨a, b, rfl, rfl, h, q⟩
theorem rd_eq (h : scal x y = true) (q : Q (.bl (decide (x = y))) H) : rEq x y H Q := ⟨h, q⟩
theorem rd_ne (h : scal x y = true) (q : Q (.bl (!decide (x = y))) H) : rNe x y H Q := ⟨h, q⟩
theorem rd_ixl {a : Addr} {xs : List V} {n : Int} (h : SqL K H a xs) (e : atI xs n = some v) (q : Q v H) : rIxL K (.ref a) (.int n) H Q := ⟨a, xs, n, v, rfl, rfl, h, e, q⟩
theorem rd_ixt {a : Addr} {xs : List V} {n : Int} (h : SqT K H a xs) (e : atI xs n = some v) (q : Q v H) : rIxT K (.ref a) (.int n) H Q := ⟨a, xs, n, v, rfl, rfl, h, e, q⟩
theorem rd_setl {a : Addr} {xs : List V} {n : Int} {j : Nat} {R : Hp → Prop} (h : H a = some (.lst xs)) (e : ixN xs.length n = some j) (q : R (upd H a (.lst (xs.set j v)))) : rSetL (.ref a) (.int n) v H R := ⟨a, xs, n, j, rfl, rfl, h, e, q⟩
theorem rd_m1 {r : V → List V → Hp → VK → Prop} (h : ta σ H fun x H1 => (∃ a, x = .str a) ∧ tb σ H1 fun y H2 => r x [y] H2 Q) : tM1 r ta tb σ H Q := h
theorem rd_gtup {n : Nat} {a : Addr} {xs : List V} {ts : TGs} {R : St → Hp → Prop} (h : SqT K H a xs) (e : xs.length = n) (q : ts xs σ H R) : gTup K n ts (.ref a) σ H R := ⟨a, xs, rfl, h, e, q⟩
theorem rd_gcons {g : TG} {ts : TGs} {vs : List V} {R : St → Hp → Prop} (q : g v σ H fun σ' H' => ts vs σ' H' R) : gCons g ts (v :: vs) σ H R := ⟨v, vs, rfl, q⟩
theorem rd_gnil {R : St → Hp → Prop} (q : R σ H) : gNil [] σ H R := ⟨rfl, q⟩
theorem rd_truth {R : Bool → Hp → Prop} (h : te σ H fun x H' => ∃ k, TruV K x H' k ∧ R k H') : tTruth K te σ H R := h
theorem rd_yes {R : Bool → Hp → Prop} (h : R true H) : tYes σ H R := h
theorem rd_sl {r : V → Option Int → Option Int → Hp → VK → Prop} {tl th : TO} (h : te σ H fun x H1 => tl σ H1 fun l H2 => th σ H2 fun u H3 => r x l u H3 Q) : tSl r te tl th σ H Q := h
theorem rd_nopart {R : Option Int → Hp → Prop} (h : R none H) : tNoPart σ H R := h
theorem rd_part {R : Option Int → Hp → Prop} (h : te σ H fun x H1 => ∃ i, x = .int i ∧ R (some i) H1) : tPart te σ H R := h
theorem rd_int {n : Int} {R : Int → Prop} (q : R n) : ∃ k, V.int n = .int k ∧ R k := ⟨n, rfl, q⟩
theorem rd_strx {z : Str} {R : Prop} (q : R) : (∃ a, V.str z = .str a) ∧ R := ⟨⟨z, rfl⟩, q⟩
theorem rd_len {a : Addr} {xs : List V} (h : SqL K H a xs ∨ SqT K H a xs) (q : Q (.int xs.length) H) : rLenQ K [V.ref a] H Q := ⟨a, xs, rfl, h, q⟩
theorem rd_isi {v c : V} {tv u : Value} {b : Bool} (h1 : ClsV c u) (h2 : TyX K H v tv) (h3 : PySem.W.kitOne K tv u = some b) (q : Q (.bl b) H) : rIsi K [v, c] H Q := ⟨v, c, tv, u, b, rfl, h1, h2, h3, q⟩
theorem rd_in {x : V} {p : Addr} {xs : List V} {neg : Bool} (h : SqL K H p xs ∨ SqT K H p xs) (fx : flatV x = true) (fs : xs.all flatV = true) (q : Q (.bl (if neg then !inV x xs else inV x xs)) H) : rIn K neg x (.ref p) H Q := ⟨p, xs, rfl, h, fx, fs, q⟩
theorem rd_sla {a : Addr} {xs : List V} {lo hi : Option Int} (h : SqT K H a xs) (q1 : HT.sIx xs.length 0 lo = 0 ∧ HT.sIx xs.length xs.length hi = xs.length → Q (.ref a) H) (q2 : ¬ (HT.sIx xs.length 0 lo = 0 ∧ HT.sIx xs.length xs.length hi = xs.length) → New H (.tup (cutV xs lo hi)) fun p H2 => Q (.ref p) H2) : rSlA K (.ref a) lo hi H Q := ⟨a, xs, rfl, h, q1, q2⟩
theorem rd_sum {a : Addr} {ns : List Int} (h : SqL K H a (ns.map V.int)) (q : Q (.int ns.sum) H) : rSum K [V.ref a] H Q := ⟨a, ns, rfl, h, q⟩
theorem rd_all {a : Addr} {ns : List Bool} (h : SqL K H a (ns.map V.bl)) (q : Q (.bl (ns.all id)) H) : rAll K [V.ref a] H Q := ⟨a, ns, rfl, h, q⟩
theorem rd_any {a : Addr} {ns : List Bool} (h : SqL K H a (ns.map V.bl)) (q : Q (.bl (ns.any id)) H) : rAny K [V.ref a] H Q := ⟨a, ns, rfl, h, q⟩
theorem rd_chain {r r' : R2} (h : ta σ H fun x H1 => tb σ H1 fun y H2 => r x y H2 fun z H3 => ∃ k, z = .bl k ∧ (if k = true then tc σ H3 fun w' H4 => r' y w' H4 Q else Q (.bl false) H3)) : tChain r r' ta tb tc σ H Q := h
theorem rd_rng1 {R : It → Hp → Prop} (h : tas σ H fun vs H1 => ∃ j : Int, vs = [.int j] ∧ -(2 ^ 62) ≤ j ∧ j < 2 ^ 62 ∧ R (Itr 0 j.toNat) H1) : iRng1 tas σ H R := h
theorem rd_rng1j {n : Int} {R : Int → Prop} (h1 : -(2 ^ 62) ≤ n) (h2 : n < 2 ^ 62) (q : R n) : ∃ j : Int, ([V.int n] : List V) = [.int j] ∧ -(2 ^ 62) ≤ j ∧ j < 2 ^ 62 ∧ R j := ⟨n, rfl, h1, h2, q⟩
theorem rd_ilist {R : It → Hp → Prop} (h : te σ H fun x H1 => ∃ a, x = .ref a ∧ (∃ xs, SqL K H1 a xs) ∧ R (Itl K a) H1) : iList K te σ H R := h
theorem rd_itup {R : It → Hp → Prop} (h : te σ H fun x H1 => ∃ a, x = .ref a ∧ (∃ xs, SqT K H1 a xs) ∧ R (Itt K a) H1) : iTup K te σ H R := h
theorem rd_istr {R : It → Hp → Prop} (h : te σ H fun v H1 => ∃ x, v = .str x ∧ R (Its x) H1) : iStr te σ H R := h
theorem rd_strj {z : Str} {R : Str → Prop} (q : R z) : ∃ x, V.str z = .str x ∧ R x := ⟨z, rfl, q⟩
theorem rd_lc {wi : TI} {g : TG} {vs : List Nat} (h : wi σ H fun J H1 => ∀ D, H1 D = none → ∃ W : Nat → Nat → Hp → Prop, (∃ m, W 0 m (upd H1 D (.lst []))) ∧ ∀ i m H, W i m H →
  (J.stop i H ∧ Q (.ref D) H) ∨ (J.go i H ∧ ∃ Nx : Hp → Prop, (∀ H', Nx H' → ∃ m', m' < m ∧ W (i + 1) m' H') ∧ ∀ x H', J.yld i H x H' → g x (wipe σ vs) H' fun σ2 H2 => wipe σ2 vs = wipe σ vs ∧ tt σ2 H2 fun b H3 =>
    if b = true then te σ2 H3 fun y H4 => ∃ acc, H4 D = some (.lst acc) ∧ acc.length < sizeLine ∧ Nx (upd H4 D (.lst (acc ++ [y]))) else Nx H3)) : tLc wi g tt te vs σ H Q := h
theorem rd_for {wi : TI} {g : TG} (h : wi σ H fun J H1 => ∃ W : Nat → Nat → St → Hp → Prop, (∃ m, W 0 m σ H1) ∧ ∀ i m σ H, W i m σ H →
  (J.stop i H ∧ D.nx σ H) ∨ (J.go i H ∧ ∃ N : St → Hp → Prop, (∀ σ' H', N σ' H' → ∃ m', m' < m ∧ W (i + 1) m' σ' H') ∧ ∀ x H', J.yld i H x H' → g x σ H' fun σ2 H2 => t { D with nx := N, ct := N, bk := D.nx } σ2 H2)) : tFor wi g t D σ H := h
theorem rd_par {i j : Nat} (h : tas σ H fun vs H1 => ∃ v w, vs = [v, w] ∧ D.nx ((σ.set i (some v)).set j (some w)) H1) : tPar i j tas D σ H := h
theorem rd_parj {a b : V} {R : V → V → Prop} (q : R a b) : ∃ v w, ([a, b] : List V) = [v, w] ∧ R v w := ⟨a, b, rfl, q⟩
theorem rd_aug {ti : TIp} (e : σ[i]? = some (some x)) (h : te σ H fun y H1 => ti x y H1 fun z H2 => D.nx (σ.set i (some z)) H2) : tAug i te ti D σ H := ⟨x, e, h⟩
theorem rd_ipi {g : Int → Int → Int} {a b : Int} (q : Q (.int (g a b)) H) : ipI g (.int a) (.int b) H Q := ⟨a, b, rfl, rfl, q⟩
/-- while, by an invariant that bears a measure -/
theorem rd_while {m0 : Nat} (W : Nat → St → Hp → Prop) (w0 : W m0 σ H) (hs : ∀ m σ H, W m σ H → c σ H fun b H1 => if b = true then t { D with nx := fun σ' H' => ∃ m', m' < m ∧ W m' σ' H', ct := fun σ' H' => ∃ m', m' < m ∧ W m' σ' H', bk := D.nx } σ H1 else D.nx σ H1)
    (mono : ∀ σ H Q Q', (∀ b H1, Q b H1 → Q' b H1) → c σ H Q → c σ H Q') : tWhile c t D σ H := by
  refine ⟨W, ⟨m0, w0⟩, fun m σ H h => ?_⟩
  refine mono σ H _ _ (fun b H1 q => ?_) (hs m σ H h)
  cases b with
  | true => exact ⟨_, fun σ' H' z => z, q⟩
  | false => exact q
/-- a new object: what is said of the heap behind it -/
theorem rd_new {o : HO} {R : Addr → Hp → Prop} (k : ∀ p H', H p = none → H' p = some o → Same H H' → R p H') : New H o R := fun p hp =>
  k p _ hp upd_same fun b ob e => by rw [upd_ne (ne_of_none e hp)]; exact e
end
/-! ### the heap beside one list -/
def hid (a : Addr) (H : Hp) : Hp := fun b => if b = a then none else H b
theorem hid_ne {a b : Addr} {H : Hp} (h : b ≠ a) : hid a H b = H b := by unfold hid; rw [if_neg h]
theorem hid_sub {a b : Addr} {H : Hp} {o : HO} (h : hid a H b = some o) : b ≠ a ∧ H b = some o := by
  unfold hid at h
  by_cases e : b = a
  · rw [if_pos e] at h; cases h
  · rw [if_neg e] at h; exact ⟨e, h⟩
theorem hid_le {a : Addr} {H : Hp} : Same (hid a H) H := fun _ _ h => (hid_sub h).2
/-- all but a is kept -/
def Kp (a : Addr) (H H' : Hp) : Prop := Same (hid a H) (hid a H')
theorem Kp.refl {a : Addr} {H : Hp} : Kp a H H := Same.refl _
theorem Kp.trans {a : Addr} {H H1 H2 : Hp} (x : Kp a H H1) (y : Kp a H1 H2) : Kp a H H2 := Same.trans x y
theorem Kp.of {a : Addr} {H H' : Hp} (s : Same H H') : Kp a H H' := fun b o e => by
  obtain ⟨n, e⟩ := hid_sub e
  rw [hid_ne n]; exact s b o e
theorem Kp.set {a : Addr} {H : Hp} {o : HO} : Kp a H (upd H a o) := fun b u e => by
  obtain ⟨n, e⟩ := hid_sub e
  rw [hid_ne n, upd_ne n]; exact e
theorem Kp.at {a b : Addr} {H H' : Hp} {o : HO} (k : Kp a H H') (n : b ≠ a) (e : H b = some o) : H' b = some o := by
  have q : hid a H b = some o := by rw [hid_ne n]; exact e
  exact (hid_sub (k b o q)).2
theorem Same.seqT {K : PySem.W.Frag} {H H' : Hp} {a : Addr} {xs : List V} (e : Same H H') (h : SqT K H a xs) : SqT K H' a xs := by
  rcases h with (h | ⟨o, h⟩) | h
  · exact .inl (.inl (e _ _ h))
  · exact .inl (.inr ⟨o, e _ _ h⟩)
  · exact .inr h

/-! ### data that a heap bears -/
mutual
theorem Dp.mono {K : PySem.W.Frag} {H H' : Hp} (s : Same H H') : ∀ {v : V} {d : PyData}, Dp K H v d → Dp K H' v d
  | _, _, .non => .non
  | _, _, .bl b => .bl b
  | _, _, .int i => .int i
  | _, _, .str x => .str x
  | _, _, .lst h t => .lst (L2.Same.seq s h) (DpAll.mono s t)
  | _, _, .tup h t => .tup (Same.seqT s h) (DpAll.mono s t)
theorem DpAll.mono {K : PySem.W.Frag} {H H' : Hp} (s : Same H H') : ∀ {vs : List V} {ds : List PyData}, DpAll K H vs ds → DpAll K H' vs ds
  | _, _, .nil => .nil
  | _, _, .cons h t => .cons (Dp.mono s h) (DpAll.mono s t)
end
theorem DpAll.length {K : PySem.W.Frag} {H : Hp} : ∀ {vs : List V} {ds : List PyData}, DpAll K H vs ds → vs.length = ds.length
  | _, _, .nil => rfl
  | _, _, .cons _ t => by rw [List.length_cons, List.length_cons, DpAll.length t]
theorem DpAll.get {K : PySem.W.Frag} {H : Hp} : ∀ {vs : List V} {ds : List PyData} {i : Nat} {v : V}, DpAll K H vs ds → vs[i]? = some v → ∃ d, ds[i]? = some d ∧ Dp K H v d
  | _, _, _, _, .nil, e => by simp at e
  | _, _, 0, _, .cons h _, e => by
    simp at e; subst e; exact ⟨_, rfl, h⟩
  | _, _, i + 1, v, .cons _ t, e => by
    obtain ⟨d, a, b⟩ := DpAll.get (i := i) (v := v) t (by simpa using e)
    exact ⟨d, by simpa using a, b⟩
theorem DpAll.get' {K : PySem.W.Frag} {H : Hp} : ∀ {vs : List V} {ds : List PyData} {i : Nat} {d : PyData}, DpAll K H vs ds → ds[i]? = some d → ∃ v, vs[i]? = some v ∧ Dp K H v d
  | _, _, _, _, .nil, e => by simp at e
  | _, _, 0, _, .cons h _, e => by
    simp at e; subst e; exact ⟨_, rfl, h⟩
  | _, _, i + 1, v, .cons _ t, e => by
    obtain ⟨d, a, b⟩ := DpAll.get' (i := i) (d := v) t (by simpa using e)
    exact ⟨d, by simpa using a, b⟩
theorem DpAll.app {K : PySem.W.Frag} {H : Hp} : ∀ {vs ws : List V} {ds es : List PyData}, DpAll K H vs ds → DpAll K H ws es → DpAll K H (vs ++ ws) (ds ++ es)
  | _, _, _, _, .nil, t => t
  | _, _, _, _, .cons h t, u => .cons h (DpAll.app t u)
theorem DpAll.take {K : PySem.W.Frag} {H : Hp} : ∀ {vs : List V} {ds : List PyData} (n : Nat), DpAll K H vs ds → DpAll K H (vs.take n) (ds.take n)
  | _, _, 0, _ => .nil
  | _, _, _ + 1, .nil => .nil
  | _, _, n + 1, .cons h t => .cons h (DpAll.take n t)
theorem DpAll.drop {K : PySem.W.Frag} {H : Hp} : ∀ {vs : List V} {ds : List PyData} (n : Nat), DpAll K H vs ds → DpAll K H (vs.drop n) (ds.drop n)
  | _, _, 0, t => t
  | _, _, _ + 1, .nil => .nil
  | _, _, n + 1, .cons _ t => DpAll.drop n t

/-! ### the source of draws: a list of three ints at a; n draws may still be made -/
def Src (a : Addr) (n : Nat) (H : Hp) : Prop := ∃ d s c : Int, H a = some (.lst [.int d, .int s, .int c]) ∧ 0 ≤ s ∧ s < 2 ^ 40 ∧ 0 ≤ c ∧ c + (n : Int) ≤ 2 ^ 40
theorem Src.mono {a : Addr} {n m : Nat} {H : Hp} (h : Src a m H) (l : n ≤ m) : Src a n H := by
  obtain ⟨d, s, c, e, h1, h2, h3, h4⟩ := h
  exact ⟨d, s, c, e, h1, h2, h3, by omega⟩
theorem Src.same {a : Addr} {n : Nat} {H H' : Hp} (h : Src a n H) (s : Same H H') : Src a n H' := by
  obtain ⟨d, s', c, e, r⟩ := h
  exact ⟨d, s', c, s _ _ e, r⟩
theorem Src.ne {a p : Addr} {n : Nat} {H : Hp} (h : Src a n H) (e : H p = none) : p ≠ a := by
  obtain ⟨_, _, _, q, _⟩ := h
  rintro rfl
  rw [e] at q; cases q
end Cs
local macro_rules | `(tactic| walk_at "go") => `(tactic| repeat (first
  | with_reducible refine Cs.rd_seq ?_ | with_reducible refine Cs.rd_asg ?_ | with_reducible refine Cs.rd_gname ?_ | with_reducible refine Cs.rd_var rfl ?_ | with_reducible refine Cs.rd_c ?_ | with_reducible refine Cs.rd_op ?_
  | with_reducible refine Cs.rd_i0 ?_ | with_reducible refine Cs.rd_cons ?_ | with_reducible refine Cs.rd_nil ?_ | with_reducible refine Cs.rd_call ?_ | with_reducible refine Cs.rd_cb ?_ | with_reducible refine Cs.rd_ret ?_ | with_reducible refine Cs.rd_ifs ?_
  | with_reducible refine Cs.rd_test ?_ | with_reducible refine Cs.rd_tB ?_ | with_reducible refine Cs.rd_bl ?_ | with_reducible refine Cs.rd_eq rfl ?_ | with_reducible refine Cs.rd_ne rfl ?_ | with_reducible refine Cs.rd_tup ?_ | with_reducible refine Cs.rd_lst ?_
  | with_reducible refine Cs.rd_bm0 ?_ | with_reducible refine Cs.rd_bm ?_ | with_reducible refine Cs.rd_gsub ?_ | with_reducible refine Cs.rd_and ?_ | with_reducible refine Cs.rd_or ?_ | with_reducible refine Cs.rd_not ?_ | with_reducible refine Cs.rd_andV ?_
  | with_reducible refine Cs.rd_orV ?_ | with_reducible refine Cs.rd_notV ?_ | with_reducible refine Cs.rd_ife ?_ | with_reducible refine Cs.rd_drop ?_ | with_reducible refine Cs.rd_next ?_ | with_reducible refine Cs.rd_un ?_ | with_reducible refine L2.iteT ?_ | with_reducible refine L2.iteF ?_
  | with_reducible refine Cs.rd_m1 ?_ | with_reducible refine Cs.rd_gcons ?_ | with_reducible refine Cs.rd_gnil ?_ | with_reducible refine Cs.rd_truth ?_ | with_reducible refine Cs.rd_yes ?_ | with_reducible refine Cs.rd_sl ?_ | with_reducible refine Cs.rd_nopart ?_ | with_reducible refine Cs.rd_part ?_ | with_reducible refine Cs.rd_int ?_ | with_reducible refine Cs.rd_strx ?_
  | with_reducible refine Cs.rd_rng1 ?_ | with_reducible refine Cs.rd_ilist ?_ | with_reducible refine Cs.rd_itup ?_ | with_reducible refine Cs.rd_istr ?_ | with_reducible refine Cs.rd_strj ?_ | with_reducible refine Cs.rd_lc ?_ | with_reducible refine Cs.rd_for ?_
  | with_reducible refine Cs.rd_chain ?_
  | with_reducible refine Cs.rd_par ?_ | with_reducible refine Cs.rd_parj ?_ | with_reducible refine Cs.rd_aug rfl ?_ | with_reducible refine Cs.rd_ipi ?_))
namespace Cs
open PySem L2
open PyProof.Rows (envOfC)
def topS (i : Nat) : Stmt := PySem.Challenge.pw_cutscribe_k81_notations_spoilt.main.body.getD i (.Pass ⟨0, 0, 0, 0⟩)
abbrev s_is_pattern : Stmt := topS 7
theorem sc_is_pattern : FnScope ["alphabet", "value"] ["alphabet", "value"] (defScope s_is_pattern) := ⟨rfl, rfl, rfl, by decide +kernel, rfl, by decide +kernel, by decide +kernel⟩
abbrev s__is_small_expression : Stmt := topS 8
theorem sc__is_small_expression : FnScope ["alphabet", "value", "waiting", "tuples", "part", "must_be_plain", "plain_below", "inner"] ["alphabet", "value"] (defScope s__is_small_expression) := ⟨rfl, rfl, rfl, by decide +kernel, rfl, by decide +kernel, by decide +kernel⟩
abbrev s__is_well_formed : Stmt := topS 9
theorem sc__is_well_formed : FnScope ["alphabet", "value", "word"] ["alphabet", "value"] (defScope s__is_well_formed) := ⟨rfl, rfl, rfl, by decide +kernel, rfl, by decide +kernel, by decide +kernel⟩
abbrev s__is_selection : Stmt := topS 10
theorem sc__is_selection : FnScope ["alphabet", "value", "character"] ["alphabet", "value"] (defScope s__is_selection) := ⟨rfl, rfl, rfl, by decide +kernel, rfl, by decide +kernel, by decide +kernel⟩
abbrev s__is_range : Stmt := topS 11
theorem sc__is_range : FnScope ["low", "high"] ["low", "high"] (defScope s__is_range) := ⟨rfl, rfl, rfl, by decide +kernel, rfl, by decide +kernel, by decide +kernel⟩
abbrev s__is_integer_within : Stmt := topS 12
theorem sc__is_integer_within : FnScope ["value", "least", "most"] ["value", "least", "most"] (defScope s__is_integer_within) := ⟨rfl, rfl, rfl, by decide +kernel, rfl, by decide +kernel, by decide +kernel⟩
abbrev s__parts : Stmt := topS 13
theorem sc__parts : FnScope ["expression"] ["expression"] (defScope s__parts) := ⟨rfl, rfl, rfl, by decide +kernel, rfl, by decide +kernel, by decide +kernel⟩
abbrev s__width : Stmt := topS 14
theorem sc__width : FnScope ["expression", "width", "low", "high", "part"] ["expression"] (defScope s__width) := ⟨rfl, rfl, rfl, by decide +kernel, rfl, by decide +kernel, by decide +kernel⟩
abbrev s_parse_pattern : Stmt := topS 17
theorem sc_parse_pattern : FnScope ["alphabet", "text", "expression", "end"] ["alphabet", "text"] (defScope s_parse_pattern) := ⟨rfl, rfl, rfl, by decide +kernel, rfl, by decide +kernel, by decide +kernel⟩
abbrev s__read_expression : Stmt := topS 18
theorem sc__read_expression : FnScope ["alphabet", "text", "opened", "at", "beginning", "whole"] ["alphabet", "text"] (defScope s__read_expression) := ⟨rfl, rfl, rfl, by decide +kernel, rfl, by decide +kernel, by decide +kernel⟩
abbrev s__expected : Stmt := topS 19
theorem sc__expected : FnScope ["text", "at", "choices", "choice"] ["text", "at", "choices"] (defScope s__expected) := ⟨rfl, rfl, rfl, by decide +kernel, rfl, by decide +kernel, by decide +kernel⟩
abbrev s__shared : Stmt := topS 20
theorem sc__shared : FnScope ["one", "other", "many"] ["one", "other"] (defScope s__shared) := ⟨rfl, rfl, rfl, by decide +kernel, rfl, by decide +kernel, by decide +kernel⟩
abbrev s__read_set : Stmt := topS 21
theorem sc__read_set : FnScope ["alphabet", "text", "at", "end", "allowed", "_"] ["alphabet", "text", "at"] (defScope s__read_set) := ⟨rfl, rfl, rfl, by decide +kernel, rfl, by decide +kernel, by decide +kernel⟩
abbrev s__put_into_last : Stmt := topS 22
theorem sc__put_into_last : FnScope ["opened", "part", "text", "at", "last", "low", "high", "mark"] ["opened", "part", "text", "at"] (defScope s__put_into_last) := ⟨rfl, rfl, rfl, by decide +kernel, rfl, by decide +kernel, by decide +kernel⟩
abbrev s__read_numbers : Stmt := topS 23
theorem sc__read_numbers : FnScope ["text", "at", "lows", "low", "highs", "high"] ["text", "at"] (defScope s__read_numbers) := ⟨rfl, rfl, rfl, by decide +kernel, rfl, by decide +kernel, by decide +kernel⟩
abbrev s__law_source : Stmt := topS 25
theorem sc__law_source : FnScope ["_law_script", "_law_k", "_law_cell", "_law_deep"] ["_law_script", "_law_k"] (defScope s__law_source) := ⟨rfl, rfl, rfl, by decide +kernel, rfl, by decide +kernel, by decide +kernel⟩
abbrev s__law_draw : Stmt := topS 26
theorem sc__law_draw : FnScope ["_law_source_here", "_law_many", "_law_digit", "_law_seed"] ["_law_source_here", "_law_many"] (defScope s__law_draw) := ⟨rfl, rfl, rfl, by decide +kernel, rfl, by decide +kernel, by decide +kernel⟩
abbrev s__law_alphabet : Stmt := topS 27
theorem sc__law_alphabet : FnScope ["_law_source_here", "_law_many", "_law_left", "_law_k"] ["_law_source_here", "_law_many"] (defScope s__law_alphabet) := ⟨rfl, rfl, rfl, by decide +kernel, rfl, by decide +kernel, by decide +kernel⟩
abbrev s__law_set : Stmt := topS 28
theorem sc__law_set : FnScope ["_law_source_here", "_law_alphabet_here", "_law_many", "_law_taken", "_law_k", "_law_at"] ["_law_source_here", "_law_alphabet_here"] (defScope s__law_set) := ⟨rfl, rfl, rfl, by decide +kernel, rfl, by decide +kernel, by decide +kernel⟩
abbrev s__law_row : Stmt := topS 29
theorem sc__law_row : FnScope ["_law_source_here", "_law_alphabet_here", "_law_many", "_law_k"] ["_law_source_here", "_law_alphabet_here", "_law_many"] (defScope s__law_row) := ⟨rfl, rfl, rfl, by decide +kernel, rfl, by decide +kernel, by decide +kernel⟩
abbrev s__law_plain : Stmt := topS 30
theorem sc__law_plain : FnScope ["_law_source_here", "_law_alphabet_here", "_law_room", "_law_way", "_law_size", "_law_many", "_law_part", "_law_low", "_law_high"] ["_law_source_here", "_law_alphabet_here", "_law_room"] (defScope s__law_plain) := ⟨rfl, rfl, rfl, by decide +kernel, rfl, by decide +kernel, by decide +kernel⟩
abbrev s__law_pattern : Stmt := topS 31
theorem sc__law_pattern : FnScope ["_law_source_here", "_law_alphabet_here", "_law_room", "_law_size", "_law_barred"] ["_law_source_here", "_law_alphabet_here", "_law_room"] (defScope s__law_pattern) := ⟨rfl, rfl, rfl, by decide +kernel, rfl, by decide +kernel, by decide +kernel⟩
abbrev s__law_nested : Stmt := topS 32
theorem sc__law_nested : FnScope ["_law_source_here", "_law_alphabet_here", "_law_depth", "_law_way", "_law_low", "_law_high", "_law_parts", "_law_k"] ["_law_source_here", "_law_alphabet_here", "_law_depth"] (defScope s__law_nested) := ⟨rfl, rfl, rfl, by decide +kernel, rfl, by decide +kernel, by decide +kernel⟩
abbrev s__law_measures : Stmt := topS 33
theorem sc__law_measures : FnScope ["_law_value", "_law_word", "_law_found", "_law_wide", "_law_plain_here", "_law_right", "_law_part", "_law_one"] ["_law_value"] (defScope s__law_measures) := ⟨rfl, rfl, rfl, by decide +kernel, rfl, by decide +kernel, by decide +kernel⟩
abbrev s__law_is_pattern : Stmt := topS 34
theorem sc__law_is_pattern : FnScope ["_law_expression", "_law_wide", "_law_tuples", "_law_plain_here", "_law_right"] ["_law_expression"] (defScope s__law_is_pattern) := ⟨rfl, rfl, rfl, by decide +kernel, rfl, by decide +kernel, by decide +kernel⟩
abbrev s__law_written : Stmt := topS 35
theorem sc__law_written : FnScope ["_law_expression", "_law_word", "_law_parts", "_law_high", "_law_part"] ["_law_expression"] (defScope s__law_written) := ⟨rfl, rfl, rfl, by decide +kernel, rfl, by decide +kernel, by decide +kernel⟩
abbrev s__law_read_word : Stmt := topS 36
theorem sc__law_read_word : FnScope ["_law_text", "_law_at", "_law_words", "_law_far", "_law_begun", "_law_word"] ["_law_text", "_law_at"] (defScope s__law_read_word) := ⟨rfl, rfl, rfl, by decide +kernel, rfl, by decide +kernel, by decide +kernel⟩
abbrev s__law_read_set : Stmt := topS 37
theorem sc__law_read_set : FnScope ["_law_alphabet_here", "_law_text", "_law_at", "_law_far", "_law_last"] ["_law_alphabet_here", "_law_text", "_law_at"] (defScope s__law_read_set) := ⟨rfl, rfl, rfl, by decide +kernel, rfl, by decide +kernel, by decide +kernel⟩
abbrev s__law_read_again : Stmt := topS 38
theorem sc__law_read_again : FnScope ["_law_alphabet_here", "_law_text", "_law_at", "_law_part", "_law_far", "_law_low", "_law_high", "_law_allowed"] ["_law_alphabet_here", "_law_text", "_law_at"] (defScope s__law_read_again) := ⟨rfl, rfl, rfl, by decide +kernel, rfl, by decide +kernel, by decide +kernel⟩
abbrev s__law_read_parts : Stmt := topS 39
theorem sc__law_read_parts : FnScope ["_law_alphabet_here", "_law_text", "_law_at", "_law_word", "_law_parts", "_law_far", "_law_part"] ["_law_alphabet_here", "_law_text", "_law_at", "_law_word"] (defScope s__law_read_parts) := ⟨rfl, rfl, rfl, by decide +kernel, rfl, by decide +kernel, by decide +kernel⟩
abbrev s__law_read_expression : Stmt := topS 40
theorem sc__law_read_expression : FnScope ["_law_alphabet_here", "_law_text", "_law_at", "_law_word", "_law_far"] ["_law_alphabet_here", "_law_text", "_law_at"] (defScope s__law_read_expression) := ⟨rfl, rfl, rfl, by decide +kernel, rfl, by decide +kernel, by decide +kernel⟩
abbrev s__law_read_pattern : Stmt := topS 41
theorem sc__law_read_pattern : FnScope ["_law_alphabet_here", "_law_text", "_law_found", "_law_far"] ["_law_alphabet_here", "_law_text"] (defScope s__law_read_pattern) := ⟨rfl, rfl, rfl, by decide +kernel, rfl, by decide +kernel, by decide +kernel⟩
abbrev s__law_spoilt : Stmt := topS 42
theorem sc__law_spoilt : FnScope ["_law_source_here", "_law_alphabet_here", "_law_text", "_law_way", "_law_at", "_law_to", "_law_signs", "_law_sign", "_law_pair", "_law_places", "_law_k"] ["_law_source_here", "_law_alphabet_here", "_law_text"] (defScope s__law_spoilt) := ⟨rfl, rfl, rfl, by decide +kernel, rfl, by decide +kernel, by decide +kernel⟩
abbrev s__law_told : Stmt := topS 43
theorem sc__law_told : FnScope ["_law_alphabet_here", "_law_text", "_law_found", "_law_right"] ["_law_alphabet_here", "_law_text"] (defScope s__law_told) := ⟨rfl, rfl, rfl, by decide +kernel, rfl, by decide +kernel, by decide +kernel⟩
abbrev s_law : Stmt := topS 44
theorem sc_law : FnScope ["_law_script", "_law_k", "_law_source_here", "_law_alphabet_here", "_law_text", "_law_nested_here", "_law_turn"] ["_law_script"] (defScope s_law) := ⟨rfl, rfl, rfl, by decide +kernel, rfl, by decide +kernel, by decide +kernel⟩
end Cs
namespace Cs
open PySem L2
open PyProof.Rows (envOfC)
/-! the built-in names, which no law's text binds anew -/
structure Blt (mg : Str → Option Value) : Prop where
  len : mg "len" = none
  range : mg "range" = none
  isinstance : mg "isinstance" = none
  max : mg "max" = none
  min : mg "min" = none
  sum : mg "sum" = none
  all : mg "all" = none
  any : mg "any" = none
  list : mg "list" = none
  tuple : mg "tuple" = none
  int : mg "int" = none
  str : mg "str" = none
  bool : mg "bool" = none
  sorted : mg "sorted" = none
  set : mg "set" = none
  enumerate : mg "enumerate" = none
  zip : mg "zip" = none

end Cs
namespace Cs
open PySem L2
open PyProof.Rows (envOfC)
/-! what the top has left, def by def -/
theorem at_mk {K : PySem.W.Frag} {h : Heap} {mg : Str → Option Value} (X : K.In h) (G : h.Ns mainGlobals mg) {x : Str} {st : Stmt} {ps : List Str} {f : Addr} {oc : Value} {od an : Option Addr} {osl : Array (Option Value)} {kV dc pm cd ct : Value}
    (a : PySem.W.nsIn K mainGlobals x = some (some (.ref f))) (l : K.lookup f = some ⟨oc, od, .func (PySem.W.fnOf x x (defArgs st) (defBody st) (defScope st) .none kV dc pm an cd ct), osl⟩) (c : PySem.W.codeIn K cd x = true) (k : PySem.W.keepIn K (.ref f) = true)
    (b : ∀ (kV dc pm : Value) (an : Option Addr) (cd ct : Value) (us : List Value), us.length = ps.length → bindArgs (PySem.W.fnOf x x (defArgs st) (defBody st) (defScope st) .none kV dc pm an cd ct) ⟨us, []⟩ = pure (ps.zip us)) : At K mg x st ps :=
  ⟨⟨f, _, fun_mk l c k, PySem.W.mg_of X G a, (fun_mk l c k).binds b⟩⟩
def spLaw (K : PySem.W.Frag) : Sp := fun vs H Q _ => ∃ (a : Addr) (ns : List Int), vs = [.ref a] ∧ SqL K H a (ns.map V.int) ∧ ns.length ≤ 63 ∧ ∀ H', Q (.bl true) H'
theorem walk_c {l : PySem.W.OpenLaw} {q : Program} {loose : List Str} {XP : (Str → Option Value) → Heap → Prop} {YP : World → Heap → Prop} {d : DefRec} {K : Params → PySem.W.Frag} {st : Stmt} (hn : l.most = some 63) (hdf : d.params.defaults = []) (hnm : d.name = "law")
    (hY : ∀ (w : World) (h : Heap), YP w h → (K w.params).In h)
    (F : ∀ (w : World) (mg : Str → Option Value) (h : Heap), (K w.params).In h → h.Ns mainGlobals mg →
      ∃ (f : Addr) (oc : Value) (od an : Option Addr) (osl : Array (Option Value)) (kV dc pm cd ct : Value), PySem.W.nsIn (K w.params) mainGlobals "law" = some (some (.ref f)) ∧ (K w.params).lookup f = some ⟨oc, od, .func (PySem.W.fnOf "law" "law" (defArgs st) (defBody st) (defScope st) .none kV dc pm an cd ct), osl⟩ ∧
        PySem.W.codeIn (K w.params) cd "law" = true ∧ PySem.W.keepIn (K w.params) (.ref f) = true ∧
        (∀ (kV dc pm : Value) (an : Option Addr) (cd ct u : Value), bindArgs (PySem.W.fnOf "law" "law" (defArgs st) (defBody st) (defScope st) .none kV dc pm an cd ct) ⟨[u], []⟩ = pure [(("_law_script" : Str), u)]) ∧
        ∀ (base : Heap) (f : Addr) (fd : FuncData), Fun (K w.params) "law" "law" st f fd → FnOk l.prog w (K w.params) mg base CX0 230 f fd ["_law_script"] (spLaw (K w.params))) :
    PySem.W.WalkO q loose XP YP l.row.toRowW d [] (fun f vs => PySem.call f vs) := by
  refine L2.walk_of (n := 63) (k := 230) (x := "_law_script") (CX := fun _ => CX0) (sp := fun w => spLaw (K w.params)) hn (by decide) hdf ⟨rfl, by decide, by decide⟩ hY (fun w mg fa h X G hfa => ?_) (fun _ _ a ns hl _ hS => ⟨a, ns, rfl, hS, hl, fun _ => rfl⟩) fun _ _ _ _ _ z => z
  obtain ⟨f, oc, od, an, osl, kV, dc, pm, cd, ct, a, lk, c, k, hb, G2⟩ := F w mg h X G
  rw [hnm] at hfa
  have e := hfa.symm.trans (PySem.W.mg_of X G a)
  cases e
  exact ⟨_, fun s v => .of_eq (hb _ _ _ _ _ _ _), fun base _ _ => G2 base _ _ (fun_mk lk c k)⟩
theorem blt_mk {K : PySem.W.Frag} {h : Heap} {mg : Str → Option Value} (X : K.In h) (G : h.Ns mainGlobals mg) (z0 : PySem.W.nsIn K mainGlobals "len" = some none) (z1 : PySem.W.nsIn K mainGlobals "range" = some none) (z2 : PySem.W.nsIn K mainGlobals "isinstance" = some none) (z3 : PySem.W.nsIn K mainGlobals "max" = some none) (z4 : PySem.W.nsIn K mainGlobals "min" = some none) (z5 : PySem.W.nsIn K mainGlobals "sum" = some none) (z6 : PySem.W.nsIn K mainGlobals "all" = some none) (z7 : PySem.W.nsIn K mainGlobals "any" = some none) (z8 : PySem.W.nsIn K mainGlobals "list" = some none) (z9 : PySem.W.nsIn K mainGlobals "tuple" = some none) (z10 : PySem.W.nsIn K mainGlobals "int" = some none) (z11 : PySem.W.nsIn K mainGlobals "str" = some none) (z12 : PySem.W.nsIn K mainGlobals "bool" = some none) (z13 : PySem.W.nsIn K mainGlobals "sorted" = some none) (z14 : PySem.W.nsIn K mainGlobals "set" = some none) (z15 : PySem.W.nsIn K mainGlobals "enumerate" = some none) (z16 : PySem.W.nsIn K mainGlobals "zip" = some none) : Blt mg :=
  ⟨PySem.W.mg_none_of X G z0, PySem.W.mg_none_of X G z1, PySem.W.mg_none_of X G z2, PySem.W.mg_none_of X G z3, PySem.W.mg_none_of X G z4, PySem.W.mg_none_of X G z5, PySem.W.mg_none_of X G z6, PySem.W.mg_none_of X G z7, PySem.W.mg_none_of X G z8, PySem.W.mg_none_of X G z9, PySem.W.mg_none_of X G z10, PySem.W.mg_none_of X G z11, PySem.W.mg_none_of X G z12, PySem.W.mg_none_of X G z13, PySem.W.mg_none_of X G z14, PySem.W.mg_none_of X G z15, PySem.W.mg_none_of X G z16⟩
theorem const_mk {K : PySem.W.Frag} {h : Heap} {mg : Str → Option Value} (X : K.In h) (G : h.Ns mainGlobals mg) {x : Str} {u : Value} {v : V} (a : PySem.W.nsIn K mainGlobals x = some (some u)) (r : RelV v u) : ∃ u, mg x = some u ∧ RelV v u := ⟨u, PySem.W.mg_of X G a, r⟩
theorem law_mk {P : Program} {w : World} {K : PySem.W.Frag} {mg : Str → Option Value} {st : Stmt} {f : Addr} {oc : Value} {od an : Option Addr} {osl : Array (Option Value)} {kV dc pm cd ct : Value}
    (a : PySem.W.nsIn K mainGlobals "law" = some (some (.ref f))) (l : K.lookup f = some ⟨oc, od, .func (PySem.W.fnOf "law" "law" (defArgs st) (defBody st) (defScope st) .none kV dc pm an cd ct), osl⟩) (c : PySem.W.codeIn K cd "law" = true) (k : PySem.W.keepIn K (.ref f) = true)
    (b : ∀ (kV dc pm : Value) (an : Option Addr) (cd ct u : Value), bindArgs (PySem.W.fnOf "law" "law" (defArgs st) (defBody st) (defScope st) .none kV dc pm an cd ct) ⟨[u], []⟩ = pure [(("_law_script" : Str), u)])
    (G2 : ∀ (base : Heap) (f : Addr) (fd : FuncData), Fun K "law" "law" st f fd → FnOk P w K mg base CX0 230 f fd ["_law_script"] (spLaw K)) :
    ∃ (f : Addr) (oc : Value) (od an : Option Addr) (osl : Array (Option Value)) (kV dc pm cd ct : Value), PySem.W.nsIn K mainGlobals "law" = some (some (.ref f)) ∧ K.lookup f = some ⟨oc, od, .func (PySem.W.fnOf "law" "law" (defArgs st) (defBody st) (defScope st) .none kV dc pm an cd ct), osl⟩ ∧
      PySem.W.codeIn K cd "law" = true ∧ PySem.W.keepIn K (.ref f) = true ∧
      (∀ (kV dc pm : Value) (an : Option Addr) (cd ct u : Value), bindArgs (PySem.W.fnOf "law" "law" (defArgs st) (defBody st) (defScope st) .none kV dc pm an cd ct) ⟨[u], []⟩ = pure [(("_law_script" : Str), u)]) ∧
      ∀ (base : Heap) (f : Addr) (fd : FuncData), Fun K "law" "law" st f fd → FnOk P w K mg base CX0 230 f fd ["_law_script"] (spLaw K) :=
  ⟨f, oc, od, an, osl, kV, dc, pm, cd, ct, a, l, c, k, b, G2⟩

end Cs
namespace Cs
open PySem L2
open PyProof.Rows (envOfC)
/-! list(text): a new list of its signs -/
section
open PySem.Calls PyProof.Rows PyProof.V PySem.Spec PySem.W
variable {prog : Program} {w : World} {A : Around} {E : Value → Shared → Prop} {s : Shared} {x : Str} {t : Tok}
theorem hint_str {Q : Bool → Shared → Prop} (h : Q false s) : wpAny (model prog w) A (Builtin.List.listLengthHint (.str x t)) Q E s := by
  have hT : s.TypeIs (.str x t) "str" := typeIs_str s x t
  unfold Builtin.List.listLengthHint
  refine wpAny_bind (wpAny_specialOf hT PySem.F.slot_str_len.lookup ?_)
  generalize hid : ("str.__len__" : String) = id0
  wp_delta
  rw [show splitId id0 = some ("str", "__len__") from by subst hid; decide +kernel]
  subst hid
  refine wpAny_bind (wpAny_isInstance (T := "str") (b := true) hT (by rw [isSubtype_type]; kernel_rfl) ?_)
  refine wpAny_ite_split (fun hab => absurd hab (by decide)) (fun _ => ?_)
  refine wpAny_ite_split (fun _ => ?_) (fun hab => absurd (by decide +kernel) hab)
  refine wpAny_bind (wpAny_typeOf hT ?_)
  exact wpAny_pure h
theorem extend_str {R : Result → Shared → Prop} (hh : A.handled = none) (S : Addr) (res : Value) (c₀ : Nat) (hS : s.heap.get? S = some { cls := .type "list", data := .seq #[] c₀ })
    (hR : ∀ h' tk acc' c', (∀ b o, b ≠ S → s.heap.get? b = some o → h'.get? b = some o) → h'.get? S = some { cls := .type "list", dict := none, data := .seq acc' c', slots := #[] } → ItemsOf (SignAt x) acc' x.cps.size → R (.ok (.ret res)) { s with heap := h', toks := tk }) (hn : x.cps.size ≤ sizeLine) :
    wpAny (model prog w) A.in1 (Builtin.List.listExtendWith (.ref S) (.str x t) res)
      (fun fin s' => match fin with | .done f => R (.ok f) s' | .again c' => c'.quiet = true ∧ codeAny (model prog w) A c' R s') (fun e s' => R (.error e) s') s := by
  have hSI : S ≠ s.heap.objs.size := Nat.ne_of_lt (Heap.lt_size hS)
  have hSf : S ∉ [s.heap.objs.size] := by simp only [List.mem_cons, List.not_mem_nil, or_false]; exact hSI
  obtain ⟨oI, St, hit, W, st⟩ : ∃ (oI : Obj) (St : Nat → Heap → Prop),
      (∀ (E : Value → Shared → Prop) (Q : Value → Shared → Prop), Q (.ref s.heap.objs.size) { s with heap := s.heap.push oI } → wpAny (model prog w) A.in1 (pyIter (.str x t)) Q E s) ∧
      Walks prog w A.in1 s.heap.objs.size [s.heap.objs.size] [s.heap.objs.size] x.cps.size (SignAt x) St ∧ St 0 (s.heap.push oI) := by
    cases ha : x.cps.all (· < 128)
    · exact ⟨_, _, fun _ _ hq => wpAny_pyIter_wide ha hq, Walks.strWide (A := A.in1) hh _ x t, ⟨_, Heap.get?_push_size _ rfl, rfl, rfl⟩⟩
    · exact ⟨_, _, fun _ _ hq => wpAny_pyIter_ascii ha hq, Walks.strAscii (A := A.in1) hh _ x t, ⟨_, Heap.get?_push_size _ rfl, rfl, rfl⟩⟩
  have key : ∀ (h : Heap) (c₁ tk : Nat), St 0 h → (∀ b o, b ≠ S → s.heap.get? b = some o → h.get? b = some o) →
      h.get? S = some { cls := .type "list", data := .seq #[] c₁ } → codeAny (model prog w) A (.builtin "list.extend.loop" ⟨[.ref S, .ref s.heap.objs.size, res], []⟩) R { s with heap := h, toks := tk } := by
    intro h c₁ tk hst hk hS₁
    refine codeAny_extend_loopS W.toS hn S hSf res x.cps.size 0 _ #[] c₁ rfl (Nat.zero_le _) hst hS₁ (ItemsOf.nil _) fun s' acc' c' hm hS' hacc => ?_
    rw [Moved.eq_with hm]
    refine hR s'.heap s'.toks acc' c' (fun b o hb e => hm.heap b o (fun hmem => ?_) (hk b o hb e)) hS' hacc
    rcases List.mem_cons.mp hmem with e' | hmem
    · exact hb e'
    · exact absurd (Heap.lt_size e) (by rw [List.mem_singleton.mp hmem]; exact Nat.lt_irrefl _)
  unfold Builtin.List.listExtendWith
  refine wpAny_bind (wpAny_typeOf (T := "str") (typeIs_str s x t) ?_)
  have h1 : Builtin.List.listSameRef (.ref S) (.str x t) = false := rfl
  have h2 : (Value.type "str" == Value.type "list") = false := by decide
  have h3 : (Value.type "str" == Value.type "tuple") = false := by decide
  simp only [h1, h2, h3, Bool.or_false, Bool.false_eq_true, if_false]
  refine wpAny_bind (hit _ _ ?_)
  have hS₁ := Heap.get?_push_of_some oI hS
  refine wpAny_bind (wpAny_holding (hint_str ?_))
  refine wpAny_ite_split (fun _ => ?_) (fun _ => wpAny_pure ⟨plainId_quiet PySem.F.plain_extend_loop _, key _ c₀ _ st (fun b o _ e => Heap.get?_push_of_some _ e) hS₁⟩)
  refine wpAny_bind (wpAny_rule ?_)
  refine wpAny_bind ?_
  show wpAny _ _ (updateSeq S (·.push .none) >>= fun _ => updateSeq S (·.pop)) _ _ _
  refine wpAny_bind (wpAny_updateSeq hS₁ rfl ?_)
  have hS₂ := Heap.get?_update_self (Obj.mapSeq (·.push Value.none)) hS₁ rfl
  refine wpAny_updateSeq (hz := by seq_fits) hS₂ rfl ?_
  have hS₃ := Heap.get?_update_self (Obj.mapSeq (·.pop)) hS₂ rfl
  refine wpAny_pure ⟨plainId_quiet PySem.F.plain_extend_loop _, key _ _ _ ?_ (fun b o hb e => ?_) hS₃⟩
  · refine W.frame 0 _ _ st fun b hb o e => ?_
    have hbS : b ≠ S := fun h => hSf (h ▸ hb)
    exact (Heap.get?_update_other _ _ (Ne.symm hbS)).trans ((Heap.get?_update_other _ _ (Ne.symm hbS)).trans e)
  · exact (Heap.get?_update_other _ _ (Ne.symm hb)).trans ((Heap.get?_update_other _ _ (Ne.symm hb)).trans (Heap.get?_push_of_some _ e))
theorem init_str {R : Result → Shared → Prop} (hh : A.handled = none) (S : Addr) (hS : s.heap.get? S = some { cls := .type "list", data := .seq #[] })
    (hR : ∀ h' tk acc' c', (∀ b o, b ≠ S → s.heap.get? b = some o → h'.get? b = some o) → h'.get? S = some { cls := .type "list", dict := none, data := .seq acc' c', slots := #[] } → ItemsOf (SignAt x) acc' x.cps.size → R (.ok (.ret .none)) { s with heap := h', toks := tk }) (hn : x.cps.size ≤ sizeLine) :
    wpAny (model prog w) A.in1 (Builtin.«list.__init__» ⟨[.ref S, .str x t], []⟩)
      (fun fin s' => match fin with | .done f => R (.ok f) s' | .again c' => c'.quiet = true ∧ codeAny (model prog w) A c' R s') (fun e s' => R (.error e) s') s := by
  show wpAny _ _ (do let old ← Builtin.List.listItems (.ref S); Builtin.List.listUpdate (.ref S) (fun _ => #[]); letGo old.toList.reverse; Builtin.List.listExtendWith (.ref S) (.str x t) .none) _ _ s
  refine wpAny_bind ?_
  unfold Builtin.List.listItems
  refine wpAny_bind (wpAny_seqItems hS rfl (wpAny_pure ?_))
  show wpAny _ _ (updateSeq S (fun _ => #[]) >>= fun _ => letGo (#[] : Array Value).toList.reverse >>= fun _ => Builtin.List.listExtendWith (.ref S) (.str x t) .none) _ _ s
  refine wpAny_bind (wpAny_updateSeq hS rfl ?_)
  have hS₂ := Heap.get?_update_self (Obj.mapSeq (fun _ => (#[] : Array Value))) hS rfl
  have oth : ∀ b o, b ≠ S → s.heap.get? b = some o → (s.heap.update S (Obj.mapSeq (fun _ => (#[] : Array Value)))).get? b = some o :=
    fun b o hb e => (Heap.get?_update_other _ _ (Ne.symm hb)).trans e
  refine wpAny_bind (wpAny_letGo ?_)
  refine extend_str hh S .none _ hS₂ (fun h' tk acc' c' hk hS' hacc => ?_) hn
  exact hR h' tk acc' c' (fun b o hb e => hk b o hb (oth b o hb e)) hS' hacc
theorem list_of_str {Q : Value → Shared → Prop} (hh : A.handled = none) (hn : x.cps.size ≤ sizeLine)
    (hQ : ∀ h' tk acc' c', (∀ b o, s.heap.get? b = some o → h'.get? b = some o) → h'.get? s.heap.objs.size = some { cls := .type "list", dict := none, data := .seq acc' c', slots := #[] } → ItemsOf (SignAt x) acc' x.cps.size → Q (.ref s.heap.objs.size) { s with heap := h', toks := tk }) :
    wpAny (model prog w) A (call (.type "list") [.str x t]) Q E s := by
  refine callType_codes (Q₁ := fun obj s₁ => obj = .ref s.heap.objs.size ∧ s₁ = { s with heap := s.heap.push { cls := .type "list", data := .seq #[] } }) PySem.F.called_list (PySem.F.typeCall_list_1 _) PySem.F.entry_list_init
    (code_list_new _ ⟨rfl, rfl⟩) fun obj s₁ h₁ => ?_
  obtain ⟨rfl, rfl⟩ := h₁
  have hS : (s.heap.push { cls := .type "list", data := .seq #[] }).get? s.heap.objs.size = some { cls := .type "list", data := .seq #[] } := Heap.get?_push_size _ rfl
  refine ⟨⟨_, hS, rfl⟩, PySem.F.args_list_init_2 _ _, init_str (A := A.in1) hh _ hS (fun h' tk acc' c' hk hS' hacc => ?_) hn⟩
  exact ⟨rfl, hQ h' tk acc' c' (fun b o e => hk b o (Nat.ne_of_lt (Heap.lt_size e)) (Heap.get?_push_of_some _ e)) hS' hacc⟩
end
def signs (z : Str) : List Str := z.cps.toList.map fun c => ⟨#[c]⟩
theorem vals_signs : ∀ (zs : List Nat) (us : List Value), us.length = zs.length → (∀ (i : Nat) (v : Value), us[i]? = some v → ∃ c u, zs[i]? = some c ∧ v = .str ⟨#[c]⟩ u) → Vals ((zs.map fun c => (⟨#[c]⟩ : Str)).map V.str) us
  | [], [], _, _ => .nil
  | [], _ :: _, e, _ => by simp at e
  | _ :: _, [], e, _ => by simp at e
  | z :: zs, u :: us, e, h => by
    obtain ⟨c, t, h1, h2⟩ := h 0 u rfl
    have h1 : z = c := by simpa using h1
    subst h1
    refine .cons ⟨t, h2⟩ (vals_signs zs us (by simpa using e) fun i v hv => ?_)
    obtain ⟨c, t', a, b⟩ := h (i + 1) v (by simpa using hv)
    exact ⟨c, t', by simpa using a, b⟩
theorem call_list_str {X : Cx} (hc : X.calm = true) : CallR X (.type "list") (fun xs H Q => ∃ z : Str, xs = [.str z] ∧ z.cps.size ≤ sizeLine ∧ ∀ l, H l = none → Q (.ref l) (upd H l (.lst ((signs z).map V.str)))) := by
  intro pins s σ H xs us Q I r h
  obtain ⟨z, rfl, hz, q⟩ := h
  obtain ⟨u, rfl, t, rfl⟩ := vals1 r
  refine list_of_str (I.ok.hd hc) hz fun h' tk acc' c' kp e it => ?_
  have vs : Vals ((signs z).map V.str) acc'.toList := by
    refine vals_signs z.cps.toList acc'.toList (by rw [Array.length_toList, Array.length_toList]; exact it.1) fun i v hv => ?_
    obtain ⟨c, u, a, b⟩ := it.2 i v (by rw [← Array.getElem?_toList]; exact hv)
    exact ⟨c, u, by rw [Array.getElem?_toList]; exact a, b⟩
  have hl : ((signs z).map V.str).length ≤ sizeLine := by
    rw [List.length_map, signs, List.length_map, Array.length_toList]; exact hz
  refine ⟨.ref s.heap.objs.size, _, I.laid (t' := tk) kp (Nat.le_refl _) (show ObjOk X.prog X.w _ h' _ (.lst _) from ⟨hl, acc'.toList, c', vs, by rw [e]⟩), rfl, q _ (I.hok.fresh (Nat.le_refl _))⟩

end Cs
namespace Cs
open PySem L2
open PyProof.Rows (envOfC)
/-! texts as lists of codes -/
abbrev S (l : List Nat) : Str := ⟨l.toArray⟩
theorem S_len (a : List Nat) : (S a).length = a.length := by simp [S, Str.length]
theorem S_cps (x : Str) : S x.cps.toList = x := by cases x; rfl
theorem S_inj {a b : List Nat} (h : S a = S b) : a = b := congrArg (fun x : Str => x.cps.toList) h
theorem signs_S (l : List Nat) : signs (S l) = l.map fun c => S [c] := rfl
theorem joinL_nil : ∀ ys : List (List Nat), TL.joinL [] ys = ys.flatten
  | [] => rfl
  | [p] => by show p = [p].flatten; simp
  | p :: q :: r => by
    show p ++ ([] ++ TL.joinL [] (q :: r)) = (p :: q :: r).flatten
    rw [joinL_nil (q :: r)]; simp
theorem map_tl_S : ∀ l : List (List Nat), (l.map S).map TL.tl = l
  | [] => rfl
  | x :: l => congrArg (fun z => x :: z) (map_tl_S l)
theorem join_nil (ys : List (List Nat)) : Txt.join (S []) (ys.map S) = S ys.flatten := by
  have e := TL.tl_join (S []) (ys.map S)
  rw [map_tl_S] at e
  have e2 : TL.tl (Txt.join (S []) (ys.map S)) = TL.tl (S (TL.joinL [] ys)) := (congrArg TL.tl (TL.join_eq (S []) (ys.map S))).trans e
  exact (TL.ext_tl e2).trans (by rw [joinL_nil])
theorem flat1 : ∀ cs : List Nat, (cs.map fun c => [c]).flatten = cs
  | [] => rfl
  | c :: cs => by
    show [c] ++ (cs.map fun c => [c]).flatten = c :: cs
    rw [flat1 cs]; rfl
theorem join_signs (cs : List Nat) : Txt.join (S []) (cs.map fun c => S [c]) = S cs := by
  have e := join_nil (cs.map fun c => [c])
  rw [flat1, List.map_map] at e
  exact e
theorem sum_signs (cs : List Nat) : ((cs.map fun c => S [c]).map (·.length)).sum = cs.length := by
  induction cs with
  | nil => rfl
  | cons c cs ih =>
    show 1 + ((cs.map fun c => S [c]).map (·.length)).sum = cs.length + 1
    omega
theorem empty_S : Str.ofString "" = S [] := by decide +kernel
/-- a heap that keeps all but a, and lays what was not there -/
theorem Kp.lay {a p : Addr} {H0 H : Hp} {o : HO} (k : Kp a H0 H) (n : H0 p = none) : Kp a H0 (upd H p o) := fun b u e => by
  obtain ⟨nb, e0⟩ := hid_sub e
  have q : b ≠ p := fun z => by rw [z, n] at e0; cases e0
  have z := k b u e
  obtain ⟨_, z⟩ := hid_sub z
  rw [hid_ne nb, upd_ne q]; exact z
theorem Kp.none {a b : Addr} {H H' : Hp} (k : Kp a H H') (n : b ≠ a) (h : H' b = none) : H b = none := by
  cases e : H b with
  | none => rfl
  | some o => rw [k.at n e] at h; cases h
theorem Src.lay {a p : Addr} {n : Nat} {H : Hp} {o : HO} (h : Src a n H) (e : p ≠ a) : Src a n (upd H p o) := by
  obtain ⟨d, s, c, q, r⟩ := h
  exact ⟨d, s, c, by rw [upd_ne (Ne.symm e)]; exact q, r⟩
theorem Same.lay {p : Addr} {H : Hp} {o : HO} (n : H p = none) : Same H (upd H p o) := fun b u e => by rw [upd_ne (ne_of_none e n)]; exact e
theorem Same.lay2 {p : Addr} {H0 H : Hp} {o : HO} (k : Same H0 H) (n : H0 p = none) : Same H0 (upd H p o) := fun b u e => by rw [upd_ne (ne_of_none e n)]; exact k b u e
/-- an alphabet: distinct small codes -/
structure Alp (al : List Nat) : Prop where
  nd : al.Nodup
  lo : 1 ≤ al.length
  hi : al.length ≤ 6
  asc : ∀ c ∈ al, c ∈ [97, 98, 99, 100, 101, 102, 103, 104, 105, 106, 107, 108, 109, 110, 111, 112, 113, 114, 115, 116, 117, 118, 119, 120, 121, 122, 48, 49, 50, 51, 52, 53, 54, 55, 56, 57, 32, 45, 46, 95]
theorem seqIx {j n : Nat} (h : j < n) : seqIndex? (j : Int) n = some j := by
  unfold seqIndex?
  have a : ¬ ((j : Int) < 0) := by omega
  simp only [a, if_false]
  have b : (decide (0 ≤ (j : Int)) && decide ((j : Int) < (n : Int))) = true := by simp; omega
  rw [if_pos b]; simp
theorem map_erase {α β : Type} (f : α → β) : ∀ (l : List α) (j : Nat), (l.map f).eraseIdx j = (l.eraseIdx j).map f
  | [], _ => rfl
  | _ :: _, 0 => rfl
  | a :: l, j + 1 => congrArg (fun z => f a :: z) (map_erase f l j)

end Cs
namespace Cs
open PySem L2
open PyProof.Rows (envOfC)
/-! a draw: some number below m, one draw less -/
def sp_draw : Sp := fun vs H Q _ => ∃ (a : Addr) (m : Int) (n : Nat), vs = [.ref a, .int m] ∧ Src a (n + 1) H ∧ 0 < m ∧ m < 2 ^ 30 ∧ ∀ (i : Int) (H' : Hp), 0 ≤ i → i < m → Src a n H' → Kp a H H' → Q (.int i) H'
theorem use_draw {a : Addr} {m : Int} {n : Nat} {H : Hp} {Q : VK} {E : XK} (h : Src a (n + 1) H) (h0 : 0 < m) (h1 : m < 2 ^ 30) (k : ∀ (i : Int) (H' : Hp), 0 ≤ i → i < m → Src a n H' → Kp a H H' → Q (.int i) H') : sp_draw [.ref a, .int m] H Q E :=
  ⟨a, m, n, rfl, h, h0, h1, k⟩
theorem cpow5 {s c : Int} (h1 : 0 ≤ s) (h2 : s < 2 ^ 40) (h3 : 0 ≤ c) (h4 : c ≤ 2 ^ 40) : CPow (s + 7919 * c) 5 := by
  refine ⟨by decide, by decide, ?_⟩
  omega
section
variable {P : Program} {w : World} {K : PySem.W.Frag} {mg : Str → Option Value} {base : Heap}
theorem ok_draw (F : At K mg "_law_draw" s__law_draw ["_law_source_here", "_law_many"]) : Cal P w K mg base 1 "_law_draw" ["_law_source_here", "_law_many"] sp_draw := by
  refine F.ok sc__law_draw (fun vs H Q E h => ?_) (fun f cdv A outer s H vs Q E hr h => ?_)
  · obtain ⟨a, m, n, rfl, _⟩ := h
    rfl
  · obtain ⟨a, m, n, rfl, ⟨d, s', c, e, h1, h2, h3, h4⟩, m0, m1, k⟩ := h
    refine ⟨_, (pss_cons (ps_asg (pe_op op_add (pe_ix (ix_listK (K := K) (by rfl)) (pv 0) pe_int (fun _ _ => rfl)) pe_int) (pg_sub (pv 0) pe_int set_list))
    (pss_cons (ps_if (pt_cmpR op_gt (pe_ix (ix_listK (K := K) (by rfl)) (pv 0) pe_int (fun _ _ => rfl)) pe_int (nomark _))
    (pss_cons (ps_set (i := 2) sc__law_draw.nd rfl (Or.inl rfl) (pe_op op_mod (pe_ix (ix_listK (K := K) (by rfl)) (pv 0) pe_int (fun _ _ => rfl)) (pv 1)))
    (pss_cons (ps_asg (pe_op op_fdiv (pe_ix (ix_listK (K := K) (by rfl)) (pv 0) pe_int (fun _ _ => rfl)) (pv 1)) (pg_sub (pv 0) pe_int set_list))
    (pss_one (ps_ret (pv 2)))))
    pss_nil)
    (pss_cons (ps_set (i := 3) sc__law_draw.nd rfl (Or.inl rfl) (pe_op op_mod (pe_op op_pow (pe_op op_add (pe_ix (ix_listK (K := K) (by rfl)) (pv 0) pe_int (fun _ _ => rfl)) (pe_op op_mul pe_int (pe_ix (ix_listK (K := K) (by rfl)) (pv 0) pe_int (fun _ _ => rfl)))) pe_int) pe_int))
    (pss_one (ps_ret (pe_op op_mod (pe_op op_fdiv (pe_op op_mod (pe_op op_mul (pe_op op_add (pv 3) (pe_ix (ix_listK (K := K) (by rfl)) (pv 0) pe_int (fun _ _ => rfl))) pe_int) pe_int) pe_int) (pv 1))))))), ?_⟩
    walk_at "go"
    refine rd_ixl (SqL.of e) (at_of (j := 2) rfl rfl) ?_
    walk_at "go"
    refine rd_setl e (j := 2) rfl ?_
    have e1 : upd H a (.lst ([V.int d, .int s', .int c].set 2 (.int (c + 1)))) a = some (.lst [.int d, .int s', .int (c + 1)]) := upd_same
    have k1 : Kp a H (upd H a (.lst ([V.int d, .int s', .int c].set 2 (.int (c + 1))))) := Kp.set
    generalize upd H a (.lst ([V.int d, .int s', .int c].set 2 (.int (c + 1)))) = H1 at e1 k1
    walk_at "go"
    refine rd_ixl (SqL.of e1) (at_of (j := 0) rfl rfl) ?_
    walk_at "go"
    refine ite2 (fun hd => ?_) (fun hd => ?_)
    · walk_at "go"
      refine rd_ixl (SqL.of e1) (at_of (j := 0) rfl rfl) ?_
      walk_at "go"
      refine rd_i m0 ?_
      walk_at "go"
      refine rd_ixl (SqL.of e1) (at_of (j := 0) rfl rfl) ?_
      walk_at "go"
      refine rd_i ⟨m0, by omega⟩ ?_
      walk_at "go"
      refine rd_setl e1 (j := 0) rfl ?_
      walk_at "go"
      refine k _ _ (Int.emod_nonneg _ (by omega)) (Int.emod_lt_of_pos _ m0) ⟨d / m, s', c + 1, upd_same, h1, h2, by omega, by omega⟩ (k1.trans Kp.set)
    · walk_at "go"
      refine rd_ixl (SqL.of e1) (at_of (j := 1) rfl rfl) ?_
      walk_at "go"
      refine rd_ixl (SqL.of e1) (at_of (j := 2) rfl rfl) ?_
      refine rd_i (.inl ⟨by decide, by decide⟩) ?_
      walk_at "go"
      refine rd_i (cpow5 h1 h2 (by omega) (by omega)) ?_
      walk_at "go"
      refine rd_i (by decide) ?_
      walk_at "go"
      refine rd_ixl (SqL.of e1) (at_of (j := 2) rfl rfl) ?_
      walk_at "go"
      refine rd_i (.inr ⟨by decide, by decide⟩) ?_
      walk_at "go"
      refine rd_i (by decide) ?_
      walk_at "go"
      refine rd_i ⟨by decide, by decide⟩ ?_
      walk_at "go"
      refine rd_i m0 ?_
      exact k _ _ (Int.emod_nonneg _ (by omega)) (Int.emod_lt_of_pos _ m0) ⟨d, s', c + 1, e1, h1, h2, by omega, by omega⟩ k1
end

end Cs
namespace Cs
open PySem L2
open PyProof.Rows (envOfC)
/-! data beside the source -/
theorem at_mem {xs : List V} {i : Int} (h0 : 0 ≤ i) (h1 : i < xs.length) : ∃ v, atI xs i = some v ∧ v ∈ xs := by
  obtain ⟨j, rfl⟩ : ∃ j : Nat, i = (j : Int) := ⟨i.toNat, by omega⟩
  have hj : j < xs.length := by omega
  exact ⟨xs[j], atI_nat (List.getElem?_eq_getElem hj), List.getElem_mem hj⟩
theorem hid_at {a b : Addr} {H : Hp} {o : HO} (n : b ≠ a) (e : H b = some o) : hid a H b = some o := by rw [hid_ne n]; exact e
abbrev DV (K : PySem.W.Frag) (a : Addr) (H : Hp) (v : V) (d : PyData) : Prop := Dp K (hid a H) v d
theorem DV.tup {K : PySem.W.Frag} {a p : Addr} {H : Hp} {xs : List V} {ds : List PyData} (n : p ≠ a) (e : H p = some (.tup xs)) (h : DpAll K (hid a H) xs ds) : DV K a H (.ref p) (.tuple ds) := L2.Dp.tup (SqT.of (hid_at n e)) h
theorem DV.lst {K : PySem.W.Frag} {a p : Addr} {H : Hp} {xs : List V} {ds : List PyData} (n : p ≠ a) (e : H p = some (.lst xs)) (h : DpAll K (hid a H) xs ds) : DV K a H (.ref p) (.list ds) := L2.Dp.lst (SqL.of (hid_at n e)) h
theorem DV.kp {K : PySem.W.Frag} {a : Addr} {H H' : Hp} {v : V} {d : PyData} (k : Kp a H H') (h : DV K a H v d) : DV K a H' v d := Dp.mono k h
theorem DV.at {K : PySem.W.Frag} {a : Addr} {H : Hp} {v : V} {d : PyData} (h : DV K a H v d) : Dp K H v d := Dp.mono hid_le h
theorem DVs.kp {K : PySem.W.Frag} {a : Addr} {H H' : Hp} {v : List V} {d : List PyData} (k : Kp a H H') (h : DpAll K (hid a H) v d) : DpAll K (hid a H') v d := DpAll.mono k h
/-- a new object, beside the source and what is kept -/
theorem rd_newK {a : Addr} {n : Nat} {H : Hp} {o : HO} {R : Addr → Hp → Prop} (hS : Src a n H) (k : ∀ p H', p ≠ a → H p = none → H' p = some o → Src a n H' → Kp a H H' → R p H') : New H o R := fun p hp =>
  k p _ (hS.ne hp) hp upd_same (hS.lay (hS.ne hp)) (Kp.refl.lay hp)
def dSet (cs : List Nat) : PyData := .tuple [.str (Str.ofString "set"), .str (S cs)]
theorem at_c {α : Type} {xs : List α} {z : Int} {j : Nat} {v : α} (e : z = 0 + (j : Int)) (h : xs[j]? = some v) : atI xs z = some v := by
  rw [e, Int.zero_add]
  exact atI_nat h
/-! data without lists: tuples that stand -/
def TS (H H' : Hp) : Prop := ∀ b xs, H b = some (.tup xs) → H' b = some (.tup xs)
theorem TS.refl {H : Hp} : TS H H := fun _ _ e => e
theorem TS.trans {H H1 H2 : Hp} (x : TS H H1) (y : TS H1 H2) : TS H H2 := fun b xs e => y b xs (x b xs e)
theorem TS.same {H H' : Hp} (s : Same H H') : TS H H' := fun b xs e => s b _ e
theorem TS.kp {a : Addr} {n : Nat} {H H' : Hp} (hS : Src a n H) (k : Kp a H H') : TS H H' := fun b xs e => by
  refine k.at (fun z => ?_) e
  obtain ⟨_, _, _, q, _⟩ := hS
  rw [z, q] at e; cases e
theorem TS.lay {p : Addr} {H : Hp} {o : HO} (n : H p = none) : TS H (upd H p o) := TS.same (Same.lay n)
theorem TS.set {p : Addr} {H : Hp} {xs : List V} {o : HO} (e : H p = some (.lst xs)) : TS H (upd H p o) := fun b ys q => by
  rw [upd_ne (fun z => by rw [z, e] at q; cases q)]; exact q
mutual
inductive Tp (H : Hp) : V → PyData → Prop
  | non : Tp H .non .none
  | bl (b : Bool) : Tp H (.bl b) (.bool b)
  | int (i : Int) : Tp H (.int i) (.int i)
  | str (x : Str) : Tp H (.str x) (.str x)
  | tup {a : Addr} {xs : List V} {ds : List PyData} : H a = some (.tup xs) → TpAll H xs ds → Tp H (.ref a) (.tuple ds)
inductive TpAll (H : Hp) : List V → List PyData → Prop
  | nil : TpAll H [] []
  | cons {v : V} {vs : List V} {d : PyData} {ds : List PyData} : Tp H v d → TpAll H vs ds → TpAll H (v :: vs) (d :: ds)
end
mutual
theorem Tp.ts {H H' : Hp} (s : TS H H') : ∀ {v : V} {d : PyData}, Tp H v d → Tp H' v d
  | _, _, .non => .non
  | _, _, .bl b => .bl b
  | _, _, .int i => .int i
  | _, _, .str x => .str x
  | _, _, .tup h t => .tup (s _ _ h) (TpAll.ts s t)
theorem TpAll.ts {H H' : Hp} (s : TS H H') : ∀ {vs : List V} {ds : List PyData}, TpAll H vs ds → TpAll H' vs ds
  | _, _, .nil => .nil
  | _, _, .cons h t => .cons (Tp.ts s h) (TpAll.ts s t)
end
mutual
theorem Tp.dp {K : PySem.W.Frag} {H : Hp} : ∀ {v : V} {d : PyData}, Tp H v d → Dp K H v d
  | _, _, .non => .non
  | _, _, .bl b => .bl b
  | _, _, .int i => .int i
  | _, _, .str x => .str x
  | _, _, .tup h t => .tup (SqT.of h) (TpAll.dp t)
theorem TpAll.dp {K : PySem.W.Frag} {H : Hp} : ∀ {vs : List V} {ds : List PyData}, TpAll H vs ds → DpAll K H vs ds
  | _, _, .nil => .nil
  | _, _, .cons h t => .cons (Tp.dp h) (TpAll.dp t)
end
theorem TS.hid {a : Addr} {n : Nat} {H : Hp} (hS : Src a n H) : TS H (Cs.hid a H) := fun b xs e => by
  rw [hid_ne (fun z => ?_)]; exact e
  obtain ⟨_, _, _, q, _⟩ := hS
  rw [z, q] at e; cases e
theorem Tp.dv {K : PySem.W.Frag} {a : Addr} {n : Nat} {H : Hp} {v : V} {d : PyData} (hS : Src a n H) (h : Tp H v d) : DV K a H v d := Tp.dp (Tp.ts (TS.hid hS) h)
theorem TpAll.length {H : Hp} : ∀ {vs : List V} {ds : List PyData}, TpAll H vs ds → vs.length = ds.length
  | _, _, .nil => rfl
  | _, _, .cons _ t => by rw [List.length_cons, List.length_cons, TpAll.length t]
theorem TpAll.app {H : Hp} : ∀ {vs ws : List V} {ds es : List PyData}, TpAll H vs ds → TpAll H ws es → TpAll H (vs ++ ws) (ds ++ es)
  | _, _, _, _, .nil, t => t
  | _, _, _, _, .cons h t, u => .cons h (TpAll.app t u)
theorem TpAll.drop {H : Hp} : ∀ {vs : List V} {ds : List PyData} (n : Nat), TpAll H vs ds → TpAll H (vs.drop n) (ds.drop n)
  | _, _, 0, t => t
  | _, _, _ + 1, .nil => .nil
  | _, _, n + 1, .cons _ t => TpAll.drop n t

end Cs
namespace Cs
open PySem L2
open PyProof.Rows (envOfC)
/-! the mirror of is_pattern over data -/
abbrev kS (s : String) : Str := Str.ofString s
def isStr : PyData → Bool | .str _ => true | _ => false
def isTup : PyData → Bool | .tuple _ => true | _ => false
def isIntB : PyData → Bool | .int _ => true | .bool _ => true | _ => false
def isBool : PyData → Bool | .bool _ => true | _ => false
theorem tyx_lst {K : PySem.W.Frag} {H : Hp} {a : Addr} {xs : List V} (h : SqL K H a xs) : TyX K H (.ref a) (.type "list") := by
  rcases h with (h | ⟨o, h⟩) | ⟨o, its, n, h, c, _⟩
  · exact .base (.lst h)
  · exact .base (.frz h)
  · exact .kList h c
theorem tyx_tup {K : PySem.W.Frag} {H : Hp} {a : Addr} {xs : List V} (h : SqT K H a xs) : TyX K H (.ref a) (.type "tuple") := by
  rcases h with (h | ⟨o, h⟩) | ⟨o, its, n, h, c, _⟩
  · exact .base (.tup h)
  · exact .fTuple h
  · exact .kTuple h c
section
variable {K : PySem.W.Frag} {H : Hp} {Q : VK} {v : V} {d : PyData}
theorem rd_isStr (h : Dp K H v d) (q : Q (.bl (isStr d)) H) : rIsi K [v, .ty "str"] H Q := by
  cases h with
  | non => exact rd_isi (.ty _) (.base .non) (kit_ty (b := "str") (r := false) (by decide +kernel)) q
  | bl b => exact rd_isi (.ty _) (.base (.bl b)) (kit_ty (b := "str") (r := false) (by decide +kernel)) q
  | int i => exact rd_isi (.ty _) (.base (.int i)) (kit_ty (b := "str") (r := false) (by decide +kernel)) q
  | str x => exact rd_isi (.ty _) (.base (.str x)) (kit_ty (b := "str") (r := true) (by decide +kernel)) q
  | lst e _ => exact rd_isi (.ty _) (tyx_lst e) (kit_ty (b := "str") (r := false) (by decide +kernel)) q
  | tup e _ => exact rd_isi (.ty _) (tyx_tup e) (kit_ty (b := "str") (r := false) (by decide +kernel)) q
theorem rd_isTup (h : Dp K H v d) (q : Q (.bl (isTup d)) H) : rIsi K [v, .ty "tuple"] H Q := by
  cases h with
  | non => exact rd_isi (.ty _) (.base .non) (kit_ty (b := "tuple") (r := false) (by decide +kernel)) q
  | bl b => exact rd_isi (.ty _) (.base (.bl b)) (kit_ty (b := "tuple") (r := false) (by decide +kernel)) q
  | int i => exact rd_isi (.ty _) (.base (.int i)) (kit_ty (b := "tuple") (r := false) (by decide +kernel)) q
  | str x => exact rd_isi (.ty _) (.base (.str x)) (kit_ty (b := "tuple") (r := false) (by decide +kernel)) q
  | lst e _ => exact rd_isi (.ty _) (tyx_lst e) (kit_ty (b := "tuple") (r := false) (by decide +kernel)) q
  | tup e _ => exact rd_isi (.ty _) (tyx_tup e) (kit_ty (b := "tuple") (r := true) (by decide +kernel)) q
theorem rd_isInt (h : Dp K H v d) (q : Q (.bl (isIntB d)) H) : rIsi K [v, .ty "int"] H Q := by
  cases h with
  | non => exact rd_isi (.ty _) (.base .non) (kit_ty (b := "int") (r := false) (by decide +kernel)) q
  | bl b => exact rd_isi (.ty _) (.base (.bl b)) (kit_ty (b := "int") (r := true) (by decide +kernel)) q
  | int i => exact rd_isi (.ty _) (.base (.int i)) (kit_ty (b := "int") (r := true) (by decide +kernel)) q
  | str x => exact rd_isi (.ty _) (.base (.str x)) (kit_ty (b := "int") (r := false) (by decide +kernel)) q
  | lst e _ => exact rd_isi (.ty _) (tyx_lst e) (kit_ty (b := "int") (r := false) (by decide +kernel)) q
  | tup e _ => exact rd_isi (.ty _) (tyx_tup e) (kit_ty (b := "int") (r := false) (by decide +kernel)) q
theorem rd_isBool (h : Dp K H v d) (q : Q (.bl (isBool d)) H) : rIsi K [v, .ty "bool"] H Q := by
  cases h with
  | non => exact rd_isi (.ty _) (.base .non) (kit_ty (b := "bool") (r := false) (by decide +kernel)) q
  | bl b => exact rd_isi (.ty _) (.base (.bl b)) (kit_ty (b := "bool") (r := true) (by decide +kernel)) q
  | int i => exact rd_isi (.ty _) (.base (.int i)) (kit_ty (b := "bool") (r := false) (by decide +kernel)) q
  | str x => exact rd_isi (.ty _) (.base (.str x)) (kit_ty (b := "bool") (r := false) (by decide +kernel)) q
  | lst e _ => exact rd_isi (.ty _) (tyx_lst e) (kit_ty (b := "bool") (r := false) (by decide +kernel)) q
  | tup e _ => exact rd_isi (.ty _) (tyx_tup e) (kit_ty (b := "bool") (r := false) (by decide +kernel)) q
theorem rd_isBl {b : Bool} (q : Q (.bl true) H) : rIsi K [.bl b, .ty "bool"] H Q := rd_isBool (.bl b) q
end
/-- an int, no bool, from lo to hi -/
def mWithin (lo hi : Int) : PyData → Bool
  | .int i => decide (lo ≤ i) && decide (i ≤ hi)
  | _ => false
def mHigh (l : Int) : PyData → Bool
  | .none => true
  | d => mWithin l 4 d
def mRange (lo hi : PyData) : Bool := match lo with
  | .int l => mWithin 0 4 (.int l) && mHigh l hi
  | _ => false
/-- a text of distinct characters of the alphabet in its order -/
def mSel (al : List Nat) : PyData → Bool
  | .str x => decide (x = S (al.filter fun c => decide (c ∈ x.cps.toList)))
  | _ => false
def mOne (al : List Nat) : List PyData → Bool
  | [p] => mSel al p
  | _ => false
def mThree : List PyData → Bool
  | [_, lo, hi] => mRange lo hi
  | _ => false
/-- an expression as far as can be told without its parts -/
def mWF (al : List Nat) : PyData → Bool
  | .tuple (.str w :: ps) =>
    if w = kS "set" then mOne al ps
    else if w = kS "not" then decide (ps.length = 1)
    else if w = kS "again" then mThree ps
    else decide (w = kS "row") || decide (w = kS "any") || decide (w = kS "all")
  | _ => false
def mParts : PyData → List PyData
  | .tuple (.str w :: ps) => if w = kS "set" then [] else if w = kS "again" then ps.take 1 else ps
  | _ => []
theorem mWF_eq (al : List Nat) (w : Str) (ps : List PyData) : mWF al (.tuple (.str w :: ps)) = if w = kS "set" then mOne al ps else if w = kS "not" then decide (ps.length = 1) else if w = kS "again" then mThree ps else (decide (w = kS "row") || decide (w = kS "any") || decide (w = kS "all")) := rfl
theorem mParts_eq (w : Str) (ps : List PyData) : mParts (.tuple (.str w :: ps)) = if w = kS "set" then [] else if w = kS "again" then ps.take 1 else ps := rfl

end Cs
namespace Cs
open PySem L2
open PyProof.Rows (envOfC)
/-! measures of expressions, by one fold over the parts -/
def rel {α : Type} (w : Str) (vs : List α) : List α := if w = kS "set" then [] else if w = kS "again" then vs.take 1 else vs
mutual
def foldD {α : Type} (f : Str → List PyData → List α → α) (z : α) : PyData → α
  | .tuple (.str w :: ps) => f w ps (rel w (foldDs f z ps))
  | _ => z
def foldDs {α : Type} (f : Str → List PyData → List α → α) (z : α) : List PyData → List α
  | [] => []
  | p :: ps => foldD f z p :: foldDs f z ps
end
theorem foldDs_map {α : Type} (f : Str → List PyData → List α → α) (z : α) : ∀ ps, foldDs f z ps = ps.map (foldD f z)
  | [] => by unfold foldDs; rfl
  | p :: ps => by unfold foldDs; rw [foldDs_map f z ps]; rfl
theorem rel_map {α β : Type} (w : Str) (g : α → β) (vs : List α) : rel w (vs.map g) = (rel w vs).map g := by
  unfold rel
  split
  · rfl
  · split
    · rw [List.map_take]
    · rfl
theorem mParts_rel (w : Str) (ps : List PyData) : mParts (.tuple (.str w :: ps)) = rel w ps := rfl
theorem foldD_eq {α : Type} (f : Str → List PyData → List α → α) (z : α) (w : Str) (ps : List PyData) : foldD f z (.tuple (.str w :: ps)) = f w ps ((rel w ps).map (foldD f z)) := by
  rw [foldD, foldDs_map, rel_map]
def mD : PyData → Nat := foldD (fun _ _ vs => 1 + vs.foldr max 0) 1
def mT : PyData → Nat := foldD (fun _ _ vs => 1 + vs.sum) 1
def mF (al : List Nat) : PyData → Bool := foldD (fun w ps vs => mWF al (.tuple (.str w :: ps)) && vs.all id) false
def isBar (w : Str) : Bool := decide (w = kS "all") || decide (w = kS "not")
def isRow (w : Str) : Bool := decide (w = kS "row") || decide (w = kS "again")
def mP : PyData → Bool := foldD (fun w _ vs => !isBar w && vs.all id) true
def mRP : PyData → Bool × Bool := foldD (fun w _ vs => (if isRow w then vs.all (·.2) else vs.all (·.1), !isBar w && vs.all (·.2))) (true, true)
def m1 (s : Int) : Int := if s > 1 then s else 1
def mFac : List PyData → Int
  | [_, .int l, .none] => l + 1
  | [_, _, .int h] => m1 h
  | _ => 1
def mW : PyData → Int := foldD (fun w ps vs => if w = kS "again" then m1 vs.sum * mFac ps else m1 vs.sum) 0
theorem mD_eq (w : Str) (ps : List PyData) : mD (.tuple (.str w :: ps)) = 1 + ((rel w ps).map mD).foldr max 0 := foldD_eq _ _ w ps
theorem mT_eq (w : Str) (ps : List PyData) : mT (.tuple (.str w :: ps)) = 1 + ((rel w ps).map mT).sum := foldD_eq _ _ w ps
theorem mF_eq (al : List Nat) (w : Str) (ps : List PyData) : mF al (.tuple (.str w :: ps)) = (mWF al (.tuple (.str w :: ps)) && ((rel w ps).map (mF al)).all id) := foldD_eq _ _ w ps
theorem mP_eq (w : Str) (ps : List PyData) : mP (.tuple (.str w :: ps)) = (!isBar w && ((rel w ps).map mP).all id) := foldD_eq _ _ w ps
theorem mRP_eq (w : Str) (ps : List PyData) : mRP (.tuple (.str w :: ps)) = (if isRow w then ((rel w ps).map mRP).all (·.2) else ((rel w ps).map mRP).all (·.1), !isBar w && ((rel w ps).map mRP).all (·.2)) := foldD_eq _ _ w ps
theorem mW_eq (w : Str) (ps : List PyData) : mW (.tuple (.str w :: ps)) = if w = kS "again" then m1 ((rel w ps).map mW).sum * mFac ps else m1 ((rel w ps).map mW).sum := foldD_eq _ _ w ps
def mR (d : PyData) : Bool := (mRP d).1
theorem foldr_max_le {l : List Nat} {n : Nat} (h : ∀ x ∈ l, x ≤ n) : l.foldr max 0 ≤ n := by
  induction l with
  | nil => exact Nat.zero_le _
  | cons a l ih =>
    rw [List.foldr_cons]
    exact Nat.max_le.mpr ⟨h a (by simp), ih fun x hx => h x (by simp [hx])⟩
theorem le_foldr_max {l : List Nat} {x : Nat} (h : x ∈ l) : x ≤ l.foldr max 0 := by
  induction l with
  | nil => simp at h
  | cons a l ih =>
    rw [List.foldr_cons]
    rcases List.mem_cons.mp h with rfl | h
    · exact Nat.le_max_left _ _
    · exact Nat.le_trans (ih h) (Nat.le_max_right _ _)
theorem mem_sum_le {l : List Nat} {x : Nat} (h : x ∈ l) : x ≤ l.sum := by
  induction l with
  | nil => simp at h
  | cons a l ih =>
    rw [List.sum_cons]
    rcases List.mem_cons.mp h with rfl | h
    · exact Nat.le_add_right _ _
    · exact Nat.le_trans (ih h) (Nat.le_add_left _ _)
theorem mD_part {w : Str} {ps : List PyData} {p : PyData} (h : p ∈ rel w ps) : mD p < mD (.tuple (.str w :: ps)) := by
  rw [mD_eq]
  have := le_foldr_max (List.mem_map_of_mem (f := mD) h)
  omega
/-- induction over the parts -/
theorem by_parts {C : PyData → Prop} (h0 : ∀ w ps, (∀ p ∈ rel w ps, C p) → C (.tuple (.str w :: ps))) (h1 : ∀ d, (∀ w ps, d ≠ .tuple (.str w :: ps)) → C d) : ∀ d, C d := by
  have key : ∀ n d, mD d ≤ n → C d := by
    intro n
    induction n with
    | zero =>
      intro d hd
      refine h1 d fun w ps e => ?_
      subst e
      rw [mD_eq] at hd; omega
    | succ n ih =>
      intro d hd
      by_cases hx : ∃ w ps, d = .tuple (.str w :: ps)
      · obtain ⟨w, ps, rfl⟩ := hx
        exact h0 w ps fun p hp => ih p (by have := mD_part hp; omega)
      · exact h1 d fun w ps e => hx ⟨w, ps, e⟩
  exact fun d => key _ d (Nat.le_refl _)
theorem foldD_no {α : Type} (f : Str → List PyData → List α → α) (z : α) (d : PyData) (h : ∀ w ps, d ≠ .tuple (.str w :: ps)) : foldD f z d = z := by
  unfold foldD
  split
  · exact absurd rfl (h _ _)
  · rfl
theorem mD_le_mT : ∀ d, mD d ≤ mT d := by
  refine by_parts (fun w ps ih => ?_) (fun d h => ?_)
  · rw [mD_eq, mT_eq]
    refine Nat.add_le_add_left (foldr_max_le fun x hx => ?_) 1
    obtain ⟨p, hp, rfl⟩ := List.mem_map.mp hx
    exact Nat.le_trans (ih p hp) (mem_sum_le (List.mem_map_of_mem (f := mT) hp))
  · exact Nat.le_of_eq ((foldD_no _ _ d h).trans (foldD_no _ _ d h).symm)
theorem all_mem {α : Type} {f g : α → Bool} : ∀ {l : List α}, (∀ x ∈ l, f x = g x) → l.all f = l.all g
  | [], _ => rfl
  | a :: l, h => by
    rw [List.all_cons, List.all_cons, h a (by simp), all_mem fun x hx => h x (by simp [hx])]
theorem mP_snd : ∀ d, (mRP d).2 = mP d := by
  refine by_parts (fun w ps ih => ?_) (fun d h => ?_)
  · rw [mRP_eq, mP_eq]
    show (!isBar w && _) = _
    congr 1
    rw [List.all_map, List.all_map]
    exact all_mem fun p hp => ih p hp
  · exact (congrArg Prod.snd (foldD_no _ _ d h)).trans (foldD_no _ _ d h).symm
theorem mR_eq (w : Str) (ps : List PyData) : mR (.tuple (.str w :: ps)) = if isRow w then (rel w ps).all mP else (rel w ps).all mR := by
  unfold mR
  rw [mRP_eq]
  show (if isRow w then _ else _) = _
  have e : ((rel w ps).map mRP).all (·.2) = (rel w ps).all mP := by
    rw [List.all_map]
    exact all_mem fun p _ => mP_snd p
  rw [e, List.all_map]
  rfl
theorem plain_right : ∀ d, mP d = true → mR d = true := by
  refine by_parts (fun w ps ih => ?_) (fun d h => ?_)
  · intro hp
    rw [mP_eq, Bool.and_eq_true, List.all_map, List.all_eq_true] at hp
    rw [mR_eq]
    split
    · exact List.all_eq_true.mpr fun p hq => hp.2 p hq
    · exact List.all_eq_true.mpr fun p hq => ih p hq (hp.2 p hq)
  · intro _
    unfold mR
    have e : mRP d = (true, true) := foldD_no _ _ d h
    rw [e]
/-! the loop over the parts -/
def mHead : PyData → Str
  | .tuple (.str w :: _) => w
  | _ => kS ""
def loopS (al : List Nat) : Nat → List (PyData × Bool) → Bool
  | _, [] => true
  | 0, _ :: _ => false
  | r + 1, (d, b) :: st => if mWF al d = false then false else if (b && isBar (mHead d)) = true then false else loopS al r (((mParts d).map fun p => (p, b || isRow (mHead d))).reverse ++ st)
theorem mWF_form {al : List Nat} {d : PyData} (h : mWF al d = true) : ∃ w ps, d = .tuple (.str w :: ps) ∧ (w = kS "set" ∨ w = kS "not" ∨ w = kS "again" ∨ w = kS "row" ∨ w = kS "any" ∨ w = kS "all") ∧ (w = kS "set" → mOne al ps = true) ∧ (w = kS "not" → ps.length = 1) ∧ (w = kS "again" → mThree ps = true) := by
  unfold mWF at h
  split at h
  · rename_i w ps
    refine ⟨w, ps, rfl, ?_⟩
    have d1 : kS "not" ≠ kS "set" := by decide +kernel
    have d2 : kS "again" ≠ kS "set" := by decide +kernel
    have d3 : kS "again" ≠ kS "not" := by decide +kernel
    by_cases h1 : w = kS "set"
    · rw [if_pos h1] at h
      exact ⟨.inl h1, fun _ => h, fun z => absurd (z.symm.trans h1) d1, fun z => absurd (z.symm.trans h1) d2⟩
    · rw [if_neg h1] at h
      by_cases h2 : w = kS "not"
      · rw [if_pos h2] at h
        exact ⟨.inr (.inl h2), fun z => absurd z h1, fun _ => of_decide_eq_true h, fun z => absurd (z.symm.trans h2) d3⟩
      · rw [if_neg h2] at h
        by_cases h3 : w = kS "again"
        · rw [if_pos h3] at h
          exact ⟨.inr (.inr (.inl h3)), fun z => absurd z h1, fun z => absurd z h2, fun _ => h⟩
        · rw [if_neg h3] at h
          simp only [Bool.or_eq_true, decide_eq_true_eq] at h
          refine ⟨?_, fun z => absurd z h1, fun z => absurd z h2, fun z => absurd z h3⟩
          rcases h with (h | h) | h
          · exact .inr (.inr (.inr (.inl h)))
          · exact .inr (.inr (.inr (.inr (.inl h))))
          · exact .inr (.inr (.inr (.inr (.inr h))))
  · cases h
def Good (al : List Nat) (x : PyData × Bool) : Prop := mF al x.1 = true ∧ mR x.1 = true ∧ (x.2 = true → mP x.1 = true)
theorem good_step {al : List Nat} {w : Str} {ps : List PyData} {b : Bool} : Good al (.tuple (.str w :: ps), b) ↔ mWF al (.tuple (.str w :: ps)) = true ∧ (b && isBar w) = false ∧ ∀ p ∈ rel w ps, Good al (p, b || isRow w) := by
  unfold Good
  show mF al (.tuple (.str w :: ps)) = true ∧ mR (.tuple (.str w :: ps)) = true ∧ (b = true → mP (.tuple (.str w :: ps)) = true) ↔ _
  rw [mF_eq, mR_eq, mP_eq, Bool.and_eq_true, List.all_map, List.all_eq_true, Bool.and_eq_true, List.all_map, List.all_eq_true]
  have nb : isRow w = true → isBar w = false := by
    intro h
    unfold isRow at h
    unfold isBar
    rw [Bool.or_eq_true, decide_eq_true_eq, decide_eq_true_eq] at h
    rcases h with rfl | rfl <;> decide +kernel
  constructor
  · rintro ⟨⟨h1, h2⟩, h3, h4⟩
    refine ⟨h1, ?_, fun p hp => ⟨h2 p hp, ?_, fun hb => ?_⟩⟩
    · cases b with
      | false => rfl
      | true => have := (h4 rfl).1; simpa using this
    · split at h3
      · exact plain_right p (List.all_eq_true.mp h3 p hp)
      · exact List.all_eq_true.mp h3 p hp
    · cases b with
      | true => exact (h4 rfl).2 p hp
      | false =>
        have hr : isRow w = true := by simpa using hb
        rw [if_pos hr] at h3
        exact List.all_eq_true.mp h3 p hp
  · rintro ⟨h1, h2, h3⟩
    refine ⟨⟨h1, fun p hp => (h3 p hp).1⟩, ?_, fun hb => ⟨?_, fun p hp => (h3 p hp).2.2 (by simp [hb])⟩⟩
    · split
      · rename_i hr
        exact List.all_eq_true.mpr fun p hp => (h3 p hp).2.2 (by simp [hr])
      · exact List.all_eq_true.mpr fun p hp => (h3 p hp).2.1
    · rw [hb] at h2
      simpa using h2
theorem sum_rev (l : List Nat) : l.reverse.sum = l.sum := by
  induction l with
  | nil => rfl
  | cons a l ih => rw [List.reverse_cons, List.sum_append, ih, List.sum_cons, List.sum_cons]; simp; omega
theorem mT_pos (d : PyData) : 1 ≤ mT d := by
  by_cases hx : ∃ w ps, d = .tuple (.str w :: ps)
  · obtain ⟨w, ps, rfl⟩ := hx
    rw [mT_eq]; omega
  · exact Nat.le_of_eq (foldD_no _ _ d fun w ps e => hx ⟨w, ps, e⟩).symm
theorem loopS_iff (al : List Nat) : ∀ (r : Nat) (st : List (PyData × Bool)), loopS al r st = true ↔ (∀ x ∈ st, Good al x) ∧ (st.map fun x => mT x.1).sum ≤ r := by
  intro r
  induction r with
  | zero =>
    intro st
    cases st with
    | nil => simp [loopS]
    | cons x st =>
      have := mT_pos x.1
      simp only [loopS, List.map_cons, List.sum_cons]
      constructor
      · intro h; cases h
      · rintro ⟨_, h⟩; omega
  | succ r ih =>
    intro st
    cases st with
    | nil => simp [loopS]
    | cons x st =>
      obtain ⟨d, b⟩ := x
      unfold loopS
      by_cases hw : mWF al d = true
      · obtain ⟨w, ps, rfl, -⟩ := mWF_form hw
        rw [if_neg (by rw [hw]; simp)]
        show (if (b && isBar w) = true then false else loopS al r (((rel w ps).map fun p => (p, b || isRow w)).reverse ++ st)) = true ↔ _
        have e1 : ((((rel w ps).map fun p => (p, b || isRow w)).reverse ++ st).map fun x => mT x.1).sum = ((rel w ps).map mT).sum + (st.map fun x => mT x.1).sum := by
          rw [List.map_append, List.sum_append, List.map_reverse, sum_rev, List.map_map]
          rfl
        by_cases hb : (b && isBar w) = true
        · rw [if_pos hb]
          constructor
          · intro h; cases h
          · rintro ⟨h, _⟩
            have := (good_step.mp (h (.tuple (.str w :: ps), b) (by simp))).2.1
            rw [hb] at this; cases this
        · rw [if_neg hb, ih, e1]
          have hb' : (b && isBar w) = false := by simpa using hb
          have e2 : (((.tuple (.str w :: ps), b) :: st).map fun x : PyData × Bool => mT x.1).sum = 1 + ((rel w ps).map mT).sum + (st.map fun x => mT x.1).sum := by
            rw [List.map_cons, List.sum_cons, mT_eq]
          rw [e2]
          constructor
          · rintro ⟨h, hs⟩
            refine ⟨fun x hx => ?_, by omega⟩
            rcases List.mem_cons.mp hx with rfl | hx
            · refine good_step.mpr ⟨hw, hb', fun p hp => h (p, b || isRow w) ?_⟩
              exact List.mem_append_left _ (List.mem_reverse.mpr (List.mem_map_of_mem (f := fun p => (p, b || isRow w)) hp))
            · exact h x (List.mem_append_right _ hx)
          · rintro ⟨h, hs⟩
            refine ⟨fun x hx => ?_, by omega⟩
            rcases List.mem_append.mp hx with hx | hx
            · obtain ⟨p, hp, rfl⟩ := List.mem_map.mp (List.mem_reverse.mp hx)
              exact (good_step.mp (h (.tuple (.str w :: ps), b) (by simp))).2.2 p hp
            · exact h x (List.mem_cons_of_mem _ hx)
      · have hw' : mWF al d = false := by simpa using hw
        rw [if_pos hw']
        constructor
        · intro h; cases h
        · rintro ⟨h, _⟩
          have g := (h (d, b) (by simp)).1
          exfalso
          by_cases hx : ∃ w ps, d = .tuple (.str w :: ps)
          · obtain ⟨w, ps, rfl⟩ := hx
            have g : mF al (.tuple (.str w :: ps)) = true := g
            rw [mF_eq, hw'] at g
            simp at g
          · have e : mF al d = false := foldD_no _ _ d fun w ps e => hx ⟨w, ps, e⟩
            have g : mF al d = true := g
            rw [e] at g; cases g
/-- what is_pattern answers -/
def mPat (al : List Nat) (d : PyData) : Bool := loopS al 20 [(d, false)] && decide (mW d ≤ 10)
theorem mPat_iff {al : List Nat} {d : PyData} : mPat al d = true ↔ mF al d = true ∧ mR d = true ∧ mT d ≤ 20 ∧ mW d ≤ 10 := by
  unfold mPat
  rw [Bool.and_eq_true, loopS_iff, decide_eq_true_eq]
  simp [Good]
  constructor
  · rintro ⟨⟨⟨a, b⟩, c⟩, e⟩; exact ⟨a, b, c, e⟩
  · rintro ⟨a, b, c, e⟩; exact ⟨⟨⟨a, b⟩, c⟩, e⟩

end Cs
namespace Cs
open PySem L2
open PyProof.Rows (envOfC)
/-! a set over the alphabet -/
def sp_set : Sp := fun vs H Q _ => ∃ (a : Addr) (al : List Nat) (n : Nat), vs = [.ref a, .str (S al)] ∧ Alp al ∧ Src a (n + 7) H ∧ ∀ (p : Addr) (cs : List Nat) (H' : Hp), cs.Sublist al → Tp H' (.ref p) (dSet cs) → Src a n H' → Kp a H H' → Q (.ref p) H'
theorem use_set {a : Addr} {al : List Nat} {n : Nat} {H : Hp} {Q : VK} {E : XK} (hA : Alp al) (h : Src a (n + 7) H) (k : ∀ (p : Addr) (cs : List Nat) (H' : Hp), cs.Sublist al → Tp H' (.ref p) (dSet cs) → Src a n H' → Kp a H H' → Q (.ref p) H') : sp_set [.ref a, .str (S al)] H Q E :=
  ⟨a, al, n, rfl, hA, h, k⟩
theorem sub_snoc {α : Type} {m l : List α} {i : Nat} {x : α} (h : m.Sublist (l.take i)) (e : l[i]? = some x) : (m ++ [x]).Sublist (l.take (i + 1)) := by
  rw [List.take_add_one, e]
  exact List.Sublist.append h (List.Sublist.refl _)
theorem sub_more {α : Type} {m l : List α} {i : Nat} (h : m.Sublist (l.take i)) : m.Sublist (l.take (i + 1)) := by
  rw [List.take_add_one]
  exact h.trans (List.sublist_append_left _ _)
section
variable {P : Program} {w : World} {K : PySem.W.Frag} {mg : Str → Option Value} {base : Heap}
theorem ok_set (B : Blt mg) (G__law_draw : Cal P w K mg base 1 "_law_draw" ["_law_source_here", "_law_many"] sp_draw) (F : At K mg "_law_set" s__law_set ["_law_source_here", "_law_alphabet_here"]) : Cal P w K mg base 2 "_law_set" ["_law_source_here", "_law_alphabet_here"] sp_set := by
  refine F.ok sc__law_set (fun vs H Q E h => ?_) (fun f cdv A outer s H vs Q E hr h => ?_)
  · obtain ⟨a, al, n, rfl, _⟩ := h
    rfl
  · obtain ⟨a, al, n, rfl, hA, hS, k⟩ := h
    have zal : (S al).length ≤ sizeLine := by rw [S_len, PySem.sizeLine_eq]; have := hA.hi; omega
    refine ⟨_, (pss_cons (ps_set (i := 2) sc__law_set.nd rfl (Or.inl rfl) (pe_ix (ix_listK (K := K) (by rfl)) (pe_lst (pa_cons pe_int (pa_cons pe_int (pa_cons pe_int (pa_cons pe_int (pa_cons pe_int (pa_cons pe_int (pa_cons pe_int (pa_cons pe_int pa_nil))))))))) (pe_c G__law_draw (hr.mono (by first | decide | omega)) (pa_cons (pv 0) (pa_cons pe_int pa_nil))) (fun _ _ => rfl)))
    (pss_cons (ps_set (i := 3) sc__law_set.nd rfl (Or.inr rfl) (pe_lc (own := [("_law_k", 4)]) rfl sc__law_set.nd (pi_range1 (by rfl) B.range (pa_cons (pv 2) pa_nil)) (blkOk_by (N := ["_law_source_here", "_law_alphabet_here", "_law_many", "_law_taken", "_law_k", "_law_at"]) (sc := defScope s__law_set) (by decide +kernel)) (fun _ _ _ _ _ => (pg_name (i := 4) sc__law_set.nd rfl (Or.inl rfl))) (fun _ _ _ _ _ => pts_nil) (fun _ _ _ _ _ => (pe_c G__law_draw (hr.mono (by first | decide | omega)) (pa_cons (pv 0) (pa_cons (pe_callB call_len_str (by rfl) B.len PySem.boot_len (pa_cons (pv 1) pa_nil)) pa_nil))))))
    (pss_one (ps_ret (pe_tup (pa_cons pe_str (pa_cons (pe_joinK (K := K) (by rfl) pe_str (pe_lc (own := [("_law_at", 5)]) rfl sc__law_set.nd (pi_range1 (by rfl) B.range (pa_cons (pe_callB call_len_str (by rfl) B.len PySem.boot_len (pa_cons (pv 1) pa_nil)) pa_nil)) (blkOk_by (N := ["_law_source_here", "_law_alphabet_here", "_law_many", "_law_taken", "_law_k", "_law_at"]) (sc := defScope s__law_set) (by decide +kernel)) (fun _ _ _ _ _ => (pg_name (i := 5) sc__law_set.nd rfl (Or.inl rfl))) (fun _ _ _ _ _ => (pts_one (pt_cmpR (op_in_seqK (K := K) (by rfl)) (pv 5) (pv 3) (by first | rfl | decide)))) (fun _ _ _ _ _ => (pe_ix ix_str (pv 1) (pv 5) (fun _ _ => rfl))))) pa_nil))))))), ?_⟩
    walk_at "go"
    refine ⟨by show 8 ≤ sizeLine; decide, rd_newK hS fun p H1 pa hp eP hS1 k1 => ?_⟩
    walk_at "go"
    refine use_draw (n := n + 6) hS1 (by decide) (by decide) fun i H2 i0 i1 hS2 k2 => ?_
    walk_at "go"
    obtain ⟨v, hv, hm⟩ := at_mem (xs := [V.int 1, V.int 1, V.int 1, V.int 1, V.int 1, V.int 2, V.int 2, V.int 6]) i0 i1
    refine rd_ixl (SqL.of (k2.at pa eP)) hv ?_
    walk_at "go"
    obtain ⟨m, rfl, m0, m1⟩ : ∃ m : Int, v = .int m ∧ 0 ≤ m ∧ m ≤ 6 := by
      simp only [List.mem_cons, List.not_mem_nil, or_false] at hm
      rcases hm with rfl | rfl | rfl | rfl | rfl | rfl | rfl | rfl <;> exact ⟨_, rfl, by decide, by decide⟩
    refine rd_rng1j (by omega) (by omega) ?_
    intro T hT
    have Ta : T ≠ a := hS2.ne hT
    have hT0 : H T = none := (k1.trans k2).none Ta hT
    refine lc_range (lo := 0) (n := m.toNat) (fun i H' => ∃ ms : List Int, H' T = some (.lst (ms.map V.int)) ∧ ms.length = i ∧ Src a (n + (6 - i)) H' ∧ Kp a H H') ?_ ?_ ?_
    · exact ⟨[], upd_same, rfl, (hS2.lay Ta).mono (by omega), (k1.trans k2).lay hT0⟩
    · rintro i H' hi ⟨ms, eT, hl, hS', kp⟩
      walk_at "go"
      refine ⟨rfl, ?_⟩
      walk_at "go"
      refine ⟨S al, rfl, zal, ?_⟩
      walk_at "go"
      have e6 : n + (6 - i) = n + (6 - (i + 1)) + 1 := by omega
      rw [e6] at hS'
      refine use_draw hS' (by rw [S_len]; have := hA.lo; omega) (by rw [S_len]; have := hA.hi; omega) fun d H2 d0 d1 hS2 k2 => ?_
      refine ⟨_, k2.at Ta eT, by rw [List.length_map, PySem.sizeLine_eq]; omega, ms ++ [d], ?_, by rw [List.length_append, hl]; rfl, hS2.lay Ta, (kp.trans k2).lay hT0⟩
      rw [upd_same, List.map_append]; rfl
    · rintro H3 ⟨ms, eT, hl, hS3, kp⟩
      walk_at "go"
      refine ⟨S al, rfl, zal, ?_⟩
      have hz : (((S al).length : Nat) : Int) = (al.length : Int) := by rw [S_len]
      have hlo := hA.lo
      have hhi := hA.hi
      refine rd_rng1j (by omega) (by omega) ?_
      intro D hD
      have Da : D ≠ a := hS3.ne hD
      have DT : D ≠ T := fun z => by rw [z, eT] at hD; cases hD
      have hD0 : H D = none := kp.none Da hD
      refine lc_range (lo := 0) (n := ((((S al).length : Nat) : Int)).toNat) (fun i H' => ∃ made : List Nat, H' T = some (.lst (ms.map V.int)) ∧ H' D = some (.lst (made.map fun c => V.str (S [c]))) ∧ made.Sublist (al.take i) ∧ Src a n H' ∧ Kp a H H') ?_ ?_ ?_
      · exact ⟨[], by rw [upd_ne DT.symm]; exact eT, upd_same, List.nil_sublist _, (hS3.lay Da).mono (by omega), kp.lay hD0⟩
      · rintro i H' hi ⟨made, eT', eD, hs, hS', kp'⟩
        have hi2 : i < al.length := by rw [S_len] at hi; omega
        have hml : made.length ≤ i := by
          have := hs.length_le
          rw [List.length_take] at this
          omega
        walk_at "go"
        refine ⟨rfl, ?_⟩
        walk_at "go"
        refine rd_in (.inl (SqL.of eT')) rfl (by rw [List.all_map]; exact List.all_eq_true.mpr fun _ _ => rfl) ?_
        walk_at "go"
        refine ite2 (fun _ => ?_) (fun _ => ?_)
        · walk_at "go"
          have hc : al[i]? = some al[i] := List.getElem?_eq_getElem hi2
          refine ⟨S al, _, al[i], rfl, rfl, zal, at_c rfl hc, made.map (fun c => V.str (S [c])), eD, by rw [List.length_map, PySem.sizeLine_eq]; omega, made ++ [al[i]], ?_, ?_, sub_snoc hs hc, hS'.lay Da, kp'.lay hD0⟩
          · rw [upd_ne DT.symm]; exact eT'
          · rw [upd_same, List.map_append]; rfl
        · exact ⟨made, eT', eD, sub_more hs, hS', kp'⟩
      · rintro H4 ⟨made, eT', eD, hs, hS4, kp4⟩
        have hs' : made.Sublist al := hs.trans (List.take_sublist _ _)
        walk_at "go"
        refine ⟨_, D, made.map fun c => S [c], rfl, rfl, .inl (SqL.of (by rw [eD, List.map_map]; rfl)), ?_, ?_⟩
        · rw [sum_signs, List.length_map]
          have := hs'.length_le
          show made.length + made.length * 0 ≤ _
          omega
        · walk_at "go"
          rw [empty_S, join_signs]
          refine ⟨by show 2 ≤ sizeLine; decide, rd_newK hS4 fun p H5 pa hp eP hS5 k5 => ?_⟩
          walk_at "go"
          exact k p made H5 hs' (.tup eP (.cons (.str _) (.cons (.str _) .nil))) hS5 (kp4.trans k5)
end

end Cs
namespace Cs
open PySem L2
open PyProof.Rows (envOfC)
/-! a row of m sets -/
def dRow (css : List (List Nat)) : PyData := .tuple (.str (Str.ofString "row") :: css.map dSet)
def sp_row : Sp := fun vs H Q _ => ∃ (a : Addr) (al : List Nat) (m : Int) (n : Nat), vs = [.ref a, .str (S al), .int m] ∧ Alp al ∧ 0 ≤ m ∧ m ≤ 1000 ∧ Src a (n + 7 * m.toNat) H ∧
  ∀ (p : Addr) (css : List (List Nat)) (H' : Hp), (css.length : Int) = m → (∀ cs ∈ css, cs.Sublist al) → Tp H' (.ref p) (dRow css) → Src a n H' → Kp a H H' → Q (.ref p) H'
theorem use_row {a : Addr} {al : List Nat} {m : Int} {n : Nat} {H : Hp} {Q : VK} {E : XK} (hA : Alp al) (m0 : 0 ≤ m) (m1 : m ≤ 1000) (h : Src a (n + 7 * m.toNat) H)
    (k : ∀ (p : Addr) (css : List (List Nat)) (H' : Hp), (css.length : Int) = m → (∀ cs ∈ css, cs.Sublist al) → Tp H' (.ref p) (dRow css) → Src a n H' → Kp a H H' → Q (.ref p) H') : sp_row [.ref a, .str (S al), .int m] H Q E :=
  ⟨a, al, m, n, rfl, hA, m0, m1, h, k⟩
section
variable {P : Program} {w : World} {K : PySem.W.Frag} {mg : Str → Option Value} {base : Heap}
theorem ok_row (B : Blt mg) (G__law_set : Cal P w K mg base 2 "_law_set" ["_law_source_here", "_law_alphabet_here"] sp_set) (F : At K mg "_law_row" s__law_row ["_law_source_here", "_law_alphabet_here", "_law_many"]) : Cal P w K mg base 3 "_law_row" ["_law_source_here", "_law_alphabet_here", "_law_many"] sp_row := by
  refine F.ok sc__law_row (fun vs H Q E h => ?_) (fun f cdv A outer s H vs Q E hr h => ?_)
  · obtain ⟨a, al, m, n, rfl, _⟩ := h
    rfl
  · obtain ⟨a, al, m, n, rfl, hA, m0, m1, hS, k⟩ := h
    refine ⟨_, (pss_one (ps_ret (pe_op (op_catTK (K := K) (by rfl)) (pe_tup (pa_cons pe_str pa_nil)) (pe_callTy (call_tuple_ofK (K := K) (by rfl)) (by rfl) B.tuple (by decide +kernel) (pa_cons (pe_lc (own := [("_law_k", 3)]) rfl sc__law_row.nd (pi_range1 (by rfl) B.range (pa_cons (pv 2) pa_nil)) (blkOk_by (N := ["_law_source_here", "_law_alphabet_here", "_law_many", "_law_k"]) (sc := defScope s__law_row) (by decide +kernel)) (fun _ _ _ _ _ => (pg_name (i := 3) sc__law_row.nd rfl (Or.inl rfl))) (fun _ _ _ _ _ => pts_nil) (fun _ _ _ _ _ => (pe_c G__law_set (hr.mono (by first | decide | omega)) (pa_cons (pv 0) (pa_cons (pv 1) pa_nil))))) pa_nil))))), ?_⟩
    walk_at "go"
    refine ⟨by show 1 ≤ sizeLine; decide, rd_newK hS fun p H1 pa hp eP hS1 k1 => ?_⟩
    walk_at "go"
    refine rd_rng1j (by omega) (by omega) ?_
    intro D hD
    have Da : D ≠ a := hS1.ne hD
    have Dp' : D ≠ p := fun z => by rw [z, eP] at hD; cases hD
    have hD0 : H D = none := k1.none Da hD
    refine lc_range (lo := 0) (n := m.toNat) (fun i H' => ∃ (vs : List V) (css : List (List Nat)), H' p = some (.tup [.str (Str.ofString "row")]) ∧ H' D = some (.lst vs) ∧ TpAll H' vs (css.map dSet) ∧ css.length = i ∧ (∀ cs ∈ css, cs.Sublist al) ∧ Src a (n + 7 * (m.toNat - i)) H' ∧ Kp a H H') ?_ ?_ ?_
    · exact ⟨[], [], by rw [upd_ne Dp'.symm]; exact eP, upd_same, .nil, rfl, by simp, (hS1.lay Da).mono (by omega), k1.lay hD0⟩
    · rintro i H' hi ⟨vs, css, eP', eD, hv, hl, hsub, hS', kp⟩
      walk_at "go"
      refine ⟨rfl, ?_⟩
      walk_at "go"
      have e7 : n + 7 * (m.toNat - i) = n + 7 * (m.toNat - (i + 1)) + 7 := by omega
      rw [e7] at hS'
      refine use_set hA hS' fun q cs H2 hs hq hS2 k2 => ?_
      have lv : vs.length = i := by rw [hv.length, List.length_map, hl]
      have eD2 := k2.at Da eD
      have t2 : TS H2 (upd H2 D (.lst (vs ++ [V.ref q]))) := TS.set eD2
      refine ⟨vs, eD2, by rw [lv, PySem.sizeLine_eq]; omega, vs ++ [.ref q], css ++ [cs], t2 _ _ (k2.at pa eP'), upd_same, ?_, by rw [List.length_append, hl]; rfl, ?_, hS2.lay Da, (kp.trans k2).lay hD0⟩
      · rw [List.map_append]
        exact ((hv.ts (TS.kp hS' k2)).app (.cons hq .nil)).ts t2
      · intro c hc
        rcases List.mem_append.mp hc with hc | hc
        · exact hsub c hc
        · rw [List.mem_singleton.mp hc]; exact hs
    · rintro H4 ⟨vs, css, eP', eD, hv, hl, hsub, hS4, kp⟩
      walk_at "go"
      have lv : vs.length = m.toNat := by rw [hv.length, List.length_map, hl]
      refine rd_tupl (SqL.of eD) (rd_newK hS4 fun q H5 qa hq eQ hS5 k5 => ?_)
      have pq := k5.at pa eP'
      have t5 := TS.kp hS4 k5
      refine rd_catT (SqT.of pq) (SqT.of eQ) (by simp) (by rw [lv, PySem.sizeLine_eq]; show 1 + _ ≤ _; omega) (fun e => ?_) (fun _ => rd_newK hS5 fun r H6 ra hr6 eR hS6 k6 => ?_)
      · walk_at "go"
        subst e
        have e0 : css = [] := by
          have := hv.length
          rw [List.length_map] at this
          exact List.length_eq_zero_iff.mp this.symm
        subst e0
        exact k p [] H5 (by simp at hl; omega) hsub (.tup pq (.cons (.str _) .nil)) (hS5.mono (by omega)) (kp.trans k5)
      · walk_at "go"
        exact k r css H6 (by omega) hsub (.tup eR (.cons (.str _) ((hv.ts t5).ts (TS.kp hS5 k6)))) (hS6.mono (by omega)) ((kp.trans k5).trans k6)
end

end Cs
namespace Cs
open PySem L2
open PyProof.Rows (envOfC)
/-! tuples by their parts -/
theorem Tp.tupI {H : Hp} {v : V} {ds : List PyData} (h : Tp H v (.tuple ds)) : ∃ p xs, v = .ref p ∧ H p = some (.tup xs) ∧ TpAll H xs ds := by
  cases h with
  | tup e h => exact ⟨_, _, rfl, e, h⟩
theorem TpAll.rep {H : Hp} {v : V} {d : PyData} (h : Tp H v d) : ∀ n : Nat, TpAll H (List.replicate n v) (List.replicate n d)
  | 0 => .nil
  | n + 1 => .cons h (TpAll.rep h n)
theorem flat_rep {α : Type} (v : α) : ∀ n : Nat, (List.replicate n [v]).flatten = List.replicate n v
  | 0 => rfl
  | n + 1 => by
    rw [List.replicate_succ, List.flatten_cons, flat_rep v n, List.replicate_succ]; rfl
theorem pick3 {y : V} (h : y ∈ ([V.str (kS "row"), .str (kS "any"), .str (kS "all")] : List V)) : ∃ u : Str, y = .str u ∧ (u = kS "row" ∨ u = kS "any" ∨ u = kS "all") := by
  simp only [List.mem_cons, List.not_mem_nil, or_false] at h
  rcases h with rfl | rfl | rfl
  · exact ⟨_, rfl, .inl rfl⟩
  · exact ⟨_, rfl, .inr (.inl rfl)⟩
  · exact ⟨_, rfl, .inr (.inr rfl)⟩
theorem if_tt {b : Bool} : (if b = true then true else true) = true := by cases b <;> rfl
theorem cut1 {x : V} {xs : List V} : cutV (x :: xs) (some 1) none = xs := by
  unfold cutV
  have e : HT.sIx (x :: xs).length 0 (some 1) = 1 := by
    show HT.sIx (x :: xs).length 0 (some ((1 : Nat) : Int)) = 1
    rw [HT.sIx_nat, List.length_cons]; omega
  rw [e, HT.sIx_none]
  show ((x :: xs).drop 1).take _ = xs
  rw [List.drop_one, List.tail_cons, List.take_of_length_le]
  rw [List.length_cons]; omega

end Cs
namespace Cs
open PySem L2
open PyProof.Rows (envOfC)
def sp_selection (K : PySem.W.Frag) : Sp := fun vs H Q _ => ∃ (al : List Nat) (v : V) (d : PyData), vs = [.str (S al), v] ∧ al.length ≤ 1000 ∧ Dp K H v d ∧ ∀ H', Same H H' → Q (.bl (mSel al d)) H'
theorem use_selection {K : PySem.W.Frag} {al : List Nat} {v : V} {d : PyData} {H : Hp} {Q : VK} {E : XK} (hA : al.length ≤ 1000) (h : Dp K H v d) (k : ∀ H', Same H H' → Q (.bl (mSel al d)) H') : sp_selection K [.str (S al), v] H Q E := ⟨al, v, d, rfl, hA, h, k⟩
/-- over a text, turn by turn -/
theorem lc_str {x : List Nat} {g : TG} {tt : TT} {te : TE} {vs : List Nat} {σ : St} {H1 : Hp} {D : Addr} {Qd : Hp → Prop} (Pv : Nat → Hp → Prop) (h0 : Pv 0 (upd H1 D (.lst [])))
    (hs : ∀ i c H, x[i]? = some c → Pv i H → g (.str (S [c])) (wipe σ vs) H fun σ2 H2 => wipe σ2 vs = wipe σ vs ∧ tt σ2 H2 fun b H3 =>
      if b = true then te σ2 H3 fun y H4 => ∃ acc, H4 D = some (.lst acc) ∧ acc.length < sizeLine ∧ Pv (i + 1) (upd H4 D (.lst (acc ++ [y]))) else Pv (i + 1) H3) (hd : ∀ H, Pv x.length H → Qd H) :
    ∃ W : Nat → Nat → Hp → Prop, (∃ m, W 0 m (upd H1 D (.lst []))) ∧ ∀ i m H, W i m H →
      ((Its (S x)).stop i H ∧ Qd H) ∨ ((Its (S x)).go i H ∧ ∃ Nx : Hp → Prop, (∀ H', Nx H' → ∃ m', m' < m ∧ W (i + 1) m' H') ∧ ∀ y H', (Its (S x)).yld i H y H' → g y (wipe σ vs) H' fun σ2 H2 => wipe σ2 vs = wipe σ vs ∧ tt σ2 H2 fun b H3 =>
        if b = true then te σ2 H3 fun y H4 => ∃ acc, H4 D = some (.lst acc) ∧ acc.length < sizeLine ∧ Nx (upd H4 D (.lst (acc ++ [y]))) else Nx H3) := by
  refine ⟨fun i m H => m = x.length - i ∧ i ≤ x.length ∧ Pv i H, ⟨x.length, by simp, Nat.zero_le _, h0⟩, ?_⟩
  rintro i m H ⟨rfl, hi, p⟩
  have sz : (S x).cps.size = x.length := by simp [S]
  by_cases hlt : i < x.length
  · refine .inr ⟨show i < (S x).cps.size by omega, Pv (i + 1), fun H' p' => ⟨x.length - (i + 1), by omega, rfl, hlt, p'⟩, fun y H' hy => ?_⟩
    obtain ⟨e, c, hc, y⟩ := hy
    subst e y
    exact hs i c _ (by rw [← Array.getElem?_toList] at hc; exact hc) p
  · have e : i = x.length := by omega
    subst e
    exact .inl ⟨show (S x).cps.size ≤ x.length by omega, hd H p⟩
theorem filter_snoc {α : Type} {p : α → Bool} {l : List α} {i : Nat} {c : α} (h : l[i]? = some c) : (l.take (i + 1)).filter p = (l.take i).filter p ++ (if p c = true then [c] else []) := by
  rw [List.take_add_one, h, List.filter_append]
  congr 1
  show List.filter p [c] = _
  rw [List.filter_cons, List.filter_nil]
section
variable {P : Program} {w : World} {K : PySem.W.Frag} {mg : Str → Option Value} {base : Heap}
theorem ok_selection (B : Blt mg) (F : At K mg "_is_selection" s__is_selection ["alphabet", "value"]) : Cal P w K mg base 1 "_is_selection" ["alphabet", "value"] (sp_selection K) := by
  refine F.ok sc__is_selection (fun vs H Q E h => ?_) (fun f cdv A outer s H vs Q E hr h => ?_)
  · obtain ⟨al, v, d, rfl, _⟩ := h
    rfl
  · obtain ⟨al, v, d, rfl, hA, hd, k⟩ := h
    refine ⟨_, (pss_one (ps_ret (pe_and (pe_callB (call_isiK' (K := K) (by rfl)) (by rfl) B.isinstance (by decide +kernel) (pa_cons (pv 1) (pa_cons (pe_ty (T := "str") B.str (by decide +kernel)) pa_nil))) (pe_one (pe_cmpR op_eq (pv 1) (pe_joinK (K := K) (by rfl) pe_str (pe_lc (own := [("character", 2)]) rfl sc__is_selection.nd (pi_str (pv 0)) (blkOk_by (N := ["alphabet", "value", "character"]) (sc := defScope s__is_selection) (by decide +kernel)) (fun _ _ _ _ _ => (pg_name (i := 2) sc__is_selection.nd rfl (Or.inl rfl))) (fun _ _ _ _ _ => (pts_one (pt_cmpR op_in_sign (pv 2) (pv 1) rfl))) (fun _ _ _ _ _ => (pv 2)))) (nomark _)))))), ?_⟩
    walk_at "go"
    refine rd_isStr hd ?_
    walk_at "go"
    cases hd with
    | str x =>
      refine iteT ?_
      walk_at "go"
      intro D hD
      refine lc_str (x := al) (fun i H' => H' D = some (.lst (((al.take i).filter fun c => decide (c ∈ x.cps.toList)).map fun c => V.str (S [c]))) ∧ Same H H') ⟨upd_same, Same.lay hD⟩ ?_ ?_
      · rintro i c H' hc ⟨eD, sm⟩
        walk_at "go"
        refine ⟨rfl, ?_⟩
        walk_at "go"
        refine ⟨c, x, rfl, rfl, ?_⟩
        walk_at "go"
        have hlen : ((al.take i).filter fun c => decide (c ∈ x.cps.toList)).length ≤ 1000 := Nat.le_trans (List.length_filter_le _ _) (by rw [List.length_take]; omega)
        refine ite2 (fun h1 => ?_) (fun h1 => ?_)
        · walk_at "go"
          refine ⟨_, eD, by rw [List.length_map, PySem.sizeLine_eq]; omega, ?_, Same.lay2 sm hD⟩
          rw [upd_same, filter_snoc hc, if_pos h1, List.map_append]; rfl
        · refine ⟨?_, sm⟩
          rw [filter_snoc hc, if_neg h1, List.append_nil]; exact eD
      · rintro H' ⟨eD, sm⟩
        rw [List.take_length] at eD
        have hlen : (al.filter fun c => decide (c ∈ x.cps.toList)).length ≤ 1000 := Nat.le_trans (List.length_filter_le _ _) hA
        refine ⟨_, D, (al.filter fun c => decide (c ∈ x.cps.toList)).map fun c => S [c], rfl, rfl, .inl (SqL.of (by rw [eD, List.map_map]; rfl)), ?_, ?_⟩
        · rw [sum_signs, List.length_map]
          show _ + _ * 0 ≤ _
          omega
        · walk_at "go"
          rw [empty_S, join_signs]
          have e : mSel al (.str x) = decide (V.str x = V.str (S (al.filter fun c => decide (c ∈ x.cps.toList)))) := by
            show decide (x = _) = _
            simp
          rw [← e]
          exact k _ sm
    | non => exact iteF (k _ (Same.refl _))
    | bl b => exact iteF (k _ (Same.refl _))
    | int b => exact iteF (k _ (Same.refl _))
    | lst _ _ => exact iteF (k _ (Same.refl _))
    | tup _ _ => exact iteF (k _ (Same.refl _))
end

end Cs
namespace Cs
open PySem L2
open PyProof.Rows (envOfC)
def sp_within (K : PySem.W.Frag) : Sp := fun vs H Q _ => ∃ (v : V) (d : PyData) (lo hi : Int), vs = [v, .int lo, .int hi] ∧ Dp K H v d ∧ Q (.bl (mWithin lo hi d)) H
theorem use_within {K : PySem.W.Frag} {v : V} {d : PyData} {lo hi : Int} {H : Hp} {Q : VK} {E : XK} (h : Dp K H v d) (k : Q (.bl (mWithin lo hi d)) H) : sp_within K [v, .int lo, .int hi] H Q E := ⟨v, d, lo, hi, rfl, h, k⟩
section
variable {P : Program} {w : World} {K : PySem.W.Frag} {mg : Str → Option Value} {base : Heap}
theorem ok_within (B : Blt mg) (F : At K mg "_is_integer_within" s__is_integer_within ["value", "least", "most"]) : Cal P w K mg base 1 "_is_integer_within" ["value", "least", "most"] (sp_within K) := by
  refine F.ok sc__is_integer_within (fun vs H Q E h => ?_) (fun f cdv A outer s H vs Q E hr h => ?_)
  · obtain ⟨v, d, lo, hi, rfl, _⟩ := h
    rfl
  · obtain ⟨v, d, lo, hi, rfl, hd, k⟩ := h
    refine ⟨_, (pss_one (ps_ret (pe_and (pe_callB (call_isiK' (K := K) (by rfl)) (by rfl) B.isinstance (by decide +kernel) (pa_cons (pv 0) (pa_cons (pe_ty (T := "int") B.int (by decide +kernel)) pa_nil))) (pe_and (pe_not (pe_callB (call_isiK' (K := K) (by rfl)) (by rfl) B.isinstance (by decide +kernel) (pa_cons (pv 0) (pa_cons (pe_ty (T := "bool") B.bool (by decide +kernel)) pa_nil)))) (pe_one (pe_chain op_le op_le (pv 1) (pv 0) (pv 2))))))), ?_⟩
    walk_at "go"
    refine rd_isInt hd ?_
    walk_at "go"
    cases hd with
    | int i =>
      refine iteT ?_
      walk_at "go"
      refine rd_isBool (.int i) ?_
      walk_at "go"
      refine iteT ?_
      walk_at "go"
      refine ite2 (fun h1 => ?_) (fun h1 => ?_)
      · walk_at "go"
        have e : mWithin lo hi (.int i) = decide (i ≤ hi) := by
          show (decide (lo ≤ i) && decide (i ≤ hi)) = decide (i ≤ hi)
          rw [h1]; rfl
        rw [e] at k; exact k
      · have h1' : decide (lo ≤ i) = false := by cases e : decide (lo ≤ i) <;> simp_all
        have e : mWithin lo hi (.int i) = false := by
          show (decide (lo ≤ i) && decide (i ≤ hi)) = false
          rw [h1']; rfl
        rw [e] at k; exact k
    | bl b =>
      refine iteT ?_
      walk_at "go"
      refine rd_isBool (.bl b) ?_
      walk_at "go"
      exact iteF k
    | non => exact iteF k
    | str x => exact iteF k
    | lst _ _ => exact iteF k
    | tup _ _ => exact iteF k
end

end Cs
namespace Cs
open PySem L2
open PyProof.Rows (envOfC)
structure PatK (mg : Str → Option Value) : Prop where
  c_MOST_TUPLES : ∃ u, mg "MOST_TUPLES" = some u ∧ RelV (.int 20) u
  c_MOST_WIDTH : ∃ u, mg "MOST_WIDTH" = some u ∧ RelV (.int 10) u
  c_MOST_REPEATS : ∃ u, mg "MOST_REPEATS" = some u ∧ RelV (.int 4) u

end Cs
namespace Cs
open PySem L2
open PyProof.Rows (envOfC)
def sp_range (K : PySem.W.Frag) : Sp := fun vs H Q _ => ∃ (v1 v2 : V) (d1 d2 : PyData), vs = [v1, v2] ∧ Dp K H v1 d1 ∧ Dp K H v2 d2 ∧ Q (.bl (mRange d1 d2)) H
theorem use_range {K : PySem.W.Frag} {v1 v2 : V} {d1 d2 : PyData} {H : Hp} {Q : VK} {E : XK} (h1 : Dp K H v1 d1) (h2 : Dp K H v2 d2) (k : Q (.bl (mRange d1 d2)) H) : sp_range K [v1, v2] H Q E := ⟨v1, v2, d1, d2, rfl, h1, h2, k⟩
section
variable {P : Program} {w : World} {K : PySem.W.Frag} {mg : Str → Option Value} {base : Heap}
theorem ok_range (B : Blt mg) (T : PatK mg) (G__is_integer_within : Cal P w K mg base 1 "_is_integer_within" ["value", "least", "most"] (sp_within K)) (F : At K mg "_is_range" s__is_range ["low", "high"]) : Cal P w K mg base 2 "_is_range" ["low", "high"] (sp_range K) := by
  refine F.ok sc__is_range (fun vs H Q E h => ?_) (fun f cdv A outer s H vs Q E hr h => ?_)
  · obtain ⟨v1, v2, d1, d2, rfl, _⟩ := h
    rfl
  · obtain ⟨v1, v2, d1, d2, rfl, h1, h2, k⟩ := h
    refine ⟨_, (pss_cons (ps_if (pt_not (pt_val (pe_c G__is_integer_within (hr.mono (by first | decide | omega)) (pa_cons (pv 0) (pa_cons pe_int (pa_cons (pe_k T.c_MOST_REPEATS) pa_nil))))))
    (pss_one (ps_ret pe_bl))
    pss_nil)
    (pss_one (ps_ret (pe_or (pe_cmpR op_isN (pv 1) pe_non (nomark _)) (pe_one (pe_c G__is_integer_within (hr.mono (by first | decide | omega)) (pa_cons (pv 1) (pa_cons (pv 0) (pa_cons (pe_k T.c_MOST_REPEATS) pa_nil))))))))), ?_⟩
    walk_at "go"
    refine use_within h1 ?_
    walk_at "go"
    cases h1 with
    | int l =>
      refine ite2 (fun h1 => ?_) (fun h1 => ?_)
      · walk_at "go"
        have h1' : mWithin 0 4 (.int l) = false := by cases e : mWithin 0 4 (.int l) <;> simp_all
        have e : mRange (.int l) d2 = false := by
          show (mWithin 0 4 (.int l) && _) = false
          rw [h1']; rfl
        rw [e] at k; exact k
      · walk_at "go"
        have h1' : mWithin 0 4 (.int l) = true := by cases e : mWithin 0 4 (.int l) <;> simp_all
        have e : mRange (.int l) d2 = mHigh l d2 := by
          show (mWithin 0 4 (.int l) && _) = _
          rw [h1']; rfl
        rw [e] at k
        refine ⟨rfl, ?_⟩
        walk_at "go"
        cases h2 with
        | non => exact iteT k
        | int i =>
          refine iteF ?_
          walk_at "go"
          exact use_within (.int i) k
        | bl i =>
          refine iteF ?_
          walk_at "go"
          exact use_within (.bl i) k
        | str i =>
          refine iteF ?_
          walk_at "go"
          exact use_within (.str i) k
        | lst a b =>
          refine iteF ?_
          walk_at "go"
          exact use_within (.lst a b) k
        | tup a b =>
          refine iteF ?_
          walk_at "go"
          exact use_within (.tup a b) k
    | non => refine iteT ?_; walk_at "go"; exact k
    | bl b => refine iteT ?_; walk_at "go"; exact k
    | str x => refine iteT ?_; walk_at "go"; exact k
    | lst _ _ => refine iteT ?_; walk_at "go"; exact k
    | tup _ _ => refine iteT ?_; walk_at "go"; exact k
end

end Cs
namespace Cs
open PySem L2
open PyProof.Rows (envOfC)
def sp_wf (K : PySem.W.Frag) : Sp := fun vs H Q _ => ∃ (al : List Nat) (v : V) (d : PyData), vs = [.str (S al), v] ∧ al.length ≤ 1000 ∧ Dp K H v d ∧ ∀ H', Same H H' → Q (.bl (mWF al d)) H'
theorem use_wf {K : PySem.W.Frag} {al : List Nat} {v : V} {d : PyData} {H : Hp} {Q : VK} {E : XK} (hA : al.length ≤ 1000) (h : Dp K H v d) (k : ∀ H', Same H H' → Q (.bl (mWF al d)) H') : sp_wf K [.str (S al), v] H Q E := ⟨al, v, d, rfl, hA, h, k⟩
theorem beq_dec {a b : Str} : (a == b) = decide (b = a) := by
  by_cases h : b = a
  · subst h; simp
  · rw [decide_eq_false h]; exact beq_eq_false_iff_ne.mpr (Ne.symm h)
theorem dec_S {a b : Str} : decide (V.str a = V.str b) = decide (a = b) := by simp
theorem dec_len {n m : Nat} : decide (V.int (n : Nat) = V.int (m : Nat)) = decide (n = m) := by
  by_cases h : n = m
  · subst h; simp
  · rw [decide_eq_false h]
    refine decide_eq_false fun e => h ?_
    injection e with e
    omega
theorem dpAll3 {K : PySem.W.Frag} {H : Hp} {vs : List V} {ps : List PyData} (h : DpAll K H vs ps) (l : vs.length = 3) : ∃ v1 v2 v3 d1 d2 d3, vs = [v1, v2, v3] ∧ ps = [d1, d2, d3] ∧ Dp K H v1 d1 ∧ Dp K H v2 d2 ∧ Dp K H v3 d3 := by
  cases h with
  | nil => simp at l
  | cons a1 h => cases h with
    | nil => simp at l
    | cons a2 h => cases h with
      | nil => simp at l
      | cons a3 h => cases h with
        | nil => exact ⟨_, _, _, _, _, _, rfl, rfl, a1, a2, a3⟩
        | cons a4 h => simp at l
theorem mOne_no {al : List Nat} {ps : List PyData} (h : ps.length ≠ 1) : mOne al ps = false := by
  match ps with
  | [] => rfl
  | [_] => exact absurd rfl h
  | _ :: _ :: _ => rfl
theorem mThree_no {ps : List PyData} (h : ps.length ≠ 3) : mThree ps = false := by
  match ps with
  | [] => rfl
  | [_] => rfl
  | [_, _] => rfl
  | [_, _, _] => exact absurd rfl h
  | _ :: _ :: _ :: _ :: _ => rfl
section
variable {P : Program} {w : World} {K : PySem.W.Frag} {mg : Str → Option Value} {base : Heap}
theorem ok_wf (B : Blt mg) (G__is_selection : Cal P w K mg base 1 "_is_selection" ["alphabet", "value"] (sp_selection K)) (G__is_range : Cal P w K mg base 2 "_is_range" ["low", "high"] (sp_range K)) (F : At K mg "_is_well_formed" s__is_well_formed ["alphabet", "value"]) : Cal P w K mg base 3 "_is_well_formed" ["alphabet", "value"] (sp_wf K) := by
  refine F.ok sc__is_well_formed (fun vs H Q E h => ?_) (fun f cdv A outer s H vs Q E hr h => ?_)
  · obtain ⟨al, v, d, rfl, _⟩ := h
    rfl
  · obtain ⟨al, v, d, rfl, hA, hd, k⟩ := h
    refine ⟨_, (pss_cons (ps_if (PW.pt (pw_or (pt_not (pt_val (pe_callB (call_isiK' (K := K) (by rfl)) (by rfl) B.isinstance (by decide +kernel) (pa_cons (pv 1) (pa_cons (pe_ty (T := "tuple") B.tuple (by decide +kernel)) pa_nil))))) (pw_or (pt_cmpR op_eq (pe_callB (call_len_seqK (K := K) (by rfl)) (by rfl) B.len PySem.boot_len (pa_cons (pv 1) pa_nil)) pe_int (nomark _)) (pw_or1 (pt_not (pt_val (pe_callB (call_isiK' (K := K) (by rfl)) (by rfl) B.isinstance (by decide +kernel) (pa_cons (pe_ix (ix_tupK (K := K) (by rfl)) (pv 1) pe_int (fun _ _ => rfl)) (pa_cons (pe_ty (T := "str") B.str (by decide +kernel)) pa_nil)))))))))
    (pss_one (ps_ret pe_bl))
    pss_nil)
    (pss_cons (ps_set (i := 2) sc__is_well_formed.nd rfl (Or.inl rfl) (pe_ix (ix_tupK (K := K) (by rfl)) (pv 1) pe_int (fun _ _ => rfl)))
    (pss_cons (ps_if (pt_cmpR op_eq (pv 2) pe_str (nomark _))
    (pss_one (ps_ret (pe_and (pe_cmpR op_eq (pe_callB (call_len_seqK (K := K) (by rfl)) (by rfl) B.len PySem.boot_len (pa_cons (pv 1) pa_nil)) pe_int (nomark _)) (pe_one (pe_c G__is_selection (hr.mono (by first | decide | omega)) (pa_cons (pv 0) (pa_cons (pe_ix (ix_tupK (K := K) (by rfl)) (pv 1) pe_int (fun _ _ => rfl)) pa_nil)))))))
    pss_nil)
    (pss_cons (ps_if (pt_cmpR op_eq (pv 2) pe_str (nomark _))
    (pss_one (ps_ret (pe_cmpR op_eq (pe_callB (call_len_seqK (K := K) (by rfl)) (by rfl) B.len PySem.boot_len (pa_cons (pv 1) pa_nil)) pe_int (nomark _))))
    pss_nil)
    (pss_cons (ps_if (pt_cmpR op_eq (pv 2) pe_str (nomark _))
    (pss_one (ps_ret (pe_and (pe_cmpR op_eq (pe_callB (call_len_seqK (K := K) (by rfl)) (by rfl) B.len PySem.boot_len (pa_cons (pv 1) pa_nil)) pe_int (nomark _)) (pe_one (pe_c G__is_range (hr.mono (by first | decide | omega)) (pa_cons (pe_ix (ix_tupK (K := K) (by rfl)) (pv 1) pe_int (fun _ _ => rfl)) (pa_cons (pe_ix (ix_tupK (K := K) (by rfl)) (pv 1) pe_int (fun _ _ => rfl)) pa_nil)))))))
    pss_nil)
    (pss_one (ps_ret (pe_cmpR (op_in_seqK (K := K) (by rfl)) (pv 2) (pe_tup (pa_cons pe_str (pa_cons pe_str (pa_cons pe_str pa_nil)))) (by first | rfl | decide))))))))), ?_⟩
    walk_at "go"
    refine rd_isTup hd ?_
    walk_at "go"
    cases hd with
    | @tup a xs ds ha hx =>
      refine iteF ?_
      walk_at "go"
      refine rd_len (.inr ha) ?_
      walk_at "go"
      cases hx with
      | nil =>
        refine iteT ?_
        walk_at "go"
        exact k _ (Same.refl _)
      | @cons v0 vs d0 ps h0 hx =>
        have e0 : decide (V.int ((v0 :: vs).length : Nat) = V.int 0) = false := (dec_len (m := 0)).trans rfl
        rw [e0]
        refine iteF ?_
        walk_at "go"
        refine rd_ixt ha (at_of (j := 0) rfl rfl) ?_
        walk_at "go"
        refine rd_isStr h0 ?_
        walk_at "go"
        cases h0 with
        | str w =>
          refine iteF ?_
          walk_at "go"
          refine rd_ixt ha (at_of (j := 0) rfl rfl) ?_
          walk_at "go"
          rw [dec_S]
          refine ite2 (fun h1 => ?_) (fun h1 => ?_)
          · have w1 := of_decide_eq_true h1
            subst w1
            walk_at "go"
            refine rd_len (.inr ha) ?_
            walk_at "go"
            refine ite2 (fun h2 => ?_) (fun h2 => ?_)
            · walk_at "go"
              have h2 : vs.length = 1 := by
                have := of_decide_eq_true ((dec_len (m := 2)).symm.trans h2)
                rw [List.length_cons] at this; omega
              cases hx with
              | nil => simp at h2
              | @cons v1 vs1 d1 ps1 h1' hx1 =>
                cases hx1 with
                | nil =>
                  refine rd_ixt ha (at_of (j := 1) rfl rfl) ?_
                  walk_at "go"
                  exact use_selection hA h1' k
                | cons _ _ => simp at h2
            · have h2 : ¬ vs.length = 1 := fun z => h2 ((dec_len (m := 2)).trans (decide_eq_true (by rw [List.length_cons]; omega)))
              have e : mWF al (.tuple (.str (kS "set") :: ps)) = false := by
                rw [mWF_eq, if_pos rfl]
                exact mOne_no (by rw [← DpAll.length hx]; exact h2)
              have kk := k H (Same.refl _)
              rw [e] at kk
              exact kk
          · have n1 : ¬ w = kS "set" := fun z => h1 (decide_eq_true z)
            walk_at "go"
            rw [dec_S]
            refine ite2 (fun h2 => ?_) (fun h2 => ?_)
            · have w1 := of_decide_eq_true h2
              subst w1
              walk_at "go"
              refine rd_len (.inr ha) ?_
              walk_at "go"
              have e : mWF al (.tuple (.str (kS "not") :: ps)) = decide (V.int ((V.str (kS "not") :: vs).length : Nat) = V.int 2) := by
                rw [mWF_eq, if_neg n1, if_pos rfl]
                refine Eq.trans ?_ (dec_len (m := 2)).symm
                rw [List.length_cons, (DpAll.length hx)]
                simp
              rw [← e]
              exact k _ (Same.refl _)
            · have n2 : ¬ w = kS "not" := fun z => h2 (decide_eq_true z)
              walk_at "go"
              rw [dec_S]
              refine ite2 (fun h3 => ?_) (fun h3 => ?_)
              · have w1 := of_decide_eq_true h3
                subst w1
                walk_at "go"
                refine rd_len (.inr ha) ?_
                walk_at "go"
                refine ite2 (fun h2 => ?_) (fun h2 => ?_)
                · walk_at "go"
                  have h2 : vs.length = 3 := by
                    have := of_decide_eq_true ((dec_len (m := 4)).symm.trans h2)
                    rw [List.length_cons] at this; omega
                  obtain ⟨v1, v2, v3, d1, d2, d3, rfl, rfl, a1, a2, a3⟩ := dpAll3 hx h2
                  refine rd_ixt ha (at_of (j := 2) rfl rfl) ?_
                  walk_at "go"
                  refine rd_ixt ha (at_of (j := 3) rfl rfl) ?_
                  walk_at "go"
                  exact use_range a2 a3 (k _ (Same.refl _))
                · have h2 : ¬ vs.length = 3 := fun z => h2 ((dec_len (m := 4)).trans (decide_eq_true (by rw [List.length_cons]; omega)))
                  have e : mWF al (.tuple (.str (kS "again") :: ps)) = false := by
                    rw [mWF_eq, if_neg n1, if_neg n2, if_pos rfl]
                    exact mThree_no (by rw [← DpAll.length hx]; exact h2)
                  have kk := k H (Same.refl _)
                  rw [e] at kk
                  exact kk
              · have n3 : ¬ w = kS "again" := fun z => h3 (decide_eq_true z)
                walk_at "go"
                refine ⟨by show 3 ≤ sizeLine; decide, rd_new fun p H' hp eP sm => ?_⟩
                walk_at "go"
                refine rd_in (.inr (SqT.of eP)) rfl rfl ?_
                have e : mWF al (.tuple (.str w :: ps)) = inV (.str w) [.str (kS "row"), .str (kS "any"), .str (kS "all")] := by
                  rw [mWF_eq, if_neg n1, if_neg n2, if_neg n3]
                  show _ = ((kS "row" == w) || ((kS "any" == w) || ((kS "all" == w) || false)))
                  rw [Bool.or_false, Bool.or_assoc, beq_dec, beq_dec, beq_dec]
                have kk := k _ sm
                rw [e] at kk
                exact kk
        | non => refine iteT ?_; walk_at "go"; exact k _ (Same.refl _)
        | bl b => refine iteT ?_; walk_at "go"; exact k _ (Same.refl _)
        | int b => refine iteT ?_; walk_at "go"; exact k _ (Same.refl _)
        | lst _ _ => refine iteT ?_; walk_at "go"; exact k _ (Same.refl _)
        | tup _ _ => refine iteT ?_; walk_at "go"; exact k _ (Same.refl _)
    | non => refine iteT ?_; walk_at "go"; exact k _ (Same.refl _)
    | bl b => refine iteT ?_; walk_at "go"; exact k _ (Same.refl _)
    | int b => refine iteT ?_; walk_at "go"; exact k _ (Same.refl _)
    | str b => refine iteT ?_; walk_at "go"; exact k _ (Same.refl _)
    | lst _ _ => refine iteT ?_; walk_at "go"; exact k _ (Same.refl _)
end

end Cs
namespace Cs
open PySem L2
open PyProof.Rows (envOfC)
/-! the parts: w is known to be a text, an again has a part -/
def sp_parts (K : PySem.W.Frag) : Sp := fun vs H Q _ => ∃ (Hd : Hp) (v : V) (w : Str) (ps : List PyData), vs = [v] ∧ Same Hd H ∧ Dp K Hd v (.tuple (.str w :: ps)) ∧ (w = kS "again" → 1 ≤ ps.length) ∧ ∀ (p : Addr) (xs : List V) (H' : Hp), Same H H' → SqT K H' p xs → DpAll K Hd xs (mParts (.tuple (.str w :: ps))) → Q (.ref p) H'
theorem use_parts {K : PySem.W.Frag} {Hd : Hp} {v : V} {w : Str} {ps : List PyData} {H : Hp} {Q : VK} {E : XK} (s : Same Hd H) (h : Dp K Hd v (.tuple (.str w :: ps))) (ha : w = kS "again" → 1 ≤ ps.length) (k : ∀ (p : Addr) (xs : List V) (H' : Hp), Same H H' → SqT K H' p xs → DpAll K Hd xs (mParts (.tuple (.str w :: ps))) → Q (.ref p) H') : sp_parts K [v] H Q E := ⟨Hd, v, w, ps, rfl, s, h, ha, k⟩
section
variable {P : Program} {w : World} {K : PySem.W.Frag} {mg : Str → Option Value} {base : Heap}
theorem ok_parts (F : At K mg "_parts" s__parts ["expression"]) : Cal P w K mg base 1 "_parts" ["expression"] (sp_parts K) := by
  refine F.ok sc__parts (fun vs H Q E h => ?_) (fun f cdv A outer s H vs Q E hr h => ?_)
  · obtain ⟨_, v, w, ps, rfl, _⟩ := h
    rfl
  · obtain ⟨Hd, v, w, ps, rfl, hs0, hd, ha, k⟩ := h
    refine ⟨_, (pss_cons (ps_if (pt_cmpR op_eq (pe_ix (ix_tupK (K := K) (by rfl)) (pv 0) pe_int (fun _ _ => rfl)) pe_str (nomark _))
    (pss_one (ps_ret (pe_tup pa_nil)))
    pss_nil)
    (pss_cons (ps_if (pt_cmpR op_eq (pe_ix (ix_tupK (K := K) (by rfl)) (pv 0) pe_int (fun _ _ => rfl)) pe_str (nomark _))
    (pss_one (ps_ret (pe_tup (pa_cons (pe_ix (ix_tupK (K := K) (by rfl)) (pv 0) pe_int (fun _ _ => rfl)) pa_nil))))
    pss_nil)
    (pss_one (ps_ret (pe_slice (sl_tupAK (K := K) (by rfl)) (pv 0) (po_some pe_int) po_none))))), ?_⟩
    walk_at "go"
    cases hd with
    | @tup a xs ds hs hx =>
      have hs := Same.seqT hs0 hs
      cases hx with
      | @cons v0 vs _ _ h0 hx =>
        cases h0
        refine rd_ixt hs (at_of (j := 0) rfl rfl) ?_
        walk_at "go"
        rw [dec_S]
        refine ite2 (fun h1 => ?_) (fun h1 => ?_)
        · have w1 := of_decide_eq_true h1
          subst w1
          walk_at "go"
          refine ⟨by show 0 ≤ sizeLine; decide, rd_new fun p H' hp eP sm => ?_⟩
          exact k p [] H' sm (SqT.of eP) (by rw [mParts_eq, if_pos rfl]; exact .nil)
        · have n1 : ¬ w = kS "set" := fun z => h1 (decide_eq_true z)
          walk_at "go"
          refine rd_ixt hs (at_of (j := 0) rfl rfl) ?_
          walk_at "go"
          rw [dec_S]
          refine ite2 (fun h2 => ?_) (fun h2 => ?_)
          · have w1 := of_decide_eq_true h2
            subst w1
            walk_at "go"
            cases hx with
            | nil => exact absurd (ha rfl) (by simp)
            | @cons v1 vs1 d1 ps1 a1 hx1 =>
              refine rd_ixt hs (at_of (j := 1) rfl rfl) ?_
              walk_at "go"
              refine ⟨by show 1 ≤ sizeLine; decide, rd_new fun p H' hp eP sm => ?_⟩
              exact k p [v1] H' sm (SqT.of eP) (by rw [mParts_eq, if_neg n1, if_pos rfl]; exact .cons a1 .nil)
          · have n2 : ¬ w = kS "again" := fun z => h2 (decide_eq_true z)
            walk_at "go"
            refine rd_sla hs (fun z => ?_) (fun _ => ?_)
            · exfalso
              have z1 := z.1
              have e : HT.sIx (V.str w :: vs).length 0 (some 1) = 1 := by
                show HT.sIx (V.str w :: vs).length 0 (some ((1 : Nat) : Int)) = 1
                rw [HT.sIx_nat, List.length_cons]; omega
              omega
            · rw [cut1]
              refine rd_new fun p H' hp eP sm => ?_
              exact k p vs H' sm (SqT.of eP) (by rw [mParts_eq, if_neg n1, if_neg n2]; exact hx)
end

end Cs
namespace Cs
open PySem L2
open PyProof.Rows (envOfC)
def sp_width (K : PySem.W.Frag) (al : List Nat) (n : Nat) : Sp := fun vs H Q _ => ∃ (v : V) (d : PyData), vs = [v] ∧ Dp K H v d ∧ mF al d = true ∧ mD d ≤ n ∧ mT d ≤ 1000 ∧ ∀ H', Same H H' → Q (.int (mW d)) H'
theorem use_width {K : PySem.W.Frag} {al : List Nat} {n : Nat} {v : V} {d : PyData} {H : Hp} {Q : VK} {E : XK} (h : Dp K H v d) (hF : mF al d = true) (hD : mD d ≤ n) (hT : mT d ≤ 1000) (k : ∀ H', Same H H' → Q (.int (mW d)) H') : sp_width K al n [v] H Q E := ⟨v, d, rfl, h, hF, hD, hT, k⟩
theorem mF_form {al : List Nat} {d : PyData} (h : mF al d = true) : ∃ w ps, d = .tuple (.str w :: ps) ∧ mWF al (.tuple (.str w :: ps)) = true ∧ ∀ p ∈ rel w ps, mF al p = true := by
  by_cases hx : ∃ w ps, d = .tuple (.str w :: ps)
  · obtain ⟨w, ps, rfl⟩ := hx
    rw [mF_eq, Bool.and_eq_true, List.all_map, List.all_eq_true] at h
    exact ⟨w, ps, rfl, h.1, h.2⟩
  · have e : mF al d = false := foldD_no _ _ d fun w ps e => hx ⟨w, ps, e⟩
    rw [e] at h; cases h
theorem mThree_form {ps : List PyData} (h : mThree ps = true) : ∃ p l hi, ps = [p, .int l, hi] ∧ 0 ≤ l ∧ l ≤ 4 ∧ (hi = .none ∨ ∃ m, hi = .int m ∧ l ≤ m ∧ m ≤ 4) := by
  unfold mThree at h
  split at h
  · rename_i p lo hi
    unfold mRange at h
    split at h
    · rename_i l
      rw [Bool.and_eq_true] at h
      obtain ⟨h1, h2⟩ := h
      unfold mWithin at h1
      simp only [Bool.and_eq_true, decide_eq_true_eq] at h1
      refine ⟨p, l, hi, rfl, h1.1, h1.2, ?_⟩
      unfold mHigh at h2
      split at h2
      · exact .inl rfl
      · unfold mWithin at h2
        split at h2
        · simp only [Bool.and_eq_true, decide_eq_true_eq] at h2
          exact .inr ⟨_, rfl, h2.1, h2.2⟩
        · cases h2
    · cases h
  · cases h
theorem mT_part {w : Str} {ps : List PyData} {p : PyData} (h : p ∈ rel w ps) : mT p < mT (.tuple (.str w :: ps)) := by
  rw [mT_eq]
  have := mem_sum_le (List.mem_map_of_mem (f := mT) h)
  omega
theorem len_le_sum {l : List Nat} (h : ∀ x ∈ l, 1 ≤ x) : l.length ≤ l.sum := by
  induction l with
  | nil => simp
  | cons a l ih =>
    rw [List.length_cons, List.sum_cons]
    have := ih fun x hx => h x (by simp [hx])
    have := h a (by simp)
    omega
theorem rel_len {w : Str} {ps : List PyData} : (rel w ps).length < mT (.tuple (.str w :: ps)) := by
  rw [mT_eq]
  have := len_le_sum (l := (rel w ps).map mT) fun x hx => by
    obtain ⟨p, _, rfl⟩ := List.mem_map.mp hx
    exact mT_pos p
  rw [List.length_map] at this
  omega
theorem map_snoc {α β : Type} (f : α → β) {l : List α} {i : Nat} {x : α} (h : l[i]? = some x) : (l.take (i + 1)).map f = (l.take i).map f ++ [f x] := by
  rw [List.take_add_one, h, List.map_append]; rfl
section
variable {P : Program} {w : World} {K : PySem.W.Frag} {mg : Str → Option Value} {base : Heap}
theorem ok_width (B : Blt mg) (G__parts : Cal P w K mg base 1 "_parts" ["expression"] (sp_parts K)) (F : At K mg "_width" s__width ["expression"]) (al : List Nat) : ∀ n : Nat, Cal P w K mg base (n + 2) "_width" ["expression"] (sp_width K al n) := by
  intro n
  induction n with
  | zero =>
    refine F.ok (k := 1) sc__width (fun vs H Q E h => ?_) (fun f cdv A outer s H vs Q E hr h => ?_)
    · obtain ⟨v, d, rfl, _⟩ := h
      rfl
    · obtain ⟨v, d, rfl, _, hF, hD, _⟩ := h
      obtain ⟨w', ps, rfl, _⟩ := mF_form hF
      rw [mD_eq] at hD
      omega
  | succ n G__width =>
    refine F.ok (k := n + 2) sc__width (fun vs H Q E h => ?_) (fun f cdv A outer s H vs Q E hr h => ?_)
    · obtain ⟨v, d, rfl, _⟩ := h
      rfl
    · obtain ⟨v, d, rfl, hd, hF, hD, hT, k⟩ := h
      obtain ⟨w', ps, rfl, hW, hP⟩ := mF_form hF
      obtain ⟨_, _, e0, hw, _, _, h3⟩ := mWF_form hW
      injection e0 with e0
      injection e0 with e1 e2
      injection e1 with e1
      subst e1 e2
      refine ⟨_, (pss_cons (ps_set (i := 1) sc__width.nd rfl (Or.inl rfl) (pe_callB (call_max2 rfl) (by rfl) B.max (by decide +kernel) (pa_cons pe_int (pa_cons (pe_callB (cr_sumK (K := K) (by rfl) rfl) (by rfl) B.sum (by decide +kernel) (pa_cons (pe_lc (own := [("part", 4)]) rfl sc__width.nd (pi_tupK (K := K) (by rfl) (pe_c G__parts (hr.mono (by first | decide | omega)) (pa_cons (pv 0) pa_nil))) (blkOk_by (N := ["expression", "width", "low", "high", "part"]) (sc := defScope s__width) (by decide +kernel)) (fun _ _ _ _ _ => (pg_name (i := 4) sc__width.nd rfl (Or.inl rfl))) (fun _ _ _ _ _ => pts_nil) (fun _ _ _ _ _ => (pe_c G__width (hr.mono (by first | decide | omega)) (pa_cons (pv 4) pa_nil)))) pa_nil)) pa_nil))))
    (pss_cons (ps_if (pt_cmpR op_ne (pe_ix (ix_tupK (K := K) (by rfl)) (pv 0) pe_int (fun _ _ => rfl)) pe_str (nomark _))
    (pss_one (ps_ret (pv 1)))
    pss_nil)
    (pss_cons (ps_par (i := 2) (j := 3) (by rfl) sc__width.nd rfl rfl (by decide) rfl rfl (pa_cons (pe_ix (ix_tupK (K := K) (by rfl)) (pv 0) pe_int (fun _ _ => rfl)) (pa_cons (pe_ix (ix_tupK (K := K) (by rfl)) (pv 0) pe_int (fun _ _ => rfl)) pa_nil)) (by rfl))
    (pss_one (ps_ret (pe_op op_mul (pv 1) (pe_ifExp (pt_cmpR op_isN (pv 3) pe_non (nomark _)) (pe_op op_add (pv 2) pe_int) (pe_callB (call_max2 rfl) (by rfl) B.max (by decide +kernel) (pa_cons pe_int (pa_cons (pv 3) pa_nil)))))))))), ?_⟩
      walk_at "go"
      refine use_parts (Same.refl _) hd (fun z => ?_) fun p xs H1 sm1 hp hx => ?_
      · obtain ⟨_, _, _, rfl, _⟩ := mThree_form (h3 z)
        simp
      rw [mParts_rel] at hx
      replace hx := DpAll.mono sm1 hx
      refine ⟨p, rfl, ⟨_, hp⟩, ?_⟩
      intro D hD'
      have lx : xs.length = (rel w' ps).length := DpAll.length hx
      have lr := @rel_len w' ps
      refine lc_tup (xs := xs) (fun i H' => H' D = some (.lst ((((rel w' ps).take i).map mW).map V.int)) ∧ Same H1 H') ⟨upd_same, Same.lay hD'⟩ (fun i H' _ h => Same.seqT h.2 hp) ?_ ?_
      · rintro i y H' hi ⟨eD, sm⟩
        obtain ⟨dp, hdp, hy⟩ := DpAll.get hx hi
        have hm := List.mem_of_getElem? hdp
        walk_at "go"
        refine ⟨rfl, ?_⟩
        walk_at "go"
        refine use_width (Dp.mono sm hy) (hP dp hm) (by have := mD_part hm; omega) (by have := mT_part hm; omega) fun H2 sm2 => ?_
        refine ⟨_, sm2 _ _ eD, by rw [List.length_map, List.length_map, List.length_take, PySem.sizeLine_eq]; omega, ?_, Same.lay2 (L2.Same.trans sm sm2) hD'⟩
        rw [upd_same, map_snoc mW hdp, List.map_append]; rfl
      · rintro H3 ⟨eD, sm⟩
        rw [lx, List.take_length] at eD
        walk_at "go"
        refine rd_sum (SqL.of eD) ?_
        walk_at "go"
        refine ⟨1, _, rfl, ?_⟩
        walk_at "go"
        have smA : Same H H3 := L2.Same.trans sm1 sm
        have hd3 := Dp.mono smA hd
        cases hd3 with
        | @tup a ys ds hs hy =>
          cases hy with
          | @cons v0 vs _ _ h0 hy =>
            cases h0
            refine rd_ixt hs (at_of (j := 0) rfl rfl) ?_
            walk_at "go"
            rw [dec_S]
            refine ite2 (fun h1 => ?_) (fun h1 => ?_)
            · have n1 : ¬ w' = kS "again" := by simpa using h1
              walk_at "go"
              have kk := k H3 smA
              rw [mW_eq, if_neg n1] at kk
              exact kk
            · have w1 : w' = kS "again" := by simpa using h1
              obtain ⟨pp, l, hi, rfl, l0, l4, hh⟩ := mThree_form (h3 w1)
              obtain ⟨v1, v2, v3, d1, d2, d3, rfl, e3, a1, a2, a3⟩ := dpAll3 hy (DpAll.length hy)
              injection e3 with e3 e4
              injection e4 with e4 e5
              injection e5 with e5 _
              subst e3 e4 e5
              cases a2
              walk_at "go"
              refine rd_ixt hs (at_of (j := 2) rfl rfl) ?_
              walk_at "go"
              refine rd_ixt hs (at_of (j := 3) rfl rfl) ?_
              walk_at "go"
              have kk := k H3 smA
              rw [mW_eq, if_pos w1] at kk
              rcases hh with rfl | ⟨m, rfl, m0, m4⟩
              · cases a3
                refine ⟨rfl, ?_⟩
                walk_at "go"
                refine iteT ?_
                walk_at "go"
                refine rd_i (.inr ⟨by omega, by omega⟩) ?_
                exact kk
              · cases a3
                refine ⟨rfl, ?_⟩
                walk_at "go"
                refine iteF ?_
                walk_at "go"
                refine ⟨1, m, rfl, ?_⟩
                refine rd_i (.inr (by split <;> omega)) ?_
                exact kk
end

end Cs
namespace Cs
open PySem L2
open PyProof.Rows (envOfC)
/-! the loop over a stack of parts -/
def mN : PyData → Nat := foldD (fun _ ps vs => max ps.length (vs.foldr max 0)) 0
theorem mN_eq (w : Str) (ps : List PyData) : mN (.tuple (.str w :: ps)) = max ps.length (((rel w ps).map mN).foldr max 0) := foldD_eq _ _ w ps
theorem rel_le {w : Str} {ps : List PyData} : (rel w ps).length ≤ ps.length := by
  unfold rel
  split
  · exact Nat.zero_le _
  · split
    · rw [List.length_take]; omega
    · exact Nat.le_refl _
theorem mN_part {w : Str} {ps : List PyData} {p : PyData} (h : p ∈ rel w ps) : mN p ≤ mN (.tuple (.str w :: ps)) := by
  rw [mN_eq]
  have := le_foldr_max (List.mem_map_of_mem (f := mN) h)
  omega
theorem mN_len {w : Str} {ps : List PyData} : (rel w ps).length ≤ mN (.tuple (.str w :: ps)) := by
  rw [mN_eq]
  have := @rel_le w ps
  omega
def sp_small (K : PySem.W.Frag) : Sp := fun vs H Q _ => ∃ (al : List Nat) (v : V) (d : PyData), vs = [.str (S al), v] ∧ al.length ≤ 1000 ∧ Dp K H v d ∧ mN d ≤ 100000 ∧ ∀ H', Same H H' → Q (.bl (loopS al 20 [(d, false)])) H'
theorem use_small {K : PySem.W.Frag} {al : List Nat} {v : V} {d : PyData} {H : Hp} {Q : VK} {E : XK} (hA : al.length ≤ 1000) (h : Dp K H v d) (hN : mN d ≤ 100000) (k : ∀ H', Same H H' → Q (.bl (loopS al 20 [(d, false)])) H') : sp_small K [.str (S al), v] H Q E := ⟨al, v, d, rfl, hA, h, hN, k⟩
/-- the stack as it lies: pairs of data and a bool -/
inductive Stk (K : PySem.W.Frag) (Hd H : Hp) : List V → List (PyData × Bool) → Prop
  | nil : Stk K Hd H [] []
  | cons {q : Addr} {x : V} {d : PyData} {b : Bool} {vs : List V} {us : List (PyData × Bool)} : H q = some (.tup [x, .bl b]) → Dp K Hd x d → Stk K Hd H vs us → Stk K Hd H (.ref q :: vs) ((d, b) :: us)
theorem Stk.mono {K : PySem.W.Frag} {Hd Hd' H H' : Hp} (s : Same Hd Hd') (k : TS H H') : ∀ {vs us}, Stk K Hd H vs us → Stk K Hd' H' vs us
  | _, _, .nil => .nil
  | _, _, .cons h d t => .cons (k _ _ h) (Dp.mono s d) (Stk.mono s k t)
theorem Stk.app {K : PySem.W.Frag} {Hd H : Hp} : ∀ {vs us vs' us'}, Stk K Hd H vs us → Stk K Hd H vs' us' → Stk K Hd H (vs ++ vs') (us ++ us')
  | _, _, _, _, .nil, t => t
  | _, _, _, _, .cons h d t, t' => .cons h d (Stk.app t t')
theorem Stk.length {K : PySem.W.Frag} {Hd H : Hp} : ∀ {vs us}, Stk K Hd H vs us → vs.length = us.length
  | _, _, .nil => rfl
  | _, _, .cons _ _ t => by rw [List.length_cons, List.length_cons, Stk.length t]
theorem Stk.last {K : PySem.W.Frag} {Hd H : Hp} {vs us} (h : Stk K Hd H vs us) : (vs = [] ∧ us = []) ∨ ∃ vs' us' q x d b, vs = vs' ++ [.ref q] ∧ us = us' ++ [(d, b)] ∧ H q = some (.tup [x, .bl b]) ∧ Dp K Hd x d ∧ Stk K Hd H vs' us' := by
  induction h with
  | nil => exact .inl ⟨rfl, rfl⟩
  | @cons q x d b vs us h1 h2 t ih =>
    rcases ih with ⟨rfl, rfl⟩ | ⟨vs', us', q', x', d', b', rfl, rfl, a1, a2, a3⟩
    · exact .inr ⟨[], [], q, x, d, b, rfl, rfl, h1, h2, .nil⟩
    · exact .inr ⟨.ref q :: vs', (d, b) :: us', q', x', d', b', rfl, rfl, a1, a2, .cons h1 h2 a3⟩
theorem TS.ofKp {L : Addr} {H H' : Hp} {ys : List V} (e : H L = some (.lst ys)) (k : Kp L H H') : TS H H' := fun b xs q => k.at (fun z => by rw [z, e] at q; cases q) q
section
variable {K : PySem.W.Frag} {σ : St} {H : Hp} {Q : VK} {b : Bool} {a : Addr} {w : Str} {xs : List V}
theorem in2 {s1 s2 : Str} : inV (.str w) [.str s1, .str s2] = (decide (w = s1) || decide (w = s2)) := by
  show ((s1 == w) || ((s2 == w) || false)) = _
  rw [Bool.or_false, beq_dec, beq_dec]
theorem rd_rowOr {i j : Nat} (h5 : σ[i]? = some (some (.bl b))) (h4 : σ[j]? = some (some (.ref a))) (hs : SqT K H a (.str w :: xs)) (k : ∀ H2, Same H H2 → Q (.bl (b || isRow w)) H2) :
    tOrV (tVar i) (tOp (rIn K false) (tOp (rIxT K) (tVar j) (tC (.int 0))) (tTup (tCons (tC (.str (kS "row"))) (tCons (tC (.str (kS "again"))) tNil)))) σ H Q := by
  refine ⟨_, h5, b, rfl, ?_⟩
  cases b with
  | true => exact iteT (k H (Same.refl _))
  | false =>
    refine iteF ?_
    refine rd_op (rd_op ⟨_, h4, ?_⟩)
    walk_at "go"
    refine rd_ixt hs (at_of (j := 0) rfl rfl) ?_
    walk_at "go"
    refine ⟨by show 2 ≤ sizeLine; decide, rd_new fun p H' hp eP sm => ?_⟩
    refine rd_in (.inr (SqT.of eP)) rfl rfl ?_
    rw [if_neg Bool.false_ne_true, in2]
    exact k H' sm
theorem rd_barAnd {i j : Nat} {R : Bool → Hp → Prop} (h5 : σ[i]? = some (some (.bl b))) (h4 : σ[j]? = some (some (.ref a))) (hs : SqT K H a (.str w :: xs)) (k : ∀ H2, Same H H2 → R (b && isBar w) H2) :
    tAnd (tTruth K (tVar i)) (tTest (tOp (rIn K false) (tOp (rIxT K) (tVar j) (tC (.int 0))) (tTup (tCons (tC (.str (kS "all"))) (tCons (tC (.str (kS "not"))) tNil))))) σ H R := by
  refine ⟨_, h5, b, rfl, ?_⟩
  cases b with
  | false => exact iteF (k H (Same.refl _))
  | true =>
    refine iteT ?_
    refine rd_test (rd_op (rd_op ⟨_, h4, ?_⟩))
    walk_at "go"
    refine rd_ixt hs (at_of (j := 0) rfl rfl) ?_
    walk_at "go"
    refine ⟨by show 2 ≤ sizeLine; decide, rd_new fun p H' hp eP sm => ?_⟩
    refine rd_in (.inr (SqT.of eP)) rfl rfl ?_
    rw [if_neg Bool.false_ne_true, in2]
    exact ⟨_, rfl, k H' sm⟩
end
theorem Same.ofKp {L : Addr} {H0 H : Hp} (n : H0 L = none) (k : Kp L H0 H) : Same H0 H := fun b o e => k.at (ne_of_none e n) e
section
variable {P : Program} {w : World} {K : PySem.W.Frag} {mg : Str → Option Value} {base : Heap}
theorem ok_small (B : Blt mg) (T : PatK mg) (G__is_well_formed : Cal P w K mg base 3 "_is_well_formed" ["alphabet", "value"] (sp_wf K)) (G__parts : Cal P w K mg base 1 "_parts" ["expression"] (sp_parts K))
    (F : At K mg "_is_small_expression" s__is_small_expression ["alphabet", "value"]) : Cal P w K mg base 4 "_is_small_expression" ["alphabet", "value"] (sp_small K) := by
  refine F.ok sc__is_small_expression (fun vs H Q E h => ?_) (fun f cdv A outer s H vs Q E hr h => ?_)
  · obtain ⟨al, v, d, rfl, _⟩ := h
    rfl
  · obtain ⟨al, v, d, rfl, hA, hd, hN, k⟩ := h
    obtain ⟨R, hR⟩ : ∃ R, R = loopS al 20 [(d, false)] := ⟨_, rfl⟩
    rw [← hR] at k
    refine ⟨_, (pss_cons (ps_set (i := 2) sc__is_small_expression.nd rfl (Or.inl rfl) (pe_lst (pa_cons (pe_tup (pa_cons (pv 1) (pa_cons pe_bl pa_nil))) pa_nil)))
    (pss_cons (ps_set (i := 3) sc__is_small_expression.nd rfl (Or.inl rfl) pe_int)
    (pss_cons (ps_while PassesOwn.never (pt_truthK (K := K) (by rfl) (pv 2))
    (pss_cons (ps_asg (pe_bm0K (K := K) (by rfl) PySem.F.plainAttrs_list PySem.F.slot_list_pop PySem.F.type_list_pop mt_pop (pv 2)) (pg_tupK (n := 2) (K := K) (by rfl) (by rfl) (pgs_cons (pg_name (i := 4) sc__is_small_expression.nd rfl (Or.inl rfl)) (pgs_cons (pg_name (i := 5) sc__is_small_expression.nd rfl (Or.inl rfl)) pgs_nil))))
    (pss_cons (ps_aug (i := 3) sc__is_small_expression.nd rfl (Or.inl rfl) pe_int ip_add)
    (pss_cons (ps_if (PW.pt (pw_or (pt_cmpR op_gt (pv 3) (pe_k T.c_MOST_TUPLES) (nomark _)) (pw_or1 (pt_not (pt_val (pe_c G__is_well_formed (hr.mono (by first | decide | omega)) (pa_cons (pv 0) (pa_cons (pv 4) pa_nil))))))))
    (pss_one (ps_ret pe_bl))
    pss_nil)
    (pss_cons (ps_if (PW.pt (pw_and (pt_truthK (K := K) (by rfl) (pv 5)) (pw_and1 (pt_cmpR (op_in_seqK (K := K) (by rfl)) (pe_ix (ix_tupK (K := K) (by rfl)) (pv 4) pe_int (fun _ _ => rfl)) (pe_tup (pa_cons pe_str (pa_cons pe_str pa_nil))) (by first | rfl | decide)))))
    (pss_one (ps_ret pe_bl))
    pss_nil)
    (pss_cons (ps_set (i := 6) sc__is_small_expression.nd rfl (Or.inr rfl) (pe_or (pv 5) (pe_one (pe_cmpR (op_in_seqK (K := K) (by rfl)) (pe_ix (ix_tupK (K := K) (by rfl)) (pv 4) pe_int (fun _ _ => rfl)) (pe_tup (pa_cons pe_str (pa_cons pe_str pa_nil))) (by first | rfl | decide)))))
    (pss_one (ps_expr (pe_bmK (K := K) (by rfl) PySem.F.plainAttrs_list PySem.F.slot_list_extend PySem.F.type_list_extend mt_extend (pv 2) (pa_cons (pe_lc (own := [("inner", 7)]) rfl sc__is_small_expression.nd (pi_tupK (K := K) (by rfl) (pe_c G__parts (hr.mono (by first | decide | omega)) (pa_cons (pv 4) pa_nil))) (blkOk_by (N := ["alphabet", "value", "waiting", "tuples", "part", "must_be_plain", "plain_below", "inner"]) (sc := defScope s__is_small_expression) (by decide +kernel)) (fun _ _ _ _ _ => (pg_name (i := 7) sc__is_small_expression.nd rfl (Or.inl rfl))) (fun _ _ _ _ _ => pts_nil) (fun _ _ _ _ _ => (pe_tup (pa_cons (pv 7) (pa_cons (pv 6) pa_nil))))) pa_nil))))))))))
    (pss_one (ps_ret pe_bl))))), ?_⟩
    walk_at "go"
    refine ⟨by show 2 ≤ sizeLine; decide, rd_new fun q0 H1 n0 e0 sm1 => ?_⟩
    walk_at "go"
    refine ⟨by show 1 ≤ sizeLine; decide, fun L hL => ?_⟩
    walk_at "go"
    have hL0 : H L = none := L2.Same.free sm1 hL
    have ql : q0 ≠ L := fun z => by rw [z] at e0; rw [e0] at hL; cases hL
    refine rd_while (m0 := 20) (fun r σ H' => ∃ (vs : List V) (us : List (PyData × Bool)) (t : Int) (x4 x5 x6 x7 : Option V), σ = [some (.str (S al)), some v, some (.ref L), some (.int t), x4, x5, x6, x7] ∧ t + r = 20 ∧ r ≤ 20 ∧ H' L = some (.lst vs) ∧ Stk K (hid L H') H' vs us ∧
        (∀ x ∈ us, mN x.1 ≤ 100000) ∧ us.length ≤ 1 + 100000 * (20 - r) ∧ Kp L H H' ∧ loopS al r us.reverse = R) ?_ ?_ ?_
    · refine ⟨_, [(d, false)], 0, none, none, none, none, rfl, rfl, by decide, upd_same, .cons (by rw [upd_ne ql]; exact e0) (Dp.mono (fun b o e => ?_) hd) .nil, ?_, by simp, (Kp.of sm1).trans ((Kp.refl).lay hL), hR.symm⟩
      · have nb : b ≠ L := ne_of_none e hL0
        rw [hid_ne nb, upd_ne nb]; exact sm1 _ _ e
      · intro x hx
        rw [List.mem_singleton.mp hx]; exact hN
    · rintro r σ H2 ⟨vs, us, t, x4, x5, x6, x7, rfl, ht, r20, eL, hS, hNs, hlen, kp, hres⟩
      walk_at "go"
      refine ⟨!vs.isEmpty, .inl ⟨vs, SqL.of eL, rfl⟩, ?_⟩
      rcases hS.last with ⟨rfl, rfl⟩ | ⟨vs', us', q, x, dd, b, rfl, rfl, eq, hx, hS'⟩
      · refine iteF ?_
        walk_at "go"
        have e : R = true := by rw [← hres]; simp [loopS]
        rw [e] at k
        exact k _ (Same.ofKp hL0 kp)
      · have e : (!(vs' ++ [V.ref q]).isEmpty) = true := by simp
        rw [e]
        refine iteT ?_
        walk_at "go"
        refine ⟨.inl ⟨rfl, _, SqL.of eL⟩, L, _, V.ref q, rfl, rfl, eL, by simp, ?_⟩
        rw [List.dropLast_concat]
        have nq : q ≠ L := fun z => by rw [z, eL] at eq; cases eq
        have k3 : Kp L H2 (upd H2 L (.lst vs')) := Kp.set
        have eL3 : upd H2 L (.lst vs') L = some (.lst vs') := upd_same
        generalize upd H2 L (.lst vs') = H3 at k3 eL3
        have hS3 := hS'.mono k3 (TS.ofKp eL k3)
        have eq3 := k3.at nq eq
        have hx3 : Dp K (hid L H3) x dd := Dp.mono k3 hx
        have hrev : (us' ++ [(dd, b)]).reverse = (dd, b) :: us'.reverse := by simp
        rw [hrev] at hres
        walk_at "go"
        refine rd_gtup (SqT.of eq3) rfl ?_
        walk_at "go"
        refine ite2 (fun h1 => ?_) (fun h1 => ?_)
        · -- more tuples than allowed
          have h1 := of_decide_eq_true h1
          have r0 : r = 0 := by omega
          subst r0
          refine iteT ?_
          walk_at "go"
          have e : R = false := by rw [← hres]; rfl
          rw [e] at k
          exact k _ (Same.ofKp hL0 (kp.trans k3))
        · have h1 : ¬ 20 < t + 1 := fun z => h1 (decide_eq_true z)
          obtain ⟨r', rfl⟩ : ∃ r', r = r' + 1 := ⟨r - 1, by omega⟩
          walk_at "go"
          refine use_wf hA (Dp.mono hid_le hx3) fun H4 sm4 => ?_
          have hSm4 : Same H H4 := L2.Same.trans (Same.ofKp hL0 (kp.trans k3)) sm4
          walk_at "go"
          unfold loopS at hres
          by_cases hw : mWF al dd = true
          · rw [hw]
            refine iteF ?_
            rw [if_neg (by rw [hw]; simp)] at hres
            obtain ⟨w', ps, rfl, -, -, -, h3⟩ := mWF_form hw
            have hx4 : Dp K (hid L H4) x (.tuple (.str w' :: ps)) := Dp.mono (Kp.of sm4) hx3
            have hx4c := hx4
            cases hx4c with
            | @tup a ys _ hs hy =>
              cases hy with
              | @cons v0 ys' _ _ hv0 hy =>
                cases hv0
                have hs4 := Same.seqT (hid_le (a := L)) hs
                with_reducible refine rd_next ?_
                with_reducible refine rd_seq ?_
                with_reducible refine rd_ifs ?_
                refine rd_barAnd (i := 5) (j := 4) (by rfl) (by rfl) hs4 fun H5 sm5 => ?_
                refine ite2 (fun h2 => ?_) (fun h2 => ?_)
                · walk_at "go"
                  have e : R = false := by
                    rw [← hres, if_pos (show (b && isBar (mHead (.tuple (.str w' :: ps)))) = true from h2)]
                  rw [e] at k
                  exact k _ (L2.Same.trans hSm4 sm5)
                · rw [if_neg (show ¬ (b && isBar (mHead (.tuple (.str w' :: ps)))) = true from h2)] at hres
                  with_reducible refine rd_next ?_
                  with_reducible refine rd_seq ?_
                  with_reducible refine rd_asg ?_
                  refine rd_rowOr (i := 5) (j := 4) (by rfl) (by rfl) (Same.seqT sm5 hs4) fun H6 sm6 => ?_
                  walk_at "go"
                  have sm46 := L2.Same.trans sm5 sm6
                  have eL6 : H6 L = some (.lst vs') := sm46 _ _ (sm4 _ _ eL3)
                  refine ⟨.inl ⟨rfl, _, SqL.of eL6⟩, ?_⟩
                  walk_at "go"
                  refine use_parts (Hd := hid L H4) (L2.Same.trans hid_le sm46) hx4 (fun z => ?_) fun p xs H7 sm7 hp hxs => ?_
                  · obtain ⟨_, _, _, rfl, _⟩ := mThree_form (h3 z)
                    simp
                  rw [mParts_rel] at hxs hres
                  refine ⟨p, rfl, ⟨_, hp⟩, ?_⟩
                  intro D hD
                  have eL7 := sm7 _ _ eL6
                  have DL : D ≠ L := fun z => by rw [z, eL7] at hD; cases hD
                  have lx : xs.length = (rel w' ps).length := DpAll.length hxs
                  have hNd : mN (.tuple (.str w' :: ps)) ≤ 100000 := hNs (.tuple (.str w' :: ps), b) (by simp)
                  have lr := @mN_len w' ps
                  have s37 : Same H3 H7 := L2.Same.trans (L2.Same.trans sm4 sm46) sm7
                  refine lc_tup (xs := xs) (fun i H' => ∃ zs : List V, H' D = some (.lst zs) ∧ Stk K (hid L H7) H' zs (((rel w' ps).take i).map fun p => (p, b || isRow w')) ∧ Same H7 H') ?_ (fun i H' _ h => Same.seqT h.choose_spec.2.2 hp) ?_ ?_
                  · exact ⟨[], upd_same, .nil, Same.lay hD⟩
                  · rintro i y H' hi ⟨zs, eD, hz, sm⟩
                    obtain ⟨dp, hdp, hy⟩ := DpAll.get hxs hi
                    have lz : zs.length ≤ 100000 := by
                      have := hz.length
                      rw [List.length_map, List.length_take] at this
                      omega
                    walk_at "go"
                    refine ⟨rfl, ?_⟩
                    walk_at "go"
                    refine ⟨by show 2 ≤ sizeLine; decide, rd_new fun q' H8 hq' eQ sm8 => ?_⟩
                    have eD8 := sm8 _ _ eD
                    have eL8 : H8 L = some (.lst vs') := sm8 _ _ (sm _ _ eL7)
                    have nqD : q' ≠ D := fun z => by rw [z, eD8] at eQ; cases eQ
                    have sm78 : Same H7 (upd H8 D (.lst (zs ++ [.ref q']))) := Same.lay2 (L2.Same.trans sm sm8) hD
                    refine ⟨zs, eD8, by rw [PySem.sizeLine_eq]; omega, zs ++ [.ref q'], upd_same, ?_, sm78⟩
                    rw [map_snoc (fun p => (p, b || isRow w')) hdp]
                    have tD : TS H8 (upd H8 D (.lst (zs ++ [.ref q']))) := TS.set eD8
                    refine (hz.mono (Same.refl _) (TS.trans (TS.same sm8) tD)).app (.cons (tD _ _ eQ) (Dp.mono (Kp.of (L2.Same.trans sm46 sm7)) hy) .nil)
                  · rintro H9 ⟨zs, eD, hz, sm⟩
                    rw [lx, List.take_length] at hz
                    walk_at "go"
                    have eL9 := sm _ _ eL7
                    have lz := hz.length
                    rw [List.length_map] at lz
                    have lv := hS'.length
                    have lu : us'.length + 1 ≤ 1 + 100000 * (20 - (r' + 1)) := by
                      have := hlen
                      rw [List.length_append] at this
                      exact this
                    have hb : 100000 * (20 - (r' + 1)) + 100000 ≤ 100000 * (20 - r') := by omega
                    have hb3 : 100000 * (20 - (r' + 1)) ≤ 2000000 := by omega
                    have hb2 : vs'.length + zs.length ≤ 16777216 := by omega
                    refine ⟨L, D, vs', zs, rfl, rfl, eL9, eD, by rw [PySem.sizeLine_eq]; exact hb2, ?_⟩
                    have k10 : Kp L H9 (upd H9 L (.lst (vs' ++ zs))) := Kp.set
                    have t10 := TS.ofKp eL9 k10
                    have s39 : Kp L H3 (upd H9 L (.lst (vs' ++ zs))) := (Kp.of (L2.Same.trans s37 sm)).trans k10
                    refine ⟨r', Nat.lt_succ_self _, vs' ++ zs, us' ++ (rel w' ps).map (fun p => (p, b || isRow w')), t + 1, _, _, _, _, rfl, by omega, by omega, upd_same, ?_, ?_, ?_, (kp.trans k3).trans s39, ?_⟩
                    · exact (hS3.mono s39 (TS.ofKp eL3 s39)).app (hz.mono ((Kp.of sm).trans k10) t10)
                    · intro z hz'
                      rcases List.mem_append.mp hz' with hz' | hz'
                      · exact hNs z (List.mem_append_left _ hz')
                      · obtain ⟨p', hp', rfl⟩ := List.mem_map.mp hz'
                        exact Nat.le_trans (mN_part hp') hNd
                    · rw [List.length_append, List.length_map]; omega
                    · rw [List.reverse_append]; exact hres
          · have hw' : mWF al dd = false := by simpa using hw
            rw [hw']
            refine iteT ?_
            walk_at "go"
            have e : R = false := by rw [← hres, if_pos hw']
            rw [e] at k
            exact k _ hSm4
    · intro σ H Q Q' hq h
      obtain ⟨v, e, b, t, q⟩ := h
      exact ⟨v, e, b, t, hq _ _ q⟩
end

end Cs
namespace Cs
open PySem L2
open PyProof.Rows (envOfC)
def dAgain (part : PyData) (lo : Int) (hi : PyData) : PyData := .tuple [.str (kS "again"), part, .int lo, hi]

end Cs
namespace Cs
open PySem L2
open PyProof.Rows (envOfC)
/-! the cases of k02: what is_pattern answers of each -/
def CaseOk (al : List Nat) (d : PyData) (wide tuples : Int) (bar : Bool) : Prop := mPat al d = (decide (wide ≤ 10) && (decide (tuples ≤ 20) && !bar)) ∧ mN d ≤ 100000
theorem caseOk {al : List Nat} {d : PyData} {wide tuples : Int} {bar : Bool} (hF : mF al d = true) (hT : (mT d : Int) = tuples) (hW : mW d = wide) (hR : mR d = !bar) (hN : mN d ≤ 100000) : CaseOk al d wide tuples bar := by
  refine ⟨?_, hN⟩
  rw [Bool.eq_iff_iff, mPat_iff, Bool.and_eq_true, Bool.and_eq_true, decide_eq_true_eq, decide_eq_true_eq, ← hR, ← hW, ← hT]
  constructor
  · rintro ⟨_, b, c, e⟩; exact ⟨e, by omega, b⟩
  · rintro ⟨e, c, b⟩; exact ⟨hF, b, by omega, e⟩
/-- what is known of an expression: it fits, its tuples, its width, right, plain, its greatest number of parts -/
structure Ex (al : List Nat) (d : PyData) (t : Nat) (w : Int) (r p : Bool) : Prop where
  F : mF al d = true
  T : mT d = t
  W : mW d = w
  R : mR d = r
  P : mP d = p
  N : mN d ≤ 100
theorem sub_filter : ∀ {al cs : List Nat}, cs.Sublist al → al.Nodup → al.filter (fun c => decide (c ∈ cs)) = cs
  | [], _, h, _ => by rw [List.sublist_nil.mp h]; rfl
  | a :: al, cs, h, nd => by
    have nd' := List.nodup_cons.mp nd
    cases h with
    | cons _ h =>
      have na : a ∉ cs := fun z => nd'.1 (h.subset z)
      rw [List.filter_cons, if_neg (by simpa using na)]
      exact sub_filter h nd'.2
    | @cons_cons cs' _ _ h =>
      rw [List.filter_cons, if_pos (by simp)]
      congr 1
      refine Eq.trans (List.filter_congr fun x hx => ?_) (sub_filter h nd'.2)
      have : x ≠ a := fun z => nd'.1 (z ▸ hx)
      simp [this]
theorem ex_set {al cs : List Nat} (hA : Alp al) (h : cs.Sublist al) : Ex al (dSet cs) 1 1 true true := by
  have e0 : rel (kS "set") [PyData.str (S cs)] = [] := by unfold rel; rw [if_pos rfl]
  have sel : mSel al (.str (S cs)) = true := by
    show decide (S cs = S (al.filter fun c => decide (c ∈ cs))) = true
    rw [sub_filter h hA.nd]; simp
  unfold dSet
  refine ⟨?_, ?_, ?_, ?_, ?_, ?_⟩
  · rw [mF_eq, mWF_eq, if_pos rfl, e0]
    show (mSel al (.str (S cs)) && true) = true
    rw [sel]; rfl
  · rw [mT_eq, e0]; rfl
  · rw [mW_eq, if_neg (by decide +kernel), e0]; rfl
  · rw [mR_eq, e0]; simp
  · rw [mP_eq, e0]; decide +kernel
  · rw [mN_eq, e0]; show max 1 0 ≤ 100; decide
/-- all of a list alike -/
structure Exs (al : List Nat) (ds : List PyData) (t : Nat) (w : Int) (r p : Bool) : Prop where
  F : (ds.map (mF al)).all id = true
  T : (ds.map mT).sum = t
  W : (ds.map mW).sum = w
  R : ds.all mR = r
  P : ds.all mP = p
  N : (ds.map mN).foldr max 0 ≤ 100
theorem exs_nil {al : List Nat} : Exs al [] 0 0 true true := ⟨rfl, rfl, rfl, rfl, rfl, Nat.zero_le _⟩
theorem exs_cons {al : List Nat} {d : PyData} {ds : List PyData} {t t' : Nat} {w w' : Int} {r r' p p' : Bool} (h : Ex al d t w r p) (hs : Exs al ds t' w' r' p') : Exs al (d :: ds) (t + t') (w + w') (r && r') (p && p') := by
  refine ⟨?_, ?_, ?_, ?_, ?_, ?_⟩
  · rw [List.map_cons, List.all_cons, hs.F]; simp [h.F]
  · rw [List.map_cons, List.sum_cons, hs.T, h.T]
  · rw [List.map_cons, List.sum_cons, hs.W, h.W]
  · rw [List.all_cons, hs.R, h.R]
  · rw [List.all_cons, hs.P, h.P]
  · rw [List.map_cons, List.foldr_cons]
    exact Nat.max_le.mpr ⟨h.N, hs.N⟩
theorem exs_app {al : List Nat} {ds es : List PyData} {t t' : Nat} {w w' : Int} {r r' p p' : Bool} (h : Exs al ds t w r p) (hs : Exs al es t' w' r' p') : Exs al (ds ++ es) (t + t') (w + w') (r && r') (p && p') := by
  refine ⟨?_, ?_, ?_, ?_, ?_, ?_⟩
  · rw [List.map_append, List.all_append, h.F, hs.F]; rfl
  · rw [List.map_append, List.sum_append, h.T, hs.T]
  · rw [List.map_append, List.sum_append, h.W, hs.W]
  · rw [List.all_append, h.R, hs.R]
  · rw [List.all_append, h.P, hs.P]
  · refine foldr_max_le fun x hx => ?_
    rw [List.map_append] at hx
    rcases List.mem_append.mp hx with hx | hx
    · exact Nat.le_trans (le_foldr_max hx) h.N
    · exact Nat.le_trans (le_foldr_max hx) hs.N
theorem exs_rep {al : List Nat} {d : PyData} {t : Nat} {w : Int} (h : Ex al d t w true true) : ∀ n : Nat, Exs al (List.replicate n d) (n * t) (n * w) true true
  | 0 => by simpa using exs_nil
  | n + 1 => by
    have e := exs_cons h (exs_rep h n)
    rw [List.replicate_succ]
    have e1 : t + n * t = (n + 1) * t := by rw [Nat.add_mul, Nat.one_mul, Nat.add_comm]
    have e2 : w + (n : Int) * w = ((n + 1 : Nat) : Int) * w := by rw [Int.natCast_add, Int.add_mul]; simp [Int.add_comm]
    rw [e1, e2] at e
    exact e
theorem exs_sets {al : List Nat} (hA : Alp al) : ∀ {css : List (List Nat)}, (∀ cs ∈ css, cs.Sublist al) → Exs al (css.map dSet) css.length css.length true true
  | [], _ => exs_nil
  | cs :: css, h => by
    have e := exs_cons (ex_set hA (h cs (by simp))) (exs_sets hA (css := css) fun c hc => h c (by simp [hc]))
    rw [List.map_cons, List.length_cons]
    have e1 : 1 + css.length = css.length + 1 := Nat.add_comm ..
    have e2 : (1 : Int) + (css.length : Int) = ((css.length + 1 : Nat) : Int) := by omega
    rw [e1, e2] at e
    exact e
/-- a row, an any, an all -/
theorem ex_many {al : List Nat} {w : Str} {ds : List PyData} {t : Nat} {v : Int} {r p : Bool} (hw : w = kS "row" ∨ w = kS "any" ∨ w = kS "all") (h : Exs al ds t v r p) (hl : ds.length ≤ 100) :
    Ex al (.tuple (.str w :: ds)) (1 + t) (m1 v) (if isRow w then p else r) (!isBar w && p) := by
  have n1 : w ≠ kS "set" := by rcases hw with rfl | rfl | rfl <;> decide +kernel
  have n2 : w ≠ kS "again" := by rcases hw with rfl | rfl | rfl <;> decide +kernel
  have n3 : w ≠ kS "not" := by rcases hw with rfl | rfl | rfl <;> decide +kernel
  have e0 : rel w ds = ds := by unfold rel; rw [if_neg n1, if_neg n2]
  refine ⟨?_, ?_, ?_, ?_, ?_, ?_⟩
  · rw [mF_eq, mWF_eq, if_neg n1, if_neg n3, if_neg n2, e0, h.F]
    rcases hw with rfl | rfl | rfl <;> decide +kernel
  · rw [mT_eq, e0, h.T]
  · rw [mW_eq, if_neg n2, e0, h.W]
  · rw [mR_eq, e0, h.R, h.P]
  · rw [mP_eq, e0, List.all_map]
    show (!isBar w && ds.all mP) = _
    rw [h.P]
  · rw [mN_eq, e0]
    exact Nat.max_le.mpr ⟨hl, h.N⟩
def AgOk (lo : Int) (hi : PyData) (f : Int) : Prop := 0 ≤ lo ∧ lo ≤ 4 ∧ ((hi = .none ∧ f = lo + 1) ∨ ∃ h, hi = .int h ∧ lo ≤ h ∧ h ≤ 4 ∧ f = m1 h)
theorem AgOk.fac {lo f : Int} {hi part : PyData} (h : AgOk lo hi f) : mFac [part, .int lo, hi] = f := by
  obtain ⟨_, _, ⟨rfl, rfl⟩ | ⟨m, rfl, _, _, rfl⟩⟩ := h <;> rfl
theorem AgOk.pos {lo f : Int} {hi : PyData} (h : AgOk lo hi f) : 1 ≤ f := by
  obtain ⟨h0, _, ⟨rfl, rfl⟩ | ⟨m, rfl, _, _, rfl⟩⟩ := h
  · omega
  · unfold m1; split <;> omega
theorem AgOk.three {lo f : Int} {hi part : PyData} (h : AgOk lo hi f) : mThree [part, .int lo, hi] = true := by
  obtain ⟨h0, h4, h⟩ := h
  show mRange (.int lo) hi = true
  show (mWithin 0 4 (.int lo) && mHigh lo hi) = true
  have e : mWithin 0 4 (.int lo) = true := by show (decide _ && decide _) = true; simp [h0, h4]
  rw [e]
  rcases h with ⟨rfl, _⟩ | ⟨m, rfl, a, b, _⟩
  · rfl
  · show mWithin lo 4 (.int m) = true
    show (decide _ && decide _) = true
    simp [a, b]
theorem ex_again {al : List Nat} {part hi : PyData} {lo f : Int} {t : Nat} {v : Int} {r p : Bool} (h : Ex al part t v r p) (hg : AgOk lo hi f) : Ex al (dAgain part lo hi) (1 + t) (m1 v * f) p p := by
  have n1 : kS "again" ≠ kS "set" := by decide +kernel
  have n3 : kS "again" ≠ kS "not" := by decide +kernel
  have e0 : rel (kS "again") [part, .int lo, hi] = [part] := by unfold rel; rw [if_neg n1, if_pos rfl]; rfl
  unfold dAgain
  refine ⟨?_, ?_, ?_, ?_, ?_, ?_⟩
  · rw [mF_eq, mWF_eq, if_neg n1, if_neg n3, if_pos rfl, e0, hg.three]
    simp [h.F]
  · rw [mT_eq, e0]; simp [h.T]
  · rw [mW_eq, if_pos rfl, e0, hg.fac]; simp [h.W]
  · rw [mR_eq, e0, if_pos (by decide +kernel)]; simp [h.P]
  · rw [mP_eq, e0]
    have : isBar (kS "again") = false := by decide +kernel
    simp [this, h.P]
  · rw [mN_eq, e0]
    have := h.N
    simp; omega
theorem ex_not {al : List Nat} {part : PyData} {t : Nat} {v : Int} {r p : Bool} (h : Ex al part t v r p) : Ex al (.tuple [.str (kS "not"), part]) (1 + t) (m1 v) r false := by
  have n1 : kS "not" ≠ kS "set" := by decide +kernel
  have n3 : kS "not" ≠ kS "again" := by decide +kernel
  have e0 : rel (kS "not") [part] = [part] := by unfold rel; rw [if_neg n1, if_neg n3]
  refine ⟨?_, ?_, ?_, ?_, ?_, ?_⟩
  · rw [mF_eq, mWF_eq, if_neg n1, if_pos rfl, e0]
    simp [h.F]
  · rw [mT_eq, e0]; simp [h.T]
  · rw [mW_eq, if_neg n3, e0]; simp [h.W]
  · rw [mR_eq, e0, if_neg (by decide +kernel)]; simp [h.R]
  · rw [mP_eq, e0]
    have : isBar (kS "not") = true := by decide +kernel
    simp [this]
  · rw [mN_eq, e0]
    have := h.N
    simp; omega
theorem Ex.to {al : List Nat} {d : PyData} {t t' : Nat} {w w' : Int} {r r' p p' : Bool} (h : Ex al d t w r p) (e1 : t = t') (e2 : w = w') (e3 : r = r') (e4 : p = p') : Ex al d t' w' r' p' := by
  subst e1 e2 e3 e4; exact h
theorem Ex.case {al : List Nat} {d : PyData} {t : Nat} {w : Int} {r p : Bool} {tuples : Int} {bar : Bool} (h : Ex al d t w r p) (e1 : (t : Int) = tuples) (e3 : r = !bar) : CaseOk al d w tuples bar :=
  caseOk h.F (by rw [h.T]; exact e1) h.W (by rw [h.R]; exact e3) (Nat.le_trans h.N (by decide))
theorem m1_pos {v : Int} (h : 1 ≤ v) : m1 v = v := by unfold m1; split <;> omega

end Cs
namespace Cs
open PySem L2
open PyProof.Rows (envOfC)
/-! notations: how an expression is written, and what a reader makes of a text -/
def numC (i : Int) : List Nat := [48 + i.toNat]
def hiC : PyData → List Nat
  | .int h => numC h
  | _ => [42]
def setC : List PyData → List Nat
  | [.str x] => x.cps.toList
  | _ => []
def agC : List PyData → List Nat
  | [_, .int l, h] => 32 :: (numC l ++ (32 :: (hiC h ++ [41])))
  | _ => [41]
def partsC (vs : List (List Nat)) : List Nat := (vs.map fun v => 32 :: v).flatten
def fmtF (w : Str) (ps : List PyData) (vs : List (List Nat)) : List Nat :=
  if w = kS "set" then 91 :: (setC ps ++ [93])
  else if w = kS "again" then [40, 97, 103, 97, 105, 110, 32] ++ (vs.flatten ++ agC ps)
  else 40 :: (w.cps.toList ++ (partsC vs ++ [41]))
def fmt : PyData → List Nat := foldD fmtF []
theorem fmt_eq (w : Str) (ps : List PyData) : fmt (.tuple (.str w :: ps)) = fmtF w ps ((rel w ps).map fmt) := foldD_eq _ _ w ps
/-! the reader -/
def BG : List (List Nat) := [[91], [40, 114, 111, 119, 41], [40, 114, 111, 119, 32], [40, 97, 110, 121, 41], [40, 97, 110, 121, 32], [40, 97, 108, 108, 41], [40, 97, 108, 108, 32], [40, 110, 111, 116, 32], [40, 97, 103, 97, 105, 110, 32]]
def stn (cs : List (List Nat)) (R : List Nat) : Option (List Nat) := cs.find? fun c => decide (R.take c.length = c)
def lcp : List Nat → List Nat → Nat
  | a :: as, b :: bs => if a = b then lcp as bs + 1 else 0
  | _, _ => 0
def far (cs : List (List Nat)) (R : List Nat) : Nat := (cs.map (lcp R)).foldr max 0
def lowsL : List (List Nat) := [[32, 48, 32], [32, 49, 32], [32, 50, 32], [32, 51, 32], [32, 52, 32]]
def highsL (l : Nat) : List (List Nat) := [42, 41] :: ((List.range (5 - l)).map fun i => [48 + (l + i), 41])
def marksL (w : Str) : List (List Nat) := if w = kS "not" then [[41]] else [[41], [32]]
def setLen : List Nat → List Nat → Nat
  | al, c :: R => if c ∈ al then setLen (al.drop (al.idxOf c + 1)) R + 1 else 0
  | _, [] => 0
def rdSet (al T : List Nat) (a : Nat) : Except Nat (PyData × Nat) :=
  let n := setLen al (T.drop a)
  match stn [[93]] (T.drop (a + n)) with
  | none => .error (a + n + far [[93]] (T.drop (a + n)))
  | some c => .ok (dSet ((T.drop a).take n), a + n + c.length)
def hiD (c : List Nat) : PyData := if c = [42, 41] then .none else .int ((c.headD 0 : Nat) - 48 : Int)
def rdNums (T : List Nat) (a : Nat) : Except Nat (Nat × PyData × Nat) :=
  match stn lowsL (T.drop a) with
  | none => .error (a + far lowsL (T.drop a))
  | some c =>
    match stn (highsL (lowsL.idxOf c)) (T.drop (a + 3)) with
    | none => .error (a + 3 + far (highsL (lowsL.idxOf c)) (T.drop (a + 3)))
    | some h => .ok (lowsL.idxOf c, hiD h, a + 3 + 2)
abbrev Fr := Str × List PyData
def putN (T : List Nat) (f : Fr) (d : PyData) (a : Nat) : Except Nat (Option PyData × Nat) :=
  if f.1 = kS "again" then
    match rdNums T a with
    | .error n => .error n
    | .ok (l, h, b) => .ok (some (.tuple (.str f.1 :: (f.2 ++ [d, .int (l : Nat), h]))), b)
  else match stn (marksL f.1) (T.drop a) with
    | none => .error (a + far (marksL f.1) (T.drop a))
    | some m => if m = [32] then .ok (none, a + 1) else .ok (some (.tuple (.str f.1 :: (f.2 ++ [d]))), a + 1)
abbrev Rz := Option (Except Nat (PyData × Nat))
def clsF (go : List Fr → Nat → Rz) (T : List Nat) : List Fr → PyData → Nat → Rz
  | [], d, a => some (.ok (d, a))
  | f :: fs, d, a => match putN T f d a with
    | .error n => some (.error n)
    | .ok (some e, b) => clsF go T fs e b
    | .ok (none, b) => go ((f.1, f.2 ++ [d]) :: fs) b
def wrd (b : List Nat) : Str := S b.tail.dropLast
def prs (al T : List Nat) : Nat → List Fr → Nat → Rz
  | 0, _, _ => none
  | k + 1, fs, a => match stn BG (T.drop a) with
    | none => some (.error (a + far BG (T.drop a)))
    | some b =>
      if b = [91] then match rdSet al T (a + 1) with
        | .error n => some (.error n)
        | .ok (d, e) => clsF (prs al T k) T fs d e
      else if b.getLast? = some 41 then clsF (prs al T k) T fs (.tuple [.str (wrd b)]) (a + b.length)
      else prs al T k ((wrd b, []) :: fs) (a + b.length)
/-! a notation is read back -/
theorem setLen_sub : ∀ {cs al : List Nat} (R : List Nat), cs.Sublist al → 93 ∉ al → setLen al (cs ++ 93 :: R) = cs.length
  | [], al, R, _, n => by
    show setLen al (93 :: R) = 0
    unfold setLen
    rw [if_neg n]
  | c :: cs, al, R, h, n => by
    have hc : c ∈ al := h.subset (by simp)
    show setLen al (c :: (cs ++ 93 :: R)) = _
    unfold setLen
    rw [if_pos hc, List.length_cons]
    congr 1
    refine setLen_sub R ?_ (fun z => n (List.mem_of_mem_drop z))
    clear hc n
    induction al with
    | nil => cases h
    | cons a al ih =>
      by_cases e : a = c
      · subst e
        rw [List.idxOf_cons_self]
        show cs.Sublist al
        cases h with
        | cons _ h => exact (List.sublist_cons_self _ _).trans h
        | cons_cons _ h => exact h
      · have e2 : (a :: al).idxOf c = al.idxOf c + 1 := by
          have : (a == c) = false := by simpa using e
          rw [List.idxOf_cons, this]; rfl
        rw [e2]
        show cs.Sublist (al.drop (al.idxOf c + 1))
        cases h with
        | cons _ h => exact ih h
        | cons_cons _ h => exact absurd rfl e
theorem drop_at {T X Y : List Nat} {a n : Nat} (h : T.drop a = X ++ Y) (e : X.length = n) : T.drop (a + n) = Y := by
  subst e
  rw [← List.drop_drop, h, List.drop_left]
theorem low_stn {l : Nat} (h : l ≤ 4) (R : List Nat) : stn lowsL (32 :: (48 + l) :: 32 :: R) = some [32, 48 + l, 32] ∧ lowsL.idxOf [32, 48 + l, 32] = l := by
  rcases (by omega : l = 0 ∨ l = 1 ∨ l = 2 ∨ l = 3 ∨ l = 4) with rfl | rfl | rfl | rfl | rfl
  all_goals exact ⟨by simp [stn, lowsL, List.find?], by decide⟩
theorem high_stn {l : Nat} {hi : PyData} (h : l ≤ 4) (hh : hi = .none ∨ ∃ m : Int, hi = .int m ∧ (l : Int) ≤ m ∧ m ≤ 4) (R : List Nat) : ∃ c, stn (highsL l) (hiC hi ++ 41 :: R) = some c ∧ hiD c = hi ∧ c.length = 2 ∧ (hiC hi).length = 1 := by
  rcases hh with rfl | ⟨m, rfl, h1, h2⟩
  · exact ⟨[42, 41], by simp [stn, highsL, hiC, List.find?], by simp [hiD], rfl, rfl⟩
  · obtain ⟨j, rfl⟩ : ∃ j : Nat, m = (j : Int) := ⟨m.toNat, by omega⟩
    refine ⟨[48 + j, 41], ?_, ?_, rfl, rfl⟩
    · have e : (hiC (.int (j : Int)) ++ 41 :: R) = (48 + j) :: 41 :: R := by simp [hiC, numC]
      rw [e]
      rcases (by omega : l = 0 ∨ l = 1 ∨ l = 2 ∨ l = 3 ∨ l = 4) with rfl | rfl | rfl | rfl | rfl <;> rcases (by omega : j = 0 ∨ j = 1 ∨ j = 2 ∨ j = 3 ∨ j = 4) with rfl | rfl | rfl | rfl | rfl
      all_goals first | omega | simp [stn, highsL, List.find?, List.range, List.range.loop]
    · unfold hiD
      rw [if_neg (by simp; omega)]
      congr 1
      show (((48 + j : Nat) : Int) - 48) = _
      omega
theorem mOne_form {al : List Nat} {ps : List PyData} (h : mOne al ps = true) : ∃ cs : List Nat, ps = [.str (S cs)] ∧ cs.Sublist al := by
  unfold mOne at h
  split at h
  · unfold mSel at h
    split at h
    · rename_i x
      have e := of_decide_eq_true h
      refine ⟨al.filter fun c => decide (c ∈ x.cps.toList), by rw [← e], List.filter_sublist⟩
    · cases h
  · cases h

end Cs
namespace Cs
open PySem L2
open PyProof.Rows (envOfC)
theorem cutS_take (t : List Nat) (k : Nat) (h : k ≤ t.length) : cutS (S t) none (some (k : Int)) = S (t.take k) := by
  unfold cutS
  rw [HT.sIx_none, HT.sIx_nat, S_len, Nat.min_eq_left h]
  simp [S]
theorem cutS_drop (t : List Nat) (k : Nat) (h : k ≤ t.length) : cutS (S t) (some (k : Int)) none = S (t.drop k) := by
  unfold cutS
  rw [HT.sIx_none, HT.sIx_nat, S_len, Nat.min_eq_left h]
  simp only [S]
  rw [List.take_of_length_le (by simp)]
theorem rd_rng2 {tas : TA} {σ : St} {H : Hp} {R : It → Hp → Prop} (h : tas σ H fun vs H1 => ∃ i j : Int, vs = [.int i, .int j] ∧ (-(2 ^ 62) ≤ i ∧ i < 2 ^ 62 ∧ -(2 ^ 62) ≤ j ∧ j < 2 ^ 62) ∧ R (Itr i (j - i).toNat) H1) : iRng2 tas σ H R := h
theorem rd_sls {z : Str} {lo hi : Option Int} {H : Hp} {Q : VK} (h : z.length ≤ sizeLine) (q : Q (.str (cutS z lo hi)) H) : rSlS (.str z) lo hi H Q := ⟨z, rfl, h, q⟩

end Cs
namespace Cs
open PySem L2
open PyProof.Rows (envOfC)
/-! how many signs two texts have in common at their beginnings -/
theorem rd_whileI {c : TT} {t : L2.TS} {D : Ends} {σ : St} {H : Hp} {m0 : Nat} (W : Nat → St → Hp → Prop) (w0 : W m0 σ H) (hs : ∀ m σ H, W m σ H → c σ H fun b H1 => if b = true then ∃ N : St → Hp → Prop, (∀ σ' H', N σ' H' → ∃ m', m' < m ∧ W m' σ' H') ∧ t { D with nx := N, bk := D.nx, ct := N } σ H1 else D.nx σ H1) : tWhile c t D σ H := ⟨W, ⟨m0, w0⟩, hs⟩
theorem rd_cutW {t : L2.TS} {D : Ends} {σ : St} {H : Hp} (C : St → Hp → Prop) (h : ∀ nx' : St → Hp → Prop, (∀ σ H, C σ H → nx' σ H) → t { D with nx := nx' } σ H) (rest : ∀ σ H, C σ H → D.nx σ H) : t D σ H := h D.nx rest
theorem rd_cutV {t1 t2 : L2.TS} {D : Ends} {σ : St} {H : Hp} (C : St → Hp → Prop) (h1 : ∀ nx' : St → Hp → Prop, (∀ σ H, C σ H → nx' σ H) → t1 { D with nx := nx' } σ H) (h2 : ∀ σ H, C σ H → t2 D σ H) : tSeq t1 t2 D σ H := h1 _ h2
theorem par_S : Str.ofString ")" = S [41] := by decide +kernel
theorem spc_S : Str.ofString " " = S [32] := by decide +kernel
theorem brk_S : Str.ofString "[" = S [91] := by decide +kernel
theorem rd_ixs {t : List Nat} {j : Nat} {i : Int} {c : Nat} {H : Hp} {Q : VK} (hl : t.length ≤ sizeLine) (e : i = (j : Int)) (h : t[j]? = some c) (q : Q (.str (S [c])) H) : rIxS (.str (S t)) (.int i) H Q := ⟨S t, i, c, rfl, rfl, by rw [S_len]; exact hl, by rw [e]; exact atI_nat h, q⟩
theorem lcp_drop : ∀ (a b : List Nat) (m : Nat), m ≤ lcp a b → lcp (a.drop m) (b.drop m) + m = lcp a b
  | a, b, 0, _ => by simp
  | [], b, m + 1, h => by simp [lcp] at h
  | _ :: _, [], m + 1, h => by simp [lcp] at h
  | x :: a, y :: b, m + 1, h => by
    unfold lcp at h
    split at h
    · rename_i e
      have := lcp_drop a b m (by omega)
      show lcp (a.drop m) (b.drop m) + (m + 1) = lcp (x :: a) (y :: b)
      have e2 : lcp (x :: a) (y :: b) = lcp a b + 1 := by rw [lcp, if_pos e]
      omega
    · omega
theorem lcp_le : ∀ (a b : List Nat), lcp a b ≤ a.length ∧ lcp a b ≤ b.length
  | [], b => by simp [lcp]
  | _ :: _, [] => by simp [lcp]
  | x :: a, y :: b => by
    have := lcp_le a b
    unfold lcp
    split <;> simp <;> omega
theorem drop_get {a : List Nat} {m : Nat} (h : m < a.length) : a.drop m = a[m] :: a.drop (m + 1) := List.drop_eq_getElem_cons h
theorem lcp_step {a b : List Nat} {m : Nat} (h : m ≤ lcp a b) (ha : m < a.length) (hb : m < b.length) : (a[m] = b[m] → m + 1 ≤ lcp a b) ∧ (a[m] ≠ b[m] → m = lcp a b) := by
  have e := lcp_drop a b m h
  rw [drop_get ha, drop_get hb, lcp] at e
  split at e
  · rename_i z
    exact ⟨fun _ => by omega, fun n => absurd z n⟩
  · rename_i z
    exact ⟨fun n => absurd n z, fun _ => by omega⟩
theorem lcp_end {a b : List Nat} {m : Nat} (h : m ≤ lcp a b) (hm : a.length ≤ m ∨ b.length ≤ m) : m = lcp a b := by
  have := lcp_le a b
  omega
def sp_shared : Sp := fun vs H Q _ => ∃ a b : List Nat, vs = [.str (S a), .str (S b)] ∧ a.length ≤ 100000 ∧ b.length ≤ 100000 ∧ Q (.int (lcp a b : Nat)) H
section
variable {P : Program} {w : World} {K : PySem.W.Frag} {mg : Str → Option Value} {base : Heap}
theorem ok_shared (B : Blt mg) (F : At K mg "_shared" s__shared ["one", "other"]) : Cal P w K mg base 1 "_shared" ["one", "other"] sp_shared := by
  refine F.ok sc__shared (fun vs H Q E h => ?_) (fun f cdv A outer s H vs Q E hr h => ?_)
  · obtain ⟨a, b, rfl, _⟩ := h
    rfl
  · obtain ⟨a, b, rfl, ha, hb, k⟩ := h
    have za : a.length ≤ sizeLine := by rw [PySem.sizeLine_eq]; omega
    have zb : b.length ≤ sizeLine := by rw [PySem.sizeLine_eq]; omega
    refine ⟨_, (pss_cons (ps_set (i := 2) sc__shared.nd rfl (Or.inl rfl) pe_int)
    (pss_cons (ps_while PassesOwn.never (PW.pt (pw_and (pt_cmpR op_lt (pv 2) (pe_callB (call_min2 rfl) (by rfl) B.min (by decide +kernel) (pa_cons (pe_callB call_len_str (by rfl) B.len PySem.boot_len (pa_cons (pv 0) pa_nil)) (pa_cons (pe_callB call_len_str (by rfl) B.len PySem.boot_len (pa_cons (pv 1) pa_nil)) pa_nil))) (nomark _)) (pw_and1 (pt_cmpR op_eq (pe_ix ix_str (pv 0) (pv 2) (fun _ _ => rfl)) (pe_ix ix_str (pv 1) (pv 2) (fun _ _ => rfl)) (nomark _)))))
    (pss_one (ps_aug (i := 2) sc__shared.nd rfl (Or.inl rfl) pe_int ip_add)))
    (pss_one (ps_ret (pv 2))))), ?_⟩
    walk_at "go"
    refine rd_whileI (m0 := a.length) (fun r σ H' => ∃ m : Nat, σ = [some (.str (S a)), some (.str (S b)), some (.int (m : Nat))] ∧ H' = H ∧ m ≤ lcp a b ∧ r = a.length - m) ⟨0, rfl, rfl, Nat.zero_le _, rfl⟩ ?_
    rintro r σ H' ⟨m, rfl, rfl, hm, rfl⟩
    walk_at "go"
    refine ⟨S a, rfl, by rw [S_len]; exact za, ?_⟩
    walk_at "go"
    refine ⟨S b, rfl, by rw [S_len]; exact zb, ?_⟩
    walk_at "go"
    refine ⟨_, _, rfl, ?_⟩
    rw [S_len, S_len]
    walk_at "go"
    refine ite2 (fun h1 => ?_) (fun h1 => ?_)
    · have h1 := of_decide_eq_true h1
      have ma : m < a.length := by split at h1 <;> omega
      have mb : m < b.length := by split at h1 <;> omega
      obtain ⟨s1, s2⟩ := lcp_step hm ma mb
      walk_at "go"
      refine rd_ixs za rfl (List.getElem?_eq_getElem ma) ?_
      walk_at "go"
      refine rd_ixs zb rfl (List.getElem?_eq_getElem mb) ?_
      walk_at "go"
      refine ite2 (fun h2 => ?_) (fun h2 => ?_)
      · have h2 : a[m] = b[m] := by simpa [S] using h2
        refine ⟨_, fun σ' H' z => z, ?_⟩
        walk_at "go"
        exact ⟨a.length - (m + 1), by omega, m + 1, rfl, rfl, s1 h2, rfl⟩
      · have h2 : a[m] ≠ b[m] := by simpa [S] using h2
        walk_at "go"
        rw [s2 h2]; exact k
    · have h1 : ¬ ((m : Int) < if ((b.length : Nat) : Int) < ((a.length : Nat) : Int) then ((b.length : Nat) : Int) else ((a.length : Nat) : Int)) := fun z => h1 (decide_eq_true z)
      have hm2 : m = lcp a b := lcp_end hm (by split at h1 <;> omega)
      refine iteF ?_
      walk_at "go"
      rw [hm2]; exact k
end

end Cs
namespace Cs
open PySem L2
open PyProof.Rows (envOfC)
/-! an exception of an own class as a value -/
def ExV (cls : Value) (d : Option Addr) (a : Addr) : HO := .ext fun h => ∃ (oe : Obj) (vs : Array Value), h.get? a = some oe ∧ Zc cls d oe ∧ oe.data = .fields vs
theorem exV_ok {P : Program} {w : World} {H : Hp} {h : Heap} {a : Addr} {cls : Value} {d : Option Addr} {oe : Obj} {vs : Array Value} (e : h.get? a = some oe) (z : Zc cls d oe) (dt : oe.data = .fields vs) : ObjOk P w H h a (ExV cls d a) :=
  ⟨⟨oe, vs, e, z, dt⟩, ⟨oe, e⟩, fun _ _ ⟨o, v, q, r⟩ k => ⟨o, v, k o q, r⟩⟩
/-- what may be raised may be a value -/
theorem pe_made {X : Cx} {e : Expr} {t : St → Hp → XK → Prop} (he : PMk X e t) : PE X e (fun σ H Q => t σ H fun cls d H' => ∀ a, H' a = none → Q (.ref a) (upd H' a (ExV cls d a))) := by
  constructor
  intro pins s σ H Q I h
  refine wpAny_mono (he pins s σ H _ I h) (fun u s1 hu => ?_) fun _ _ x => x
  obtain ⟨a, oe, vs, sI, H', cls, d, rfl, J, k, hne, ha, hz, hd, _, na, os, ag, _, q⟩ := hu
  have L := J.laidN (t' := s1.toks) k hne na (exV_ok ha hz hd)
  exact ⟨.ref a, _, ⟨L.ok, by rw [os]; exact L.os, ag, L.base, L.loc, L.cell, L.free, L.freeC, L.pin, L.hok, L.len⟩, rfl, q a na⟩
/-- its field -/
def tFieldV (K : PySem.W.Frag) (f : Str) (te : TE) : TE := fun σ H Q => te σ H fun x H1 => ∃ (a C dd : Addr) (fs : List (Str × V)) (v : V), x = .ref a ∧ H1 a = some (ExV (.ref C) (some dd) a) ∧ H1 dd = some (.xd fs) ∧ XfC K C ∧ PySem.W.findIn K (.ref C) f = some none ∧ fs.lookup f = some v ∧ Q v H1
theorem pe_fieldV {X : Cx} {e : Expr} {te : TE} {pos : Pos} {n : Str} (he : PE X e te) (hb : attributeBase e n X.env (eval e X.env) = eval e X.env := by rfl) : PE X (.Attribute e n pos) (tFieldV X.K n te) := by
  constructor
  intro pins s σ H Q I h
  refine attr_of hb (thn (he.run pins s σ H _ I h) fun u s1 hh => ?_)
  obtain ⟨x, H1, I1, rx, a, C, dd, fs, v, rfl, ea, ed, T, hno, l, q⟩ := hh
  cases rx
  obtain ⟨⟨oe, vs, hget, hz, hd⟩, _⟩ := I1.hok a _ ea
  have hx : ObjOk X.prog X.w H1 s1.heap dd (.xd fs) := I1.hok dd _ ed
  obtain ⟨mA, hns, hr⟩ := hx
  obtain ⟨od, ho, hl⟩ := lookIn_ns hns
  obtain ⟨u, hu, ru⟩ := RelO.some_of (v := v) (o := mA n) (by rw [← l]; exact hr n)
  have J : PySem.W.InstAt s1.heap a oe C (some od) := ⟨hget, hz.1, by unfold PySem.W.notCls; rw [hd] <;> rfl, by rw [hz.2]; exact ho⟩
  exact HandSPX.exc_get I1.kIn J T.ga T.gg T.exC (PySem.W.findObj_own T.hdC hno rfl (by rw [hl, hu])) (handed_of ru) ⟨v, H1, I1.tok _, ru, q⟩
/-- isinstance(e, c), with fields or without -/
def rIsV (K : PySem.W.Frag) : List V → Hp → VK → Prop := fun xs H Q => ∃ (a D : Addr) (d : Option Addr) (c : V) (cv : Value) (b : Bool), xs = [.ref a, c] ∧ H a = some (ExV (.ref D) d a) ∧ (d = none ∨ ∃ dd fs, d = some dd ∧ H dd = some (.xd fs)) ∧ ExcC K D ∧ (∀ u, RelV c u → u = cv) ∧ PySem.W.kitOne K (.ref D) cv = some b ∧ Q (.bl b) H
theorem call_isV {X : Cx} {K : PySem.W.Frag} (hK : X.K = K) : CallR X (.builtin "isinstance") (rIsV K) := by
  subst hK
  rintro pins s σ H xs us Q I r ⟨a, D, d, c, cv, b, rfl, ea, dct, C, hcv, e, q⟩
  cases r with
  | cons rx rr =>
    cases rr with
    | cons rt rr =>
      cases rr
      cases rx
      have ec := hcv _ rt
      subst ec
      obtain ⟨⟨oe, vs, hget, hz, hd⟩, _⟩ := I.hok a _ ea
      obtain ⟨od, J⟩ : ∃ od, PySem.W.InstAt s.heap a oe D od := by
        rcases dct with rfl | ⟨dd, fs, rfl, ed⟩
        · exact ⟨none, hget, hz.1, by unfold PySem.W.notCls; rw [hd] <;> rfl, by rw [hz.2]; trivial⟩
        · have hx : ObjOk X.prog X.w H s.heap dd (.xd fs) := I.hok dd _ ed
          obtain ⟨mA, hns, hr⟩ := hx
          obtain ⟨od, ho, hl⟩ := lookIn_ns hns
          exact ⟨some od, hget, hz.1, by unfold PySem.W.notCls; rw [hd] <;> rfl, by rw [hz.2]; exact ho⟩
      have cls : (PySem.W.clsIn X.K D).isSome = true := by
        obtain ⟨cd, hc, _⟩ := PySem.W.any_some C.hd
        rw [hc]; rfl
      exact PySem.W.kia_one (PySem.W.kitx_exc cls C.hg C.hk C.hs C.ha C.hn C.ht C.hm) I.kIn J e (fun z => nomatch z) fun tk => ⟨.bl b, H, I.kept (t' := tk) fun _ _ z => z, rfl, q⟩
def tExv0 (C : Addr) : TE := fun _ H Q => ∀ a, H a = none → Q (.ref a) (upd H a (ExV (.ref C) none a))
/-- C(), C an own class without own __init__ -/
theorem pe_exv0 {X : Cx} {C : Addr} {bmB : List Value} {B newId initId : String} {x : Str} {p pos : Pos} (F : ExcBaseFacts B newId initId bmB) (q : PySem.W.excIn X.K C bmB newId = true) (gC : X.mg x = some (.ref C)) (kC : PySem.W.keepIn X.K (.ref C) = true) (hg : Gl X x := by rfl) (hdb : (x == ("__debug__" : Str)) = false := by decide) :
    PE X (.Call (.Name x p) [] [] pos) (tExv0 C) := by
  constructor
  intro pins s σ H Q I h
  refine wpAny_Call_Name_kw (ld_glob I hg gC ?_ hdb)
  refine PySem.W.callWith_K0 I.kIn kC ?_
  show wpAny _ _ (call (.ref C) []) _ _ _
  obtain ⟨bm, N, nm, qn, bs, hdct, sn, sub, ab, col, dd, k0, k1, k2, k3, k5, mN, hC, hN, hni, T⟩ := exc_obj I.kIn q
  refine wpAny_call_exc_subT F T hC hN hni (fun h' a made => ?_) (by show 0 ≤ sizeLine; decide)
  have free : H a = none := I.hok.gone made.new
  obtain ⟨t, there, _, _⟩ := made.there
  exact ⟨.ref a, _, I.laidN made.keeps made.new free (exV_ok there ⟨rfl, rfl⟩ rfl), rfl, h a free⟩

end Cs
namespace Cs
open PySem L2
open PyProof.Rows (envOfC)
/-! bits of a set of places; pieces of an automaton, their languages -/
abbrev Lg := List Nat → Prop
def Pw (A : Lg) : Nat → Lg
  | 0, w => w = []
  | n + 1, w => ∃ u v, w = u ++ v ∧ A u ∧ Pw A n v
def RowL : List Lg → Lg
  | [], w => w = []
  | A :: As, w => ∃ u v, w = u ++ v ∧ A u ∧ RowL As v
abbrev Ed (f : List Nat) (k m : Nat) : Prop := (f.getD k 0).testBit m = true
def Qa (f : List Nat) (r : Nat → Nat) (l : Nat) : List Nat → Nat → Prop
  | [], k => l.testBit k = true
  | c :: w, k => ∃ m, Ed f k m ∧ (r c).testBit m = true ∧ Qa f r l w m
def PL (f : List Nat) (r : Nat → Nat) (e : Bool) (F L : Nat) : Lg
  | [] => e = true
  | c :: w => ∃ m, F.testBit m = true ∧ (r c).testBit m = true ∧ Qa f r L w m
structure POk (f : List Nat) (a b F L : Nat) : Prop where
  le : a ≤ b
  F : ∀ m, F.testBit m = true → a ≤ m ∧ m < b
  L : ∀ m, L.testBit m = true → a ≤ m ∧ m < b
  E : ∀ k m, a ≤ k → k < b → Ed f k m → a ≤ m ∧ m < b
/-- two machines agree on the places from a on ahead of b -/
structure Agr (f f' : List Nat) (r r' : Nat → Nat) (a b : Nat) : Prop where
  f : ∀ k, a ≤ k → k < b → f'.getD k 0 = f.getD k 0
  r : ∀ c m, a ≤ m → m < b → (r' c).testBit m = (r c).testBit m
theorem Agr.refl {f : List Nat} {r : Nat → Nat} {a b : Nat} : Agr f f r r a b := ⟨fun _ _ _ => rfl, fun _ _ _ _ => rfl⟩
theorem Agr.trans {f f' f'' : List Nat} {r r' r'' : Nat → Nat} {a b : Nat} (x : Agr f f' r r' a b) (y : Agr f' f'' r' r'' a b) : Agr f f'' r r'' a b :=
  ⟨fun k h1 h2 => (y.f k h1 h2).trans (x.f k h1 h2), fun c m h1 h2 => (y.r c m h1 h2).trans (x.r c m h1 h2)⟩
theorem Agr.sub {f f' : List Nat} {r r' : Nat → Nat} {a b a' b' : Nat} (x : Agr f f' r r' a b) (h1 : a ≤ a') (h2 : b' ≤ b) : Agr f f' r r' a' b' :=
  ⟨fun k q1 q2 => x.f k (Nat.le_trans h1 q1) (Nat.lt_of_lt_of_le q2 h2), fun c m q1 q2 => x.r c m (Nat.le_trans h1 q1) (Nat.lt_of_lt_of_le q2 h2)⟩
section
variable {f f' : List Nat} {r r' : Nat → Nat} {a b F L : Nat}
theorem Qa_agr (E : ∀ k m, a ≤ k → k < b → Ed f k m → a ≤ m ∧ m < b) (g : Agr f f' r r' a b) {l l' : Nat} (hl : ∀ m, a ≤ m → m < b → l'.testBit m = l.testBit m) : ∀ w k, a ≤ k → k < b → (Qa f' r' l' w k ↔ Qa f r l w k)
  | [], k, h1, h2 => by show l'.testBit k = true ↔ l.testBit k = true; rw [hl k h1 h2]
  | c :: w, k, h1, h2 => by
    constructor
    · rintro ⟨m, e, rc, q⟩
      have e' : Ed f k m := by unfold Ed at e ⊢; rw [← g.f k h1 h2]; exact e
      obtain ⟨m1, m2⟩ := E k m h1 h2 e'
      exact ⟨m, e', by rw [← g.r c m m1 m2]; exact rc, (Qa_agr E g hl w m m1 m2).mp q⟩
    · rintro ⟨m, e, rc, q⟩
      obtain ⟨m1, m2⟩ := E k m h1 h2 e
      exact ⟨m, by unfold Ed at e ⊢; rw [g.f k h1 h2]; exact e, by rw [g.r c m m1 m2]; exact rc, (Qa_agr E g hl w m m1 m2).mpr q⟩
theorem POk.agr (p : POk f a b F L) (g : Agr f f' r r' a b) : POk f' a b F L :=
  ⟨p.le, p.F, p.L, fun k m h1 h2 e => p.E k m h1 h2 (by unfold Ed at e ⊢; rw [← g.f k h1 h2]; exact e)⟩
theorem POk.pl (p : POk f a b F L) (g : Agr f f' r r' a b) {e : Bool} : ∀ w, PL f' r' e F L w ↔ PL f r e F L w
  | [] => Iff.rfl
  | c :: w => by
    constructor
    · rintro ⟨m, h, rc, q⟩
      obtain ⟨m1, m2⟩ := p.F m h
      exact ⟨m, h, by rw [← g.r c m m1 m2]; exact rc, (Qa_agr p.E g (fun _ _ _ => rfl) w m m1 m2).mp q⟩
    · rintro ⟨m, h, rc, q⟩
      obtain ⟨m1, m2⟩ := p.F m h
      exact ⟨m, h, by rw [g.r c m m1 m2]; exact rc, (Qa_agr p.E g (fun _ _ _ => rfl) w m m1 m2).mpr q⟩
end
/-! ### edges added -/
def linkF (f : List Nat) (b a : Nat) : List Nat := f.mapIdx fun k x => if b.testBit k then x ||| a else x
theorem linkF_len (f : List Nat) (b a : Nat) : (linkF f b a).length = f.length := by simp [linkF]
theorem linkF_get (f : List Nat) (b a k : Nat) (h : k < f.length) : (linkF f b a).getD k 0 = if b.testBit k then f.getD k 0 ||| a else f.getD k 0 := by
  simp [linkF, List.getD_eq_getElem?_getD, List.getElem?_mapIdx, h]
theorem linkF_no (f : List Nat) (b a k : Nat) (h : b.testBit k = false) : (linkF f b a).getD k 0 = f.getD k 0 := by
  by_cases q : k < f.length
  · rw [linkF_get _ _ _ _ q, h]; rfl
  · simp [linkF, List.getD_eq_getElem?_getD, List.getElem?_mapIdx, q]
theorem linkF_ed {f : List Nat} {b a k m : Nat} (h : k < f.length) : Ed (linkF f b a) k m ↔ Ed f k m ∨ (b.testBit k = true ∧ a.testBit m = true) := by
  unfold Ed
  rw [linkF_get _ _ _ _ h]
  cases e : b.testBit k
  · simp
  · simp [Nat.testBit_or]
theorem linkF_agr {f : List Nat} {r : Nat → Nat} {b a x y : Nat} (h : ∀ k, b.testBit k = true → ¬ (x ≤ k ∧ k < y)) : Agr f (linkF f b a) r r x y :=
  ⟨fun k h1 h2 => linkF_no _ _ _ _ (by cases e : b.testBit k with | false => rfl | true => exact absurd ⟨h1, h2⟩ (h k e)), fun _ _ _ _ => rfl⟩
theorem or_bit {x y m : Nat} : (x ||| y).testBit m = true ↔ x.testBit m = true ∨ y.testBit m = true := by simp [Nat.testBit_or]
theorem if_bit {c : Bool} {x y m : Nat} : (if c then x else y).testBit m = true ↔ (c = true ∧ x.testBit m = true) ∨ (c = false ∧ y.testBit m = true) := by cases c <;> simp
/-! ### one piece behind another -/
section
variable {f : List Nat} {r : Nat → Nat} {x y z F L F2 L2 : Nat} {e e2 : Bool} {A B : Lg}
theorem chain_q (p : POk f x y F L) (q : POk f y z F2 L2) (hz : z ≤ f.length) (hB : ∀ w, PL f r e2 F2 L2 w ↔ B w) :
    ∀ w k, x ≤ k → k < y → (Qa (linkF f L F2) r (if e2 then L ||| L2 else L2) w k ↔ ∃ u v, w = u ++ v ∧ Qa f r L u k ∧ B v)
  | [], k, h1, h2 => by
    have nk : L2.testBit k = false := by
      cases e : L2.testBit k with
      | false => rfl
      | true => have := (q.L k e).1; omega
    constructor
    · intro h
      have h : (if e2 then L ||| L2 else L2).testBit k = true := h
      rw [if_bit, or_bit, nk] at h
      rcases h with ⟨he, h | h⟩ | ⟨_, h⟩
      · exact ⟨[], [], rfl, h, (hB []).mp he⟩
      · cases h
      · cases h
    · rintro ⟨u, v, ew, h, hb⟩
      obtain ⟨rfl, rfl⟩ := List.append_eq_nil_iff.mp ew.symm
      have he : e2 = true := (hB []).mpr hb
      show (if e2 then L ||| L2 else L2).testBit k = true
      rw [if_bit, or_bit]
      exact .inl ⟨he, .inl h⟩
  | c :: w, k, h1, h2 => by
    have hk : k < f.length := by have := q.le; omega
    have ag : Agr f (linkF f L F2) r r y z := linkF_agr fun j hj => by have := p.L j hj; omega
    have sec : ∀ w m, y ≤ m → m < z → (Qa (linkF f L F2) r (if e2 then L ||| L2 else L2) w m ↔ Qa f r L2 w m) := fun w m m1 m2 => by
      refine Qa_agr q.E ag (fun j j1 j2 => ?_) w m m1 m2
      have nj : L.testBit j = false := by
        cases e : L.testBit j with
        | false => rfl
        | true => have := (p.L j e).2; omega
      cases e2
      · rfl
      · show (L ||| L2).testBit j = L2.testBit j
        rw [Nat.testBit_or, nj]; rfl
    constructor
    · rintro ⟨m, he, hr, hq⟩
      rcases (linkF_ed hk).mp he with he | ⟨hl, hf⟩
      · obtain ⟨m1, m2⟩ := p.E k m h1 h2 he
        obtain ⟨u, v, rfl, hu, hv⟩ := (chain_q p q hz hB w m m1 m2).mp hq
        exact ⟨c :: u, v, rfl, ⟨m, he, hr, hu⟩, hv⟩
      · obtain ⟨m1, m2⟩ := q.F m hf
        exact ⟨[], c :: w, rfl, hl, (hB (c :: w)).mp ⟨m, hf, hr, (sec w m m1 m2).mp hq⟩⟩
    · rintro ⟨u, v, ew, hu, hv⟩
      cases u with
      | nil =>
        have ev : v = c :: w := ew.symm
        subst ev
        obtain ⟨m, hf, hr, hq⟩ := (hB (c :: w)).mpr hv
        obtain ⟨m1, m2⟩ := q.F m hf
        exact ⟨m, (linkF_ed hk).mpr (.inr ⟨hu, hf⟩), hr, (sec w m m1 m2).mpr hq⟩
      | cons d u =>
        obtain ⟨ed, ew2⟩ := List.cons.inj ew
        cases ed; subst ew2
        obtain ⟨m, he, hr, hq⟩ := hu
        obtain ⟨m1, m2⟩ := p.E k m h1 h2 he
        exact ⟨m, (linkF_ed hk).mpr (.inl he), hr, (chain_q p q hz hB (u ++ v) m m1 m2).mpr ⟨u, v, rfl, hq, hv⟩⟩
theorem chain_step (p : POk f x y F L) (q : POk f y z F2 L2) (hz : z ≤ f.length) (hA : ∀ w, PL f r e F L w ↔ A w) (hB : ∀ w, PL f r e2 F2 L2 w ↔ B w) :
    POk (linkF f L F2) x z (if e then F ||| F2 else F) (if e2 then L ||| L2 else L2) ∧ ∀ w, PL (linkF f L F2) r (e && e2) (if e then F ||| F2 else F) (if e2 then L ||| L2 else L2) w ↔ ∃ u v, w = u ++ v ∧ A u ∧ B v := by
  have l1 := p.le
  have l2 := q.le
  refine ⟨⟨by omega, fun m h => ?_, fun m h => ?_, fun k m h1 h2 h => ?_⟩, fun w => ?_⟩
  · rw [if_bit, or_bit] at h
    rcases h with ⟨_, h | h⟩ | ⟨_, h⟩
    · have := p.F m h; omega
    · have := q.F m h; omega
    · have := p.F m h; omega
  · rw [if_bit, or_bit] at h
    rcases h with ⟨_, h | h⟩ | ⟨_, h⟩
    · have := p.L m h; omega
    · have := q.L m h; omega
    · have := q.L m h; omega
  · rcases (linkF_ed (by omega)).mp h with h | ⟨h, h'⟩
    · by_cases hk : k < y
      · have := p.E k m h1 hk h; omega
      · have := q.E k m (by omega) h2 h; omega
    · have := q.F m h'; omega
  · have cq := chain_q (e2 := e2) p q hz hB
    cases w with
    | nil =>
      constructor
      · intro h
        have h : (e && e2) = true := h
        rw [Bool.and_eq_true] at h
        exact ⟨[], [], rfl, (hA []).mp h.1, (hB []).mp h.2⟩
      · rintro ⟨u, v, ew, ha, hb⟩
        obtain ⟨rfl, rfl⟩ := List.append_eq_nil_iff.mp ew.symm
        show (e && e2) = true
        rw [Bool.and_eq_true]
        exact ⟨(hA []).mpr ha, (hB []).mpr hb⟩
    | cons c w =>
      have ag : Agr f (linkF f L F2) r r y z := linkF_agr fun j hj => by have := p.L j hj; omega
      have sec : ∀ w m, y ≤ m → m < z → (Qa (linkF f L F2) r (if e2 then L ||| L2 else L2) w m ↔ Qa f r L2 w m) := fun w m m1 m2 => by
        refine Qa_agr q.E ag (fun j j1 j2 => ?_) w m m1 m2
        have nj : L.testBit j = false := by
          cases e : L.testBit j with
          | false => rfl
          | true => have := (p.L j e).2; omega
        cases e2
        · rfl
        · show (L ||| L2).testBit j = L2.testBit j
          rw [Nat.testBit_or, nj]; rfl
      constructor
      · rintro ⟨m, hf, hr, hq⟩
        rw [if_bit, or_bit] at hf
        have one : F.testBit m = true → ∃ u v, c :: w = u ++ v ∧ A u ∧ B v := fun hf => by
          obtain ⟨m1, m2⟩ := p.F m hf
          obtain ⟨u, v, rfl, hu, hv⟩ := (cq w m m1 m2).mp hq
          exact ⟨c :: u, v, rfl, (hA _).mp ⟨m, hf, hr, hu⟩, hv⟩
        rcases hf with ⟨he, hf | hf⟩ | ⟨_, hf⟩
        · exact one hf
        · obtain ⟨m1, m2⟩ := q.F m hf
          exact ⟨[], c :: w, rfl, (hA []).mp he, (hB _).mp ⟨m, hf, hr, (sec w m m1 m2).mp hq⟩⟩
        · exact one hf
      · rintro ⟨u, v, ew, hu, hv⟩
        cases u with
        | nil =>
          have ev : v = c :: w := ew.symm
          subst ev
          have he : e = true := (hA []).mpr hu
          obtain ⟨m, hf, hr, hq⟩ := (hB (c :: w)).mpr hv
          obtain ⟨m1, m2⟩ := q.F m hf
          exact ⟨m, by rw [if_bit, or_bit]; exact .inl ⟨he, .inr hf⟩, hr, (sec w m m1 m2).mpr hq⟩
        | cons d u =>
          obtain ⟨ed, ew2⟩ := List.cons.inj ew
          cases ed; subst ew2
          obtain ⟨m, hf, hr, hq⟩ := (hA (c :: u)).mpr hu
          obtain ⟨m1, m2⟩ := p.F m hf
          refine ⟨m, ?_, hr, (cq (u ++ v) m m1 m2).mpr ⟨u, v, rfl, hq, hv⟩⟩
          rw [if_bit, or_bit]
          cases e
          · exact .inr ⟨rfl, hf⟩
          · exact .inl ⟨rfl, .inl hf⟩
/-! ### one piece or another -/
theorem choice_step (p : POk f x y F L) (q : POk f y z F2 L2) (hA : ∀ w, PL f r e F L w ↔ A w) (hB : ∀ w, PL f r e2 F2 L2 w ↔ B w) :
    POk f x z (F ||| F2) (L ||| L2) ∧ ∀ w, PL f r (e || e2) (F ||| F2) (L ||| L2) w ↔ A w ∨ B w := by
  have l1 := p.le
  have l2 := q.le
  refine ⟨⟨by omega, fun m h => ?_, fun m h => ?_, fun k m h1 h2 h => ?_⟩, fun w => ?_⟩
  · rw [or_bit] at h
    rcases h with h | h
    · have := p.F m h; omega
    · have := q.F m h; omega
  · rw [or_bit] at h
    rcases h with h | h
    · have := p.L m h; omega
    · have := q.L m h; omega
  · by_cases hk : k < y
    · have := p.E k m h1 hk h; omega
    · have := q.E k m (by omega) h2 h; omega
  · cases w with
    | nil =>
      have := hA []
      have := hB []
      simp only [PL, Bool.or_eq_true] at *
      rw [← hA [], ← hB []]
    | cons c w =>
      have fir : ∀ w m, x ≤ m → m < y → (Qa f r (L ||| L2) w m ↔ Qa f r L w m) := fun w m m1 m2 => by
        refine Qa_agr p.E .refl (fun j j1 j2 => ?_) w m m1 m2
        have nj : L2.testBit j = false := by
          cases e : L2.testBit j with
          | false => rfl
          | true => have := (q.L j e).1; omega
        rw [Nat.testBit_or, nj]; simp
      have sec : ∀ w m, y ≤ m → m < z → (Qa f r (L ||| L2) w m ↔ Qa f r L2 w m) := fun w m m1 m2 => by
        refine Qa_agr q.E .refl (fun j j1 j2 => ?_) w m m1 m2
        have nj : L.testBit j = false := by
          cases e : L.testBit j with
          | false => rfl
          | true => have := (p.L j e).2; omega
        rw [Nat.testBit_or, nj]; rfl
      constructor
      · rintro ⟨m, hf, hr, hq⟩
        rw [or_bit] at hf
        rcases hf with hf | hf
        · obtain ⟨m1, m2⟩ := p.F m hf
          exact .inl ((hA _).mp ⟨m, hf, hr, (fir w m m1 m2).mp hq⟩)
        · obtain ⟨m1, m2⟩ := q.F m hf
          exact .inr ((hB _).mp ⟨m, hf, hr, (sec w m m1 m2).mp hq⟩)
      · rintro (h | h)
        · obtain ⟨m, hf, hr, hq⟩ := (hA (c :: w)).mpr h
          obtain ⟨m1, m2⟩ := p.F m hf
          exact ⟨m, or_bit.mpr (.inl hf), hr, (fir w m m1 m2).mpr hq⟩
        · obtain ⟨m, hf, hr, hq⟩ := (hB (c :: w)).mpr h
          obtain ⟨m1, m2⟩ := q.F m hf
          exact ⟨m, or_bit.mpr (.inr hf), hr, (sec w m m1 m2).mpr hq⟩
/-! ### a piece again and again -/
theorem pow_cons {A : Lg} : ∀ {n : Nat} {c : Nat} {w : List Nat}, Pw A n (c :: w) → ∃ u v j, w = u ++ v ∧ A (c :: u) ∧ Pw A j v ∧ j < n ∧ (A [] ∨ j + 1 = n)
  | 0, _, _, h => by cases h
  | n + 1, c, w, ⟨u, v, ew, ha, hp⟩ => by
    cases u with
    | nil =>
      have ev : v = c :: w := ew.symm
      subst ev
      obtain ⟨u, v, j, h1, h2, h3, h4, h5⟩ := pow_cons hp
      exact ⟨u, v, j, h1, h2, h3, by omega, .inl ha⟩
    | cons d u =>
      obtain ⟨ed, ew2⟩ := List.cons.inj ew
      cases ed; subst ew2
      exact ⟨u, v, n, rfl, ha, hp, by omega, .inr rfl⟩
theorem loop_q (p : POk f x y F L) (hy : y ≤ f.length) (hA : ∀ w, PL f r e F L w ↔ A w) :
    ∀ w k, x ≤ k → k < y → (Qa (linkF f L F) r L w k ↔ ∃ u v, w = u ++ v ∧ Qa f r L u k ∧ ∃ n, Pw A n v)
  | [], k, h1, h2 => by
    constructor
    · intro h; exact ⟨[], [], rfl, h, 0, rfl⟩
    · rintro ⟨u, v, ew, h, _⟩
      obtain ⟨rfl, rfl⟩ := List.append_eq_nil_iff.mp ew.symm
      exact h
  | c :: w, k, h1, h2 => by
    have hk : k < f.length := by omega
    constructor
    · rintro ⟨m, he, hr, hq⟩
      rcases (linkF_ed hk).mp he with he | ⟨hl, hf⟩
      · obtain ⟨m1, m2⟩ := p.E k m h1 h2 he
        obtain ⟨u, v, rfl, hu, hv⟩ := (loop_q p hy hA w m m1 m2).mp hq
        exact ⟨c :: u, v, rfl, ⟨m, he, hr, hu⟩, hv⟩
      · obtain ⟨m1, m2⟩ := p.F m hf
        obtain ⟨u, v, rfl, hu, n, hv⟩ := (loop_q p hy hA w m m1 m2).mp hq
        exact ⟨[], c :: (u ++ v), rfl, hl, n + 1, c :: u, v, rfl, (hA _).mp ⟨m, hf, hr, hu⟩, hv⟩
    · rintro ⟨u, v, ew, hu, n, hv⟩
      cases u with
      | nil =>
        have ev : v = c :: w := ew.symm
        subst ev
        obtain ⟨u, v, j, rfl, ha, hj, _⟩ := pow_cons hv
        obtain ⟨m, hf, hr, hq⟩ := (hA (c :: u)).mpr ha
        obtain ⟨m1, m2⟩ := p.F m hf
        exact ⟨m, (linkF_ed hk).mpr (.inr ⟨hu, hf⟩), hr, (loop_q p hy hA (u ++ v) m m1 m2).mpr ⟨u, v, rfl, hq, j, hj⟩⟩
      | cons d u =>
        obtain ⟨ed, ew2⟩ := List.cons.inj ew
        cases ed; subst ew2
        obtain ⟨m, he, hr, hq⟩ := hu
        obtain ⟨m1, m2⟩ := p.E k m h1 h2 he
        exact ⟨m, (linkF_ed hk).mpr (.inl he), hr, (loop_q p hy hA (u ++ v) m m1 m2).mpr ⟨u, v, rfl, hq, n, hv⟩⟩
theorem loop_step (p : POk f x y F L) (hy : y ≤ f.length) (hA : ∀ w, PL f r e F L w ↔ A w) :
    POk (linkF f L F) x y F L ∧ ∀ w, PL (linkF f L F) r true F L w ↔ ∃ n, Pw A n w := by
  refine ⟨⟨p.le, p.F, p.L, fun k m h1 h2 h => ?_⟩, fun w => ?_⟩
  · rcases (linkF_ed (by omega)).mp h with h | ⟨_, h⟩
    · exact p.E k m h1 h2 h
    · exact p.F m h
  · cases w with
    | nil => exact ⟨fun _ => ⟨0, rfl⟩, fun _ => rfl⟩
    | cons c w =>
      constructor
      · rintro ⟨m, hf, hr, hq⟩
        obtain ⟨m1, m2⟩ := p.F m hf
        obtain ⟨u, v, rfl, hu, n, hv⟩ := (loop_q p hy hA w m m1 m2).mp hq
        exact ⟨n + 1, c :: u, v, rfl, (hA _).mp ⟨m, hf, hr, hu⟩, hv⟩
      · rintro ⟨n, h⟩
        obtain ⟨u, v, j, rfl, ha, hj, _⟩ := pow_cons h
        obtain ⟨m, hf, hr, hq⟩ := (hA (c :: u)).mpr ha
        obtain ⟨m1, m2⟩ := p.F m hf
        exact ⟨m, hf, hr, (loop_q p hy hA (u ++ v) m m1 m2).mpr ⟨u, v, rfl, hq, j, hj⟩⟩
/-- with e true, the empty text too -/
theorem pl_true (hA : ∀ w, PL f r e F L w ↔ A w) (w : List Nat) : PL f r true F L w ↔ w = [] ∨ A w := by
  cases w with
  | nil => exact ⟨fun _ => .inl rfl, fun _ => rfl⟩
  | cons c w =>
    rw [← hA (c :: w)]
    exact ⟨fun h => .inr h, fun h => h.elim (fun q => nomatch q) id⟩
end

end Cs
namespace Cs
open PySem L2
open PyProof.Rows (envOfC)
/-! patterns as trees and the texts that they match -/
inductive Pt
  | set (cs : List Nat)
  | row (ps : List Pt)
  | any (ps : List Pt)
  | all (ps : List Pt)
  | no (p : Pt)
  | again (p : Pt) (lo : Nat) (hi : Option Nat)
mutual
def Pt.L : Pt → Lg
  | .set cs, w => ∃ c, c ∈ cs ∧ w = [c]
  | .row ps, w => Pt.LRow ps w
  | .any ps, w => Pt.LAny ps w
  | .all ps, w => Pt.LAll ps w
  | .no p, w => ¬ Pt.L p w
  | .again p lo hi, w => ∃ n, lo ≤ n ∧ (∀ h, hi = some h → n ≤ h) ∧ Pw (Pt.L p) n w
def Pt.LRow : List Pt → Lg
  | [], w => w = []
  | p :: ps, w => ∃ u v, w = u ++ v ∧ Pt.L p u ∧ Pt.LRow ps v
def Pt.LAny : List Pt → Lg
  | [], _ => False
  | p :: ps, w => Pt.L p w ∨ Pt.LAny ps w
def Pt.LAll : List Pt → Lg
  | [], _ => True
  | p :: ps, w => Pt.L p w ∧ Pt.LAll ps w
end
theorem Pt.LRow_eq : ∀ (ps : List Pt) (w : List Nat), Pt.LRow ps w ↔ RowL (ps.map Pt.L) w
  | [], w => by simp [Pt.LRow, RowL]
  | p :: ps, w => by simp only [Pt.LRow, List.map_cons, RowL, Pt.LRow_eq ps]
theorem Pt.LAny_eq : ∀ (ps : List Pt) (w : List Nat), Pt.LAny ps w ↔ ∃ A ∈ ps.map Pt.L, A w
  | [], w => by simp [Pt.LAny]
  | p :: ps, w => by
    rw [Pt.LAny, List.map_cons, Pt.LAny_eq ps]
    constructor
    · rintro (h | ⟨A, h, q⟩)
      · exact ⟨_, List.mem_cons_self, h⟩
      · exact ⟨A, List.mem_cons_of_mem _ h, q⟩
    · rintro ⟨A, h, q⟩
      rcases List.mem_cons.mp h with rfl | h
      · exact .inl q
      · exact .inr ⟨A, h, q⟩
/-! ### pieces side by side -/
inductive Pcs (f : List Nat) (r : Nat → Nat) : Nat → List (Bool × Nat × Nat) → Nat → List Lg → Prop
  | nil {a : Nat} : Pcs f r a [] a []
  | cons {a b c : Nat} {e : Bool} {F L : Nat} {A : Lg} {ps : List (Bool × Nat × Nat)} {As : List Lg} : POk f a b F L → (∀ w, PL f r e F L w ↔ A w) → Pcs f r b ps c As → Pcs f r a ((e, F, L) :: ps) c (A :: As)
theorem Pcs.le {f : List Nat} {r : Nat → Nat} : ∀ {a b : Nat} {ps : List (Bool × Nat × Nat)} {As : List Lg}, Pcs f r a ps b As → a ≤ b
  | _, _, _, _, .nil => Nat.le_refl _
  | _, _, _, _, .cons p _ t => Nat.le_trans p.le t.le
theorem Pcs.agr {f f' : List Nat} {r r' : Nat → Nat} : ∀ {a b : Nat} {ps : List (Bool × Nat × Nat)} {As : List Lg}, Pcs f r a ps b As → Agr f f' r r' a b → Pcs f' r' a ps b As
  | _, _, _, _, .nil, _ => .nil
  | _, _, _, _, .cons p q t, g => .cons (p.agr (g.sub (Nat.le_refl _) t.le)) (fun w => (p.pl (g.sub (Nat.le_refl _) t.le) w).trans (q w)) (t.agr (g.sub p.le (Nat.le_refl _)))
theorem Pcs.snoc {f : List Nat} {r : Nat → Nat} {b c : Nat} {e : Bool} {F L : Nat} {A : Lg} (p : POk f b c F L) (q : ∀ w, PL f r e F L w ↔ A w) : ∀ {a : Nat} {ps : List (Bool × Nat × Nat)} {As : List Lg}, Pcs f r a ps b As → Pcs f r a (ps ++ [(e, F, L)]) c (As ++ [A])
  | _, _, _, .nil => .cons p q .nil
  | _, _, _, .cons p' q' t => .cons p' q' (t.snoc p q)
theorem Pcs.app {f : List Nat} {r : Nat → Nat} : ∀ {a b c : Nat} {ps qs : List (Bool × Nat × Nat)} {As Bs : List Lg}, Pcs f r a ps b As → Pcs f r b qs c Bs → Pcs f r a (ps ++ qs) c (As ++ Bs)
  | _, _, _, _, _, _, _, .nil, u => u
  | _, _, _, _, _, _, _, .cons p q t, u => .cons p q (t.app u)
theorem Pcs.length {f : List Nat} {r : Nat → Nat} : ∀ {a b : Nat} {ps : List (Bool × Nat × Nat)} {As : List Lg}, Pcs f r a ps b As → ps.length = As.length
  | _, _, _, _, .nil => rfl
  | _, _, _, _, .cons _ _ t => congrArg Nat.succ t.length
/-- each may be missing -/
theorem Pcs.opt {f : List Nat} {r : Nat → Nat} : ∀ {a b : Nat} {ps : List (Bool × Nat × Nat)} {As : List Lg}, Pcs f r a ps b As → Pcs f r a (ps.map fun x => (true, x.2.1, x.2.2)) b (As.map fun A w => w = [] ∨ A w)
  | _, _, _, _, .nil => .nil
  | _, _, _, _, .cons p q t => .cons p (pl_true q) t.opt
/-- the machine grows: what was there stays, but for the edges from the first place -/
structure Grow (f f' : List Nat) (r r' : Nat → Nat) : Prop where
  len : f.length ≤ f'.length
  fe : ∀ k, k < f.length → f'.getD k 0 = f.getD k 0
  re : ∀ c m, m < f.length → (r' c).testBit m = (r c).testBit m
theorem Grow.refl {f : List Nat} {r : Nat → Nat} : Grow f f r r := ⟨Nat.le_refl _, fun _ _ => rfl, fun _ _ _ => rfl⟩
theorem Grow.trans {f f' f'' : List Nat} {r r' r'' : Nat → Nat} (x : Grow f f' r r') (y : Grow f' f'' r' r'') : Grow f f'' r r'' :=
  ⟨Nat.le_trans x.len y.len, fun k h => (y.fe k (Nat.lt_of_lt_of_le h x.len)).trans (x.fe k h), fun c m h => (y.re c m (Nat.lt_of_lt_of_le h x.len)).trans (x.re c m h)⟩
theorem Grow.agr {f f' : List Nat} {r r' : Nat → Nat} (x : Grow f f' r r') {a b : Nat} (h : b ≤ f.length) : Agr f f' r r' a b := ⟨fun k _ k2 => x.fe k (Nat.lt_of_lt_of_le k2 h), fun c m _ m2 => x.re c m (Nat.lt_of_lt_of_le m2 h)⟩
/-- what stands: no place is read that is not there, no edge leads out of the machine or to its first place, and but for the edges from there none crosses into the places from n on -/
structure Mach (f : List Nat) (r : Nat → Nat) : Prop where
  r : ∀ c m, (r c).testBit m = true → m < f.length
  e : ∀ k m, Ed f k m → 1 ≤ m ∧ m < f.length
  one : 1 ≤ f.length
theorem Grow.link {f : List Nat} {r : Nat → Nat} {b a n : Nat} (h : ∀ k, b.testBit k = true → n ≤ k) (hn : n ≤ f.length) {f0 : List Nat} {r0 : Nat → Nat} (h0 : f0.length = n) (g : Grow f0 f r0 r) : Grow f0 (linkF f b a) r0 r :=
  ⟨by rw [linkF_len]; exact g.len, fun k hk => by
    rw [linkF_no _ _ _ _ (by
      cases e : b.testBit k with
      | false => rfl
      | true => have := h k e; omega)]
    exact g.fe k hk, g.re⟩
theorem Mach.link {f : List Nat} {r : Nat → Nat} {b a x y : Nat} (M : Mach f r) (h : ∀ m, a.testBit m = true → x ≤ m ∧ m < y) (hx : 1 ≤ x) (hy : y ≤ f.length) : Mach (linkF f b a) r :=
  ⟨fun c m q => by rw [linkF_len]; exact M.r c m q, fun k m q => by
    rw [linkF_len]
    by_cases hk : k < f.length
    · rcases (linkF_ed hk).mp q with q | ⟨_, q⟩
      · exact M.e k m q
      · have := h m q; omega
    · unfold Ed at q
      rw [List.getD_eq_getElem?_getD, List.getElem?_eq_none (by rw [linkF_len]; omega)] at q
      simp at q, by rw [linkF_len]; exact M.one⟩
/-! ### a set -/
def addR (r : Nat → Nat) (cs : List Nat) (b : Nat) : Nat → Nat := fun c => if c ∈ cs then r c ||| b else r c
theorem pow2_bit {n m : Nat} : (2 ^ n).testBit m = true ↔ m = n := by
  rw [Nat.testBit_two_pow]; simp [eq_comm]
theorem set_piece {f : List Nat} {r : Nat → Nat} {cs : List Nat} (M : Mach f r) :
    Grow f (f ++ [0]) r (addR r cs (2 ^ f.length)) ∧ Mach (f ++ [0]) (addR r cs (2 ^ f.length)) ∧ POk (f ++ [0]) f.length (f.length + 1) (2 ^ f.length) (2 ^ f.length) ∧
    ∀ w, PL (f ++ [0]) (addR r cs (2 ^ f.length)) false (2 ^ f.length) (2 ^ f.length) w ↔ (Pt.set cs).L w := by
  have hbit : ∀ c m, (addR r cs (2 ^ f.length) c).testBit m = true ↔ (r c).testBit m = true ∨ (c ∈ cs ∧ m = f.length) := fun c m => by
    unfold addR
    by_cases h : c ∈ cs
    · rw [if_pos h, or_bit, pow2_bit]; simp [h]
    · rw [if_neg h]; simp [h]
  have hno : ∀ c, (r c).testBit f.length = false := fun c => by
    cases e : (r c).testBit f.length with
    | false => rfl
    | true => have := M.r c _ e; omega
  have g0 : ∀ k, (f ++ [0]).getD k 0 = f.getD k 0 := fun k => by
    rw [List.getD_eq_getElem?_getD, List.getD_eq_getElem?_getD]
    by_cases h : k < f.length
    · rw [List.getElem?_append_left h]
    · rw [List.getElem?_append_right (by omega), List.getElem?_eq_none (l := f) (by omega)]
      cases q : k - f.length <;> simp
  refine ⟨⟨by simp, fun k hk => g0 k, fun c m hm => ?_⟩, ⟨fun c m h => ?_, fun k m h => ?_, by simp⟩, ⟨by omega, fun m h => ?_, fun m h => ?_, fun k m h1 h2 h => ?_⟩, fun w => ?_⟩
  · rw [Bool.eq_iff_iff, hbit]
    constructor
    · rintro (h | ⟨_, h⟩)
      · exact h
      · omega
    · exact .inl
  · rw [List.length_append, List.length_singleton]
    rcases (hbit c m).mp h with h | ⟨_, h⟩
    · have := M.r c m h; omega
    · omega
  · unfold Ed at h
    rw [g0] at h
    have := M.e k m h
    rw [List.length_append, List.length_singleton]; omega
  · rw [pow2_bit] at h; omega
  · rw [pow2_bit] at h; omega
  · unfold Ed at h
    rw [g0] at h
    have : k = f.length := by omega
    subst this
    rw [List.getD_eq_getElem?_getD, List.getElem?_eq_none (Nat.le_refl _)] at h
    simp at h
  · show _ ↔ Pt.L (Pt.set cs) w
    rw [Pt.L]
    cases w with
    | nil => simp [PL]
    | cons c w =>
      constructor
      · rintro ⟨m, h, hr, q⟩
        rw [pow2_bit] at h
        subst h
        rcases (hbit c _).mp hr with hr | ⟨hc, _⟩
        · rw [hno] at hr; cases hr
        · cases w with
          | nil => exact ⟨c, hc, rfl⟩
          | cons d w =>
            obtain ⟨m, h, _⟩ := q
            unfold Ed at h
            rw [g0, List.getD_eq_getElem?_getD, List.getElem?_eq_none (Nat.le_refl _)] at h
            simp at h
      · rintro ⟨d, hd, e⟩
        cases e
        exact ⟨f.length, pow2_bit.mpr rfl, (hbit c _).mpr (.inr ⟨hd, rfl⟩), pow2_bit.mpr rfl⟩
/-! ### again -/
theorem RowL_app : ∀ (As Bs : List Lg) (w : List Nat), RowL (As ++ Bs) w ↔ ∃ u v, w = u ++ v ∧ RowL As u ∧ RowL Bs v
  | [], Bs, w => by
    constructor
    · intro h; exact ⟨[], w, rfl, rfl, h⟩
    · rintro ⟨u, v, rfl, h, q⟩
      have : u = [] := h
      subst this
      exact q
  | A :: As, Bs, w => by
    constructor
    · rintro ⟨u, v, rfl, ha, h⟩
      obtain ⟨x, y, rfl, h1, h2⟩ := (RowL_app As Bs v).mp h
      exact ⟨u ++ x, y, by rw [List.append_assoc], ⟨u, x, rfl, ha, h1⟩, h2⟩
    · rintro ⟨u, v, rfl, ⟨x, y, rfl, ha, h1⟩, h2⟩
      exact ⟨x, y ++ v, by rw [List.append_assoc], ha, (RowL_app As Bs (y ++ v)).mpr ⟨y, v, rfl, h1, h2⟩⟩
theorem RowL_rep (A : Lg) : ∀ (n : Nat) (w : List Nat), RowL (List.replicate n A) w ↔ Pw A n w
  | 0, w => Iff.rfl
  | n + 1, w => by
    rw [List.replicate_succ]
    constructor
    · rintro ⟨u, v, h, ha, q⟩; exact ⟨u, v, h, ha, (RowL_rep A n v).mp q⟩
    · rintro ⟨u, v, h, ha, q⟩; exact ⟨u, v, h, ha, (RowL_rep A n v).mpr q⟩
theorem RowL_opt (A : Lg) : ∀ (n : Nat) (w : List Nat), RowL (List.replicate n fun w => w = [] ∨ A w) w ↔ ∃ j, j ≤ n ∧ Pw A j w
  | 0, w => ⟨fun h => ⟨0, Nat.le_refl _, h⟩, fun ⟨j, h, q⟩ => by
    have : j = 0 := by omega
    subst this; exact q⟩
  | n + 1, w => by
    rw [List.replicate_succ]
    constructor
    · rintro ⟨u, v, rfl, ha, q⟩
      obtain ⟨j, hj, q⟩ := (RowL_opt A n v).mp q
      rcases ha with rfl | ha
      · exact ⟨j, by omega, q⟩
      · exact ⟨j + 1, by omega, u, v, rfl, ha, q⟩
    · rintro ⟨j, hj, q⟩
      cases j with
      | zero =>
        have : w = [] := q
        subst this
        exact ⟨[], [], rfl, .inl rfl, (RowL_opt A n []).mpr ⟨0, by omega, rfl⟩⟩
      | succ j =>
        obtain ⟨u, v, rfl, ha, q⟩ := q
        exact ⟨u, v, rfl, .inr ha, (RowL_opt A n v).mpr ⟨j, by omega, q⟩⟩
theorem Pw_add (A : Lg) : ∀ (n m : Nat) (w : List Nat), Pw A (n + m) w ↔ ∃ u v, w = u ++ v ∧ Pw A n u ∧ Pw A m v := fun n m w => by
  rw [← RowL_rep, ← List.replicate_append_replicate, RowL_app]
  simp only [RowL_rep]
theorem again_some {p : Pt} {lo h : Nat} (hl : lo ≤ h) (w : List Nat) : RowL (List.replicate lo p.L ++ List.replicate (h - lo) fun w => w = [] ∨ p.L w) w ↔ (Pt.again p lo (some h)).L w := by
  rw [RowL_app, Pt.L]
  constructor
  · rintro ⟨u, v, rfl, h1, h2⟩
    obtain ⟨j, hj, q⟩ := (RowL_opt p.L _ v).mp h2
    exact ⟨lo + j, by omega, fun x e => by cases e; omega, (Pw_add _ _ _ _).mpr ⟨u, v, rfl, (RowL_rep _ _ _).mp h1, q⟩⟩
  · rintro ⟨n, h1, h2, q⟩
    have h3 := h2 h rfl
    obtain ⟨j, rfl⟩ := Nat.exists_eq_add_of_le h1
    obtain ⟨u, v, rfl, a, b⟩ := (Pw_add _ _ _ _).mp q
    exact ⟨u, v, rfl, (RowL_rep _ _ _).mpr a, (RowL_opt p.L _ v).mpr ⟨j, by omega, b⟩⟩
theorem again_none {p : Pt} {lo : Nat} (w : List Nat) : RowL (List.replicate lo p.L ++ [fun w => ∃ n, Pw p.L n w]) w ↔ (Pt.again p lo none).L w := by
  rw [RowL_app, Pt.L]
  constructor
  · rintro ⟨u, v, rfl, h1, x, y, rfl, ⟨n, q⟩, hy⟩
    have : y = [] := hy
    subst this
    rw [List.append_nil]
    exact ⟨lo + n, by omega, (fun _ e => nomatch e), (Pw_add _ _ _ _).mpr ⟨u, x, rfl, (RowL_rep _ _ _).mp h1, q⟩⟩
  · rintro ⟨n, h1, _, q⟩
    obtain ⟨j, rfl⟩ := Nat.exists_eq_add_of_le h1
    obtain ⟨u, v, rfl, a, b⟩ := (Pw_add _ _ _ _).mp q
    exact ⟨u, v, rfl, (RowL_rep _ _ _).mpr a, v, [], by simp, ⟨j, b⟩, rfl⟩
/-! ### what a state means -/
inductive Vd
  | ends (t : Nat)
  | any (vs : List Vd)
  | all (vs : List Vd)
  | no (v : Vd)
mutual
def Vd.h : Vd → Nat → Bool
  | .ends t, s => (t &&& s) != 0
  | .any vs, s => Vd.hAny vs s
  | .all vs, s => Vd.hAll vs s
  | .no v, s => !Vd.h v s
def Vd.hAny : List Vd → Nat → Bool
  | [], _ => false
  | v :: vs, s => Vd.h v s || Vd.hAny vs s
def Vd.hAll : List Vd → Nat → Bool
  | [], _ => true
  | v :: vs, s => Vd.h v s && Vd.hAll vs s
end
/-- one step of a state: all that follows -/
def stepB (f : List Nat) (s : Nat) : Nat := (List.range f.length).foldl (fun a k => if s.testBit k then a ||| f.getD k 0 else a) 0
def stepF (f : List Nat) (r : Nat → Nat) (s c : Nat) : Nat := stepB f s &&& r c
def runF (f : List Nat) (r : Nat → Nat) (w : List Nat) : Nat := w.foldl (stepF f r) 1
theorem fold_bit (f : List Nat) (s m : Nat) : ∀ (ks : List Nat) (a : Nat), (ks.foldl (fun a k => if s.testBit k then a ||| f.getD k 0 else a) a).testBit m = true ↔ a.testBit m = true ∨ ∃ k ∈ ks, s.testBit k = true ∧ Ed f k m
  | [], a => by simp
  | k :: ks, a => by
    rw [List.foldl_cons, fold_bit f s m ks]
    by_cases h : s.testBit k = true
    · rw [if_pos h, or_bit]
      constructor
      · rintro ((q | q) | ⟨j, hj, q⟩)
        · exact .inl q
        · exact .inr ⟨k, List.mem_cons_self, h, q⟩
        · exact .inr ⟨j, List.mem_cons_of_mem _ hj, q⟩
      · rintro (q | ⟨j, hj, q⟩)
        · exact .inl (.inl q)
        · rcases List.mem_cons.mp hj with rfl | hj
          · exact .inl (.inr q.2)
          · exact .inr ⟨j, hj, q⟩
    · rw [if_neg h]
      constructor
      · rintro (q | ⟨j, hj, q⟩)
        · exact .inl q
        · exact .inr ⟨j, List.mem_cons_of_mem _ hj, q⟩
      · rintro (q | ⟨j, hj, q⟩)
        · exact .inl q
        · rcases List.mem_cons.mp hj with rfl | hj
          · exact absurd q.1 h
          · exact .inr ⟨j, hj, q⟩
theorem stepF_bit {f : List Nat} {r : Nat → Nat} {s c m : Nat} : (stepF f r s c).testBit m = true ↔ (r c).testBit m = true ∧ ∃ k, s.testBit k = true ∧ Ed f k m := by
  unfold stepF stepB
  rw [Nat.testBit_and, Bool.and_eq_true, fold_bit]
  constructor
  · rintro ⟨h | ⟨k, _, hs, he⟩, hr⟩
    · simp at h
    · exact ⟨hr, k, hs, he⟩
  · rintro ⟨hr, k, hs, he⟩
    refine ⟨.inr ⟨k, ?_, hs, he⟩, hr⟩
    rw [List.mem_range]
    by_cases hk : k < f.length
    · exact hk
    · unfold Ed at he
      rw [List.getD_eq_getElem?_getD, List.getElem?_eq_none (by omega)] at he
      simp at he
/-- from a state on, the places [a, b) come to l just by one of its places there -/
theorem run_q {f : List Nat} {r : Nat → Nat} {a b l : Nat} (hl : ∀ m, l.testBit m = true → a ≤ m ∧ m < b) (I : ∀ k m, 1 ≤ k → Ed f k m → ((a ≤ k ∧ k < b) ↔ (a ≤ m ∧ m < b))) (one : ∀ k m, Ed f k m → 1 ≤ m) :
    ∀ (w : List Nat) (s : Nat), (s.testBit 0 = false) → ((l &&& w.foldl (stepF f r) s ≠ 0) ↔ ∃ k, s.testBit k = true ∧ (a ≤ k ∧ k < b) ∧ Qa f r l w k)
  | [], s, _ => by
    constructor
    · intro h
      obtain ⟨m, hm⟩ := Nat.exists_testBit_of_ne_zero h
      rw [List.foldl_nil, Nat.testBit_and, Bool.and_eq_true] at hm
      exact ⟨m, hm.2, hl m hm.1, hm.1⟩
    · rintro ⟨k, hs, _, q⟩ e
      have : (l &&& ([] : List Nat).foldl (stepF f r) s).testBit k = true := by
        rw [List.foldl_nil, Nat.testBit_and, Bool.and_eq_true]; exact ⟨q, hs⟩
      rw [e] at this
      simp at this
  | c :: w, s, h0 => by
    have n0 : (stepF f r s c).testBit 0 = false := by
      cases e : (stepF f r s c).testBit 0 with
      | false => rfl
      | true =>
        obtain ⟨_, k, _, he⟩ := stepF_bit.mp e
        have := one k 0 he
        omega
    rw [List.foldl_cons, run_q hl I one w _ n0]
    constructor
    · rintro ⟨m, hm, hr, q⟩
      obtain ⟨hc, k, hs, he⟩ := stepF_bit.mp hm
      have k1 : 1 ≤ k := by
        cases k with
        | zero => rw [h0] at hs; cases hs
        | succ k => omega
      exact ⟨k, hs, (I k m k1 he).mpr hr, m, he, hc, q⟩
    · rintro ⟨k, hs, hk, m, he, hc, q⟩
      have k1 : 1 ≤ k := by
        cases k with
        | zero => rw [h0] at hs; cases hs
        | succ k => omega
      exact ⟨m, stepF_bit.mpr ⟨hc, k, hs, he⟩, (I k m k1 he).mp hk, q⟩
/-- a leaf: its places [a, b), closed, and what the first place leads to there -/
structure Leaf (f : List Nat) (r : Nat → Nat) (a b t : Nat) (A : Lg) : Prop where
  one : 1 ≤ a
  bl : b ≤ f.length
  iso : ∀ k m, 1 ≤ k → Ed f k m → ((a ≤ k ∧ k < b) ↔ (a ≤ m ∧ m < b))
  ex : ∃ e F L, t = (if e then L ||| 1 else L) ∧ POk f a b F L ∧ (∀ w, PL f r e F L w ↔ A w) ∧ ∀ m, a ≤ m → m < b → (Ed f 0 m ↔ F.testBit m = true)
theorem one_bit {m : Nat} : (1 : Nat).testBit m = true ↔ m = 0 := by
  have := pow2_bit (n := 0) (m := m)
  rwa [Nat.pow_zero] at this
theorem Leaf.run {f : List Nat} {r : Nat → Nat} {a b t : Nat} {A : Lg} (M : Mach f r) (h : Leaf f r a b t A) (w : List Nat) : (t &&& runF f r w ≠ 0) ↔ A w := by
  obtain ⟨e, F, L, rfl, p, q, s⟩ := h.ex
  have h1 := h.one
  rw [← q w]
  cases w with
  | nil =>
    show ((if e then L ||| 1 else L) &&& 1 ≠ 0) ↔ e = true
    have L0 : L.testBit 0 = false := by
      cases z : L.testBit 0 with
      | false => rfl
      | true => have := p.L 0 z; omega
    constructor
    · intro hn
      obtain ⟨m, hm⟩ := Nat.exists_testBit_of_ne_zero hn
      rw [Nat.testBit_and, Bool.and_eq_true, one_bit] at hm
      obtain ⟨hm, rfl⟩ := hm
      cases e
      · rw [if_neg (by decide), L0] at hm; cases hm
      · rfl
    · rintro rfl z
      have : ((if true = true then L ||| 1 else L) &&& 1).testBit 0 = true := by
        rw [if_pos rfl, Nat.testBit_and, Nat.testBit_or]; simp
      rw [z] at this
      simp at this
  | cons c w =>
    have n0 : (stepF f r 1 c).testBit 0 = false := by
      cases z : (stepF f r 1 c).testBit 0 with
      | false => rfl
      | true =>
        obtain ⟨_, k, _, he⟩ := stepF_bit.mp z
        have := (M.e k 0 he).1
        omega
    have run0 : ∀ (w : List Nat) (s : Nat), s.testBit 0 = false → (w.foldl (stepF f r) s).testBit 0 = false := by
      intro w
      induction w with
      | nil => intro s h; exact h
      | cons d w ih =>
        intro s h
        refine ih _ ?_
        cases z : (stepF f r s d).testBit 0 with
        | false => rfl
        | true =>
          obtain ⟨_, k, _, he⟩ := stepF_bit.mp z
          have := (M.e k 0 he).1
          omega
    have tl : ((if e then L ||| 1 else L) &&& w.foldl (stepF f r) (stepF f r 1 c)) = (L &&& w.foldl (stepF f r) (stepF f r 1 c)) := by
      cases e
      · rfl
      · rw [if_pos rfl]
        refine Nat.eq_of_testBit_eq fun i => ?_
        rw [Nat.testBit_and, Nat.testBit_and, Nat.testBit_or]
        cases i with
        | zero => rw [run0 w _ n0]; simp
        | succ i =>
          have : (1 : Nat).testBit (i + 1) = false := by
            cases z : (1 : Nat).testBit (i + 1) with
            | false => rfl
            | true => have := one_bit.mp z; omega
          rw [this]; simp
    show ((if e then L ||| 1 else L) &&& (c :: w).foldl (stepF f r) 1 ≠ 0) ↔ _
    rw [List.foldl_cons, tl, run_q p.L h.iso (fun k m x => (M.e k m x).1) w _ n0]
    constructor
    · rintro ⟨k, hk, hr, hq⟩
      obtain ⟨hc, j, hj, he⟩ := stepF_bit.mp hk
      rw [one_bit] at hj
      subst hj
      exact ⟨k, (s k hr.1 hr.2).mp he, hc, hq⟩
    · rintro ⟨m, hf, hc, hq⟩
      obtain ⟨m1, m2⟩ := p.F m hf
      exact ⟨m, stepF_bit.mpr ⟨hc, 0, one_bit.mpr rfl, (s m m1 m2).mpr hf⟩, ⟨m1, m2⟩, hq⟩
/-- a verdict, of places ahead of n -/
inductive VOk (f : List Nat) (r : Nat → Nat) (n : Nat) : Vd → Lg → Prop
  | ends {a b t : Nat} {A : Lg} : Leaf f r a b t A → b ≤ n → VOk f r n (.ends t) A
  | any0 : VOk f r n (.any []) fun _ => False
  | any {v : Vd} {vs : List Vd} {A B : Lg} : VOk f r n v A → VOk f r n (.any vs) B → VOk f r n (.any (v :: vs)) fun w => A w ∨ B w
  | all0 : VOk f r n (.all []) fun _ => True
  | all {v : Vd} {vs : List Vd} {A B : Lg} : VOk f r n v A → VOk f r n (.all vs) B → VOk f r n (.all (v :: vs)) fun w => A w ∧ B w
  | no {v : Vd} {A : Lg} : VOk f r n v A → VOk f r n (.no v) fun w => ¬ A w
theorem VOk.run {f : List Nat} {r : Nat → Nat} (M : Mach f r) {n : Nat} {v : Vd} {A : Lg} (h : VOk f r n v A) (w : List Nat) : v.h (runF f r w) = true ↔ A w := by
  induction h with
  | ends l _ => rw [Vd.h, bne_iff_ne]; exact l.run M w
  | any0 => rw [Vd.h, Vd.hAny]; simp
  | any _ _ ih1 ih2 =>
    rw [Vd.h] at ih2 ⊢
    rw [Vd.hAny, Bool.or_eq_true, ih1, ih2]
  | all0 => rw [Vd.h, Vd.hAll]; simp
  | all _ _ ih1 ih2 =>
    rw [Vd.h] at ih2 ⊢
    rw [Vd.hAll, Bool.and_eq_true, ih1, ih2]
  | no _ ih => rw [Vd.h, Bool.not_eq_true', ← Bool.not_eq_true, ih]
/-- the machine grows behind a verdict: only the first place gets more edges, to new places -/
structure GrowV (f f' : List Nat) (r r' : Nat → Nat) : Prop where
  len : f.length ≤ f'.length
  fe : ∀ k, 1 ≤ k → k < f.length → f'.getD k 0 = f.getD k 0
  f0 : ∀ m, m < f.length → (Ed f' 0 m ↔ Ed f 0 m)
  new : ∀ k m, f.length ≤ k → Ed f' k m → f.length ≤ m
  re : ∀ c m, m < f.length → (r' c).testBit m = (r c).testBit m
theorem GrowV.refl {f : List Nat} {r : Nat → Nat} : GrowV f f r r := ⟨Nat.le_refl _, fun _ _ _ => rfl, fun _ _ => Iff.rfl, fun k m h e => by
  unfold Ed at e
  rw [List.getD_eq_getElem?_getD, List.getElem?_eq_none h] at e
  simp at e, fun _ _ _ => rfl⟩
theorem GrowV.trans {f f' f'' : List Nat} {r r' r'' : Nat → Nat} (x : GrowV f f' r r') (y : GrowV f' f'' r' r'') : GrowV f f'' r r'' where
  len := Nat.le_trans x.len y.len
  fe := fun k h1 h2 => (y.fe k h1 (Nat.lt_of_lt_of_le h2 x.len)).trans (x.fe k h1 h2)
  f0 := fun m h => (y.f0 m (Nat.lt_of_lt_of_le h x.len)).trans (x.f0 m h)
  new := fun k m h e => by
    by_cases q : k < f'.length
    · by_cases k1 : 1 ≤ k
      · refine x.new k m h ?_
        unfold Ed at e ⊢
        rw [← y.fe k k1 q]; exact e
      · have : k = 0 := by omega
        subst this
        omega
    · exact Nat.le_trans x.len (y.new k m (by omega) e)
  re := fun c m h => (y.re c m (Nat.lt_of_lt_of_le h x.len)).trans (x.re c m h)
theorem Leaf.grow {f f' : List Nat} {r r' : Nat → Nat} {a b t : Nat} {A : Lg} (M : Mach f r) (g : GrowV f f' r r') (h : Leaf f r a b t A) : Leaf f' r' a b t A := by
  obtain ⟨e, F, L, ht, p, q, s⟩ := h.ex
  have h1 := h.one
  have h2 := h.bl
  have ag : Agr f f' r r' a b := ⟨fun k k1 k2 => g.fe k (by omega) (by omega), fun c m _ m2 => g.re c m (by omega)⟩
  refine ⟨h1, Nat.le_trans h2 g.len, fun k m k1 he => ?_, e, F, L, ht, p.agr ag, fun w => (p.pl ag w).trans (q w), fun m m1 m2 => (g.f0 m (by omega)).trans (s m m1 m2)⟩
  by_cases hk : k < f.length
  · have he' : Ed f k m := by unfold Ed at he ⊢; rw [← g.fe k k1 hk]; exact he
    exact h.iso k m k1 he'
  · have := g.new k m (by omega) he
    omega
theorem VOk.grow {f f' : List Nat} {r r' : Nat → Nat} (M : Mach f r) (g : GrowV f f' r r') {n n' : Nat} (hn : n ≤ n') {v : Vd} {A : Lg} (h : VOk f r n v A) : VOk f' r' n' v A := by
  induction h with
  | ends l hb => exact .ends (l.grow M g) (Nat.le_trans hb hn)
  | any0 => exact .any0
  | any _ _ ih1 ih2 => exact .any ih1 ih2
  | all0 => exact .all0
  | all _ _ ih1 ih2 => exact .all ih1 ih2
  | no _ ih => exact .no ih
/-- the first place is joined with a piece -/
def setF (f : List Nat) (F : Nat) : List Nat := f.set 0 (f.getD 0 0 ||| F)
theorem leaf_new {f f' : List Nat} {r r' : Nat → Nat} {e : Bool} {F L : Nat} {A : Lg} (M : Mach f r) (M' : Mach f' r') (g : Grow f f' r r') (p : POk f' f.length f'.length F L) (q : ∀ w, PL f' r' e F L w ↔ A w) :
    Mach (setF f' F) r' ∧ GrowV f (setF f' F) r r' ∧ Leaf (setF f' F) r' f.length f'.length (if e then L ||| 1 else L) A ∧ (setF f' F).length = f'.length := by
  have hlen : (setF f' F).length = f'.length := by simp [setF]
  have h1 := M.one
  have h1' := M'.one
  have g0 : (setF f' F).getD 0 0 = f'.getD 0 0 ||| F := by
    have hp : 0 < f'.length := h1'
    simp [setF, List.getD_eq_getElem?_getD, List.getElem?_set, hp]
  have gs : ∀ k, 1 ≤ k → (setF f' F).getD k 0 = f'.getD k 0 := fun k hk => by
    have : ¬ (0 = k) := by omega
    simp [setF, List.getD_eq_getElem?_getD, List.getElem?_set, this]
  have E0 : ∀ m, Ed (setF f' F) 0 m ↔ Ed f' 0 m ∨ F.testBit m = true := fun m => by
    unfold Ed; rw [g0, or_bit]
  have Es : ∀ k m, 1 ≤ k → (Ed (setF f' F) k m ↔ Ed f' k m) := fun k m hk => by
    unfold Ed; rw [gs k hk]
  have old : ∀ k m, k < f.length → Ed f' k m → m < f.length := fun k m hk he => by
    have : Ed f k m := by unfold Ed at he ⊢; rw [← g.fe k hk]; exact he
    exact (M.e k m this).2
  refine ⟨⟨fun c m h => by rw [hlen]; exact M'.r c m h, fun k m h => ?_, by rw [hlen]; exact h1'⟩, ⟨by rw [hlen]; exact g.len, fun k k1 k2 => ?_, fun m hm => ?_, fun k m hk he => ?_, g.re⟩, ⟨h1, by rw [hlen]; exact Nat.le_refl _, fun k m k1 he => ?_, e, F, L, rfl, ?_⟩, hlen⟩
  · rw [hlen]
    by_cases k1 : 1 ≤ k
    · exact M'.e k m ((Es k m k1).mp h)
    · have : k = 0 := by omega
      subst this
      rcases (E0 m).mp h with h | h
      · exact M'.e 0 m h
      · have := p.F m h; omega
  · rw [gs k k1]; exact g.fe k k2
  · rw [E0]
    constructor
    · rintro (h | h)
      · unfold Ed at h ⊢; rw [← g.fe 0 (by omega)]; exact h
      · have := p.F m h; omega
    · intro h
      refine .inl ?_
      unfold Ed at h ⊢; rw [g.fe 0 (by omega)]; exact h
  · have k1 : 1 ≤ k := by omega
    have he := (Es k m k1).mp he
    by_cases q : k < f'.length
    · exact (p.E k m hk q he).1
    · unfold Ed at he
      rw [List.getD_eq_getElem?_getD, List.getElem?_eq_none (by omega)] at he
      simp at he
  · have he := (Es k m k1).mp he
    have hm := M'.e k m he
    by_cases q : k < f.length
    · have := old k m q he
      omega
    · have q2 : k < f'.length := by
        by_cases z : k < f'.length
        · exact z
        · unfold Ed at he
          rw [List.getD_eq_getElem?_getD, List.getElem?_eq_none (by omega)] at he
          simp at he
      have := p.E k m (by omega) q2 he
      omega
  · have ag : Agr f' (setF f' F) r' r' f.length f'.length := ⟨fun k k1 k2 => gs k (by omega), fun _ _ _ _ => rfl⟩
    refine ⟨p.agr ag, fun w => (p.pl ag w).trans (q w), fun m m1 m2 => ?_⟩
    rw [E0]
    constructor
    · rintro (h | h)
      · have := old 0 m (by omega) h; omega
      · exact h
    · exact .inr

end Cs
namespace Cs
open PySem L2
open PyProof.Rows (envOfC)
open PySem.F
/-! for i, c in enumerate(text) -/
def IteS (x : Str) : It := ⟨fun i _ => i < x.cps.size, fun i H v H' => ∃ T c, v = .ref T ∧ H T = none ∧ H' = upd H T (.tup [.int (i : Nat), .str ⟨#[c]⟩]) ∧ x.cps[i]? = some c, fun i _ => x.cps.size ≤ i⟩
theorem wpAny_pyNext_enumS_end {prog : Program} {w : World} {A : Around} {E : Value → Shared → Prop} {s : Shared} {e it : Addr} {x : Str} {t : Tok} {ty : String} {i : Nat} {old : Value} {Q : Option Value → Shared → Prop} (hh : A.handled = none)
    (he : IsEnum s.heap e it i old) (hit : s.heap.IsStrIter it ty x t i) (hty : ty = "str_ascii_iterator" ∨ ty = "str_iterator") (hx : x.cps[i]? = none)
    (hQ : ∀ h', Heap.ExtBut it s.heap h' → Q none { s with heap := h' }) : wpAny (model prog w) A (pyNext (.ref e)) Q E s := by
  have hT : s.TypeIs (.ref e) "enumerate" := ⟨_, he, rfl⟩
  unfold pyNext
  refine wpAny_bind (wpAny_attempt (wpAny_callSpecial?_slot (name := Str.ofString "__next__") hT F.slot_enumerate_next
    (wpAny_call_entry F.slot_enumerate_next hT F.entry_enumerate_next ?_ (F.args_enumerate_next_1 _))))
  show wpAny _ _ (field (.ref e) 2 >>= _) _ _ _
  refine wpAny_bind (wpAny_field he rfl (x := .ref it) rfl ?_)
  rcases hty with q | q
  · rw [q] at hit
    refine wpAny_bind (wpAny_nextOf_ascii_end hh hit hx fun h' x he' hx' => ?_)
    obtain ⟨o, ho, hc⟩ := hx'
    refine wpAny_bind (wpAny_isInstance (T := "StopIteration") (b := true) ⟨o, ho, hc⟩ isSubtype_stop ?_)
    exact wpAny_pure (hQ _ he')
  · rw [q] at hit
    refine wpAny_bind (wpAny_nextOf_wide_end hh hit hx fun h' x he' hx' => ?_)
    obtain ⟨o, ho, hc⟩ := hx'
    refine wpAny_bind (wpAny_isInstance (T := "StopIteration") (b := true) ⟨o, ho, hc⟩ isSubtype_stop ?_)
    exact wpAny_pure (hQ _ he')
theorem turn_enumS {P : Program} {w : World} {K : PySem.W.Frag} {elts : List Expr} {kk : Nat} {tpos : Pos} (e it : Addr) (x : Str) (t : Tok) (ty : String) (hty : ty = "str_ascii_iterator" ∨ ty = "str_iterator") :
    Turn P w K (.Tuple elts kk tpos) (IteS x) [e, it] e (fun i h => (∃ old, IsEnum h e it ((i : Nat) : Int) old) ∧ h.IsStrIter it ty x t i ∧ e ≠ it) where
  mem := by simp
  obj := fun i h st b hb => by
    obtain ⟨⟨old, he⟩, ⟨o, ho, hc, hd⟩, _⟩ := st
    have e' : b = e ∨ b = it := by simpa using hb
    rcases e' with z | z
    · rw [z]; exact ⟨_, he, fun v q => nomatch q⟩
    · rw [z]; exact ⟨o, ho, fun v q => by rw [hd] at q; cases q⟩
  keep := fun i h h' st k => let ⟨⟨old, he⟩, ⟨o, ho, r⟩, hne⟩ := st; ⟨⟨old, k e (by simp) _ he⟩, ⟨o, k it (by simp) o ho, r⟩, hne⟩
  item := by
    intro X hP hw hK hc i pins s σ H E I hf st hg
    subst hP hw hK
    obtain ⟨⟨old, he⟩, hit, hne⟩ := st
    have D : Draws X.prog X.w X.A.in1 it [it] x.cps.size (fun i v => ∃ c u, x.cps[i]? = some c ∧ v = .str ⟨#[c]⟩ u) (fun i h => h.IsStrIter it ty x t i) := by
      rcases hty with q | q
      · rw [q]; exact Draws.strAscii (show X.A.in1.handled = none from I.ok.hd hc) it x t
      · rw [q]; exact Draws.strWide (show X.A.in1.handled = none from I.ok.hd hc) it x t
    have hel : e < s.heap.objs.size := Heap.lt_size he
    have hil : it < s.heap.objs.size := by obtain ⟨_, q, _⟩ := hit; exact Heap.lt_size q
    refine wpAny_pyNext_enum_itemD D he hit hg hne (by simpa using hne) fun u h' tk hP ho hit' hT hsz hk => ?_
    obtain ⟨c, t0, hcx, rfl⟩ := hP
    refine ⟨_, rfl, wpAny_letOwnedTupleGo_enum (s := { s with heap := h', toks := tk + 1 }) ho fun h'' he' sb => ?_⟩
    have hT2 : h''.get? s.heap.objs.size = some { cls := .type "tuple", data := .seq #[.int i tk, .str ⟨#[c]⟩ t0] } := (sb.2 _ (Nat.ne_of_gt hel)).trans hT
    have new : ObjOk X.prog X.w (upd H s.heap.objs.size (.tup [.int (i : Nat), .str ⟨#[c]⟩])) h'' s.heap.objs.size (.tup [.int (i : Nat), .str ⟨#[c]⟩]) :=
      ⟨by show 2 ≤ sizeLine; decide, [.int i tk, .str ⟨#[c]⟩ t0], .cons ⟨_, rfl⟩ (.cons ⟨_, rfl⟩ .nil), ⟨_, hT2, rfl, _, rfl⟩⟩
    have I1 : Inv X pins σ (upd H s.heap.objs.size (.tup [.int (i : Nat), .str ⟨#[c]⟩])) { s with heap := h'', toks := tk + 1 } :=
      I.turnedNew (ch := [e, it]) (fun b ob hb q => (sb.2 b (fun z => hb (by simp [z]))).trans (hk b ob (fun z => hb (by simp [z])) (fun z => hb (by simp [z])) q)) hf (Nat.le_refl _) new
    refine ⟨.ref s.heap.objs.size, _, I1, rfl, ⟨_, c, rfl, I.hok.fresh (Nat.le_refl _), rfl, hcx⟩, ⟨⟨.str ⟨#[c]⟩ t0, ?_⟩, ?_, hne⟩, fun b hb => ?_⟩
    · have e1 : ((i + 1 : Nat) : Int) = (i : Int) + 1 := by omega
      rw [e1]; exact he'
    · obtain ⟨o, q, r⟩ := hit'
      exact ⟨o, (sb.2 it (Ne.symm hne)).trans q, r⟩
    · have hb' : b < s.heap.objs.size := by
        have e' : b = e ∨ b = it := by simpa using hb
        rcases e' with z | z
        · rw [z]; exact hel
        · rw [z]; exact hil
      rw [upd_ne (Nat.ne_of_lt hb')]
      exact (hf b hb).1
  done := by
    intro X hP hw hK hc i pins s σ H E I hf st hg
    subst hP hw hK
    obtain ⟨⟨old, he⟩, hit, hne⟩ := st
    obtain ⟨f0, f1, f2, f3, f4, f5⟩ := hf it (by simp)
    have hx : x.cps[i]? = none := Array.getElem?_eq_none hg
    exact wpAny_pyNext_enumS_end (I.ok.hd hc) he hit hty hx fun h' eb => ⟨rfl, I.turned (t' := s.toks) (fun b o hb q => eb b o hb q) f0 f1 f3 f4 f5⟩
  self := fun A i s Q E st h => let ⟨⟨_, he⟩, _⟩ := st; wpAny_pyIter_enum he h
def iEnumS (ta : TA) : TI := fun σ H R => ta σ H fun vs H1 => ∃ x, vs = [.str x] ∧ R (IteS x) H1
theorem pi_enumS {X : Cx} {e : Expr} {ta : TA} {p pos tpos : Pos} {elts : List Expr} {kk : Nat} (hg : Gl X "enumerate") (hm : X.mg "enumerate" = none) (ha : PA X [e] ta) (hs : starEach [e] X.env = [(false, eval e X.env)] := by rfl) :
    PI X (.Tuple elts kk tpos) (.Call (.Name "enumerate" p) [e] [] pos) (iEnumS ta) := by
  refine ⟨fun pins s σ H R I h => ?_⟩
  refine PyProof.Rows.Call_ (ld_blt I hg hm (show bootBuiltins "enumerate" = some (.type "enumerate") by decide +kernel) (PyProof.Rows.callWith_type1 (thn (ha.run pos pins s σ H _ I h) fun us s1 ⟨vs, H1, I1, r1, q1⟩ => ?_) hs rfl))
  obtain ⟨x, ex, q⟩ := q1
  subst ex
  cases r1 with
  | cons r rr =>
    cases rr
    obtain ⟨t, rfl⟩ := r
    refine call_enumerate_str fun h' he hit hsz hk => wpAny_pyIter_enum he ?_
    have I2 : Inv X pins σ H1 { s1 with heap := h' } := I1.kept (t' := s1.toks) hk
    have hty : strIterType x = "str_ascii_iterator" ∨ strIterType x = "str_iterator" := by unfold strIterType; split <;> simp
    refine ⟨s1.heap.objs.size + 1, [s1.heap.objs.size + 1, s1.heap.objs.size], _, _, H1, rfl, I2, turn_enumS (s1.heap.objs.size + 1) s1.heap.objs.size x t _ hty, ⟨⟨.none, he⟩, hit, Nat.succ_ne_self _⟩, fun b hb => ?_, q⟩
    have e' : b = s1.heap.objs.size + 1 ∨ b = s1.heap.objs.size := by simpa using hb
    have hle : s1.heap.objs.size ≤ b := by
      rcases e' with z | z
      · rw [z]; exact Nat.le_add_right _ _
      · rw [z]; exact Nat.le_refl _
    exact I1.fpOk hle (I1.hok.fresh hle)

end Cs
namespace Cs
open PySem L2
open PyProof.Rows (envOfC)
/-! objects with fields and methods: rules with K given -/
theorem hu1 {u : Nat} (h : u + 64 < cLine) : u + 1 < cLine := by omega
section
variable {X : Cx} {K : PySem.W.Frag}
theorem pe_fldK {e : Expr} {ta : TE} {f : Str} {pos : Pos} (h : X.K = K) (he : PE X e ta) (hb : attributeBase e f X.env (eval e X.env) = eval e X.env) : PE X (.Attribute e f pos) (tFld K ta f) := by subst h; exact pe_fld he hb
theorem ps_fldK {o value : Expr} {f : Str} {ta tv : TE} {pos pos' : Pos} (h : X.K = K) (ha : PE X o ta) (hv : PE X value tv) (hs : swapsWith value (some (.Attribute o f pos')) pos.line X.env = pure false) : PS X (.Assign [.Attribute o f pos'] value pos) (sFld K ta tv f) := by subst h; exact ps_fld ha hv hs
theorem pget_listK (h : X.K = K) : PGet X (rIxL K) := by
  subst h
  intro pins s σ H x y v u Q I rx ry h
  obtain ⟨p, xs, i, z, rfl, rfl, hq, he, q⟩ := h
  cases rx
  obtain ⟨t, rfl⟩ := ry
  obtain ⟨its, r, pl, hz⟩ := I.list hq
  obtain ⟨j, h1, h2, h3, h4, h5⟩ := atI_get he
  obtain ⟨w, ew, rw'⟩ := r.get h2
  have hl := r.length
  have hn := line63
  have fin : EP X pins σ Q w s := ⟨z, H, I, rw', q⟩
  by_cases h0 : 0 ≤ i
  · have hj : i.toNat = j := by
      rw [seqIndex_of h0 h5] at h1
      exact Option.some.inj h1
    exact wpAny_getItem_list pl.isList h0 (by omega) (by rw [hj]; simpa using ew) fin
  · have hj : (i + (its.toArray.size : Int)).toNat = j := by
      rw [seqIndex_neg (by omega) h4] at h1
      rw [List.size_toArray, ← hl]
      exact Option.some.inj h1
    exact wpAny_getItem_list_neg pl.isList (by omega) (by rw [List.size_toArray] <;> omega) (by omega) (by rw [hj]; simpa using ew) fin
theorem ip_or : PIp X .BitOr (rI0 fun i j => .int (Builtin.bitOr i j)) := fun pins s σ H x y v u Q I r1 r2 h => iop_or pins s σ H x y v u Q I r1 r2 h
/-- a method, by its promise -/
structure Mtd (P : Program) (w : World) (K : PySem.W.Frag) (mg : Str → Option Value) (base : Heap) (k : Nat) (C : Addr) (m : Str) (ps : List Str) (sp : Sp) : Prop where
  ex : ∃ f fd, Meth K C m f ∧ Binds K fd ps [] ∧ FnOk P w K mg base CX0 k f fd ps sp
theorem Mtd.mono {P : Program} {w : World} {mg : Str → Option Value} {base : Heap} {j k : Nat} {C : Addr} {m : Str} {ps : List Str} {sp : Sp} (M : Mtd P w K mg base j C m ps sp) (h : j ≤ k) : Mtd P w K mg base k C m ps sp := by
  obtain ⟨f, fd, a, b, c⟩ := M.ex
  exact ⟨f, fd, a, b, c.mono h⟩
theorem pe_md {C : Addr} {k : Nat} {m : Str} {ps : List Str} {sp : Sp} {o e : Expr} {es : List Expr} {to : TE} {t : TA} {apos pos : Pos} {pl : Sem Bool} (c : Cls X.K C) (M : Mtd X.prog X.w X.K X.mg X.base k C m ps sp) (hr : Room k X.A) (ho : PE X o to) (ha : PA X (e :: es) t)
    (hst : starEach (e :: es) X.env = (false, eval e X.env) :: starEach es X.env := by rfl) (hpl : (backTo pos (starEach es X.env)).any (·.1) = false := by rfl)
    (ht : eval (.Call (.Attribute o m apos) (e :: es) [] pos) X.env = (do
      let ov ← eval o X.env
      standAt apos.atName
      let (f, first) ← holding [ov] (getMethod ov m pl)
      callWith pos f first (backTo pos (starEach (e :: es) X.env)) (backToKw pos (keywordEach [] X.env))) := by rfl) : PE X (.Call (.Attribute o m apos) (e :: es) [] pos) (tMeth C m sp [] E0 to t) := by
  obtain ⟨f, fd, a, b, F⟩ := M.ex
  exact pe_meth ho c a F hr b .nil pass0 ha hst hpl ht
/-- C(..), C an own class with an __init__ -/
structure Mkr (P : Program) (w : World) (K : PySem.W.Frag) (mg : Str → Option Value) (base : Heap) (k : Nat) (x : Str) (C : Addr) (ps : List Str) (sp : Sp) : Prop where
  ex : ∃ f fd, Mk K C f ∧ Binds K fd ps [] ∧ FnOk P w K mg base CX0 k f fd ps sp ∧ mg x = some (.ref C)
theorem pe_mk {C : Addr} {k : Nat} {x : Str} {ps : List Str} {sp : Sp} {e : Expr} {es : List Expr} {t : TA} {p pos : Pos} (M : Mkr X.prog X.w X.K X.mg X.base k x C ps sp) (hr : Room (k + 1) X.A) (ha : PA X (e :: es) t) (hg : Gl X x := by rfl)
    (hdb : (x == ("__debug__" : Str)) = false := by decide) (he : starEach (e :: es) X.env = (false, eval e X.env) :: starEach es X.env := by rfl) (hpl : (backTo pos (starEach es X.env)).any (·.1) = false := by rfl) :
    PE X (.Call (.Name x p) (e :: es) [] pos) (tMake C sp [] E0 t) := by
  obtain ⟨f, fd, a, b, F, m⟩ := M.ex
  exact pe_make a F hr hg m b .nil pass0 ha hdb he hpl
end
section
variable {σ : St} {H : Hp} {D : Ends} {Q : VK} {ta tb tv : TE} {tas : TA} {K : PySem.W.Frag} {f m : Str} {C : Addr} {sp : Sp} {i j l : Nat}
theorem rd_fld (h : ta σ H fun x H1 => ∃ a C dx fs v, x = .ref a ∧ H1 a = some (.ins C dx fs) ∧ Cls K C ∧ NoAttr K C f ∧ fs.lookup f = some v ∧ Q v H1) : tFld K ta f σ H Q := h
theorem rd_sfld (h : tv σ H fun y H1 => ta σ H1 fun x H2 => ∃ a C dx fs, x = .ref a ∧ H2 a = some (.ins C dx fs) ∧ Cls K C ∧ NoAttr K C f ∧ fs.length < 1000 ∧ D.nx σ (upd H2 a (.ins C dx (putF f y fs)))) : sFld K ta tv f D σ H := h
theorem rd_meth {E : XK} (h : ta σ H fun x H1 => ∃ a dx fs, x = .ref a ∧ H1 a = some (.ins C dx fs) ∧ fs.lookup m = none ∧ tas σ H1 fun vs H2 => sp (x :: (vs ++ [])) H2 Q E) : tMeth C m sp [] E ta tas σ H Q := h
theorem rd_make {E : XK} (h : tas σ H fun vs H1 => ∀ x dx, H1 x = none → H1 dx = none → dx ≠ x → sp (.ref x :: (vs ++ [])) (upd (upd H1 dx (.own x)) x (.ins C dx [])) (fun v H2 => v = .non ∧ Q (.ref x) H2) E) : tMake C sp [] E tas σ H Q := h
theorem rd_par3 (h : tas σ H fun vs H1 => ∃ v w u, vs = [v, w, u] ∧ D.nx (((σ.set i (some v)).set j (some w)).set l (some u)) H1) : tPar3 i j l tas D σ H := h
theorem rd_par3j {a b c : V} {R : V → V → V → Prop} (q : R a b c) : ∃ v w u, ([a, b, c] : List V) = [v, w, u] ∧ R v w u := ⟨a, b, c, rfl, q⟩
theorem rd_augS {to ti te : TE} {tget : V → V → Hp → VK → Prop} {tip : TIp} {tset : TSet} (h : to σ H fun o H1 => ti σ H1 fun i H2 => tget o i H2 fun x H3 => te σ H3 fun y H4 => tip x y H4 fun z H5 => tset o i z H5 fun H6 => D.nx σ H6) : tAugS to ti te tget tip tset D σ H := h
theorem rd_daug {td ty : TE} {rd : V → V → Hp → VK → Prop} (h : td σ H fun x H1 => ty σ H1 fun y H2 => ∃ a v, x = .ref a ∧ DGet H2 a y (some v) ∧ tv σ H2 fun y2 H3 => rd v y2 H3 fun z H4 => ∃ H5, DPut H4 a y z H5 ∧ D.nx σ H5) : sDAug td ty tv rd D σ H := h
theorem rd_dget {td ty : TE} (h : td σ H fun x H1 => ty σ H1 fun y H2 => ∃ a v, x = .ref a ∧ DGet H2 a y (some v) ∧ Q v H2) : tDGet td ty σ H Q := h
theorem rd_dc {wi : TI} {g : TG} {tt : TT} {tk tv : TE} {vs : List Nat} (h : wi σ H fun J H1 => ∀ D, H1 D = none → ∃ W : Nat → Nat → Hp → Prop, (∃ m, W 0 m (upd H1 D (.dK []))) ∧ ∀ i m H, W i m H →
  (J.stop i H ∧ Q (.ref D) H) ∨ (J.go i H ∧ ∃ Nx : Hp → Prop, (∀ H', Nx H' → ∃ m', m' < m ∧ W (i + 1) m' H') ∧ ∀ x H', J.yld i H x H' → g x (wipe σ vs) H' fun σ2 H2 => wipe σ2 vs = wipe σ vs ∧ tt σ2 H2 fun b H3 =>
    if b = true then tk σ2 H3 fun y H4 => tv σ2 H4 fun z H5 => ∃ kvs k, y = kV k ∧ H5 D = some (.dK kvs) ∧ kvs.length < sizeLine ∧ Nx (upd H5 D (.dK (putK kvs k z))) else Nx H3)) : tDc wi g tt tk tv vs σ H Q := h
theorem rd_enumS {R : It → Hp → Prop} (h : tas σ H fun vs H1 => ∃ x, vs = [.str x] ∧ R (IteS x) H1) : iEnumS tas σ H R := h
theorem rd_enum {R : It → Hp → Prop} (h : tas σ H fun vs H1 => ∃ a xs, vs = [.ref a] ∧ SqL K H1 a xs ∧ R (Ite K a) H1) : iEnum K tas σ H R := h
end
/-! ### numbers as places -/
abbrev vn (n : Nat) : V := .int (n : Int)
theorem bitNot_n (n : Nat) : Builtin.bitNot (n : Int) = -(n : Int) - 1 := by unfold Builtin.bitNot; omega
theorem bor_n (a b : Nat) : Builtin.bitOr (a : Int) (b : Int) = ((a ||| b : Nat) : Int) := by
  unfold Builtin.bitOr Builtin.bitAnd
  have h1 : decide (0 ≤ Builtin.bitNot (a : Int)) = false := by rw [bitNot_n]; simp; omega
  have h2 : decide (0 ≤ Builtin.bitNot (b : Int)) = false := by rw [bitNot_n]; simp; omega
  rw [h1, h2]
  have e : ∀ n : Nat, (Builtin.bitNot (Builtin.bitNot (n : Int))).toNat = n := fun n => by rw [bitNot_n]; unfold Builtin.bitNot; omega
  have e2 : ∀ n : Nat, Builtin.bitNot (Builtin.bitNot (n : Int)) = (n : Int) := fun n => by rw [bitNot_n]; unfold Builtin.bitNot; omega
  show Builtin.bitNot (Builtin.bitNot ((((Builtin.bitNot (Builtin.bitNot (a : Int))).toNat ||| (Builtin.bitNot (Builtin.bitNot (b : Int))).toNat : Nat)) : Int)) = _
  rw [e, e, e2]
theorem band_n (a b : Nat) : Builtin.bitAnd (a : Int) (b : Int) = ((a &&& b : Nat) : Int) := by
  unfold Builtin.bitAnd
  have h1 : decide (0 ≤ (a : Int)) = true := by simp
  have h2 : decide (0 ≤ (b : Int)) = true := by simp
  rw [h1, h2]
  show (((a : Int).toNat &&& (b : Int).toNat : Nat) : Int) = _
  simp
theorem shr_n (a k : Nat) : (a : Int) / 2 ^ ((k : Int)).toNat = ((a >>> k : Nat) : Int) := by
  rw [Nat.shiftRight_eq_div_pow]
  simp
theorem bit_n (a k : Nat) : Builtin.bitAnd ((a : Int) / 2 ^ ((k : Int)).toNat) 1 = if a.testBit k then 1 else 0 := by
  rw [shr_n]
  have := band_n (a >>> k) 1
  rw [show ((1 : Nat) : Int) = 1 from rfl] at this
  rw [this, Nat.testBit_eq_decide_div_mod_eq, Nat.and_one_is_mod, Nat.shiftRight_eq_div_pow]
  by_cases h : a / 2 ^ k % 2 = 1
  · simp [h]
  · have : a / 2 ^ k % 2 = 0 := by omega
    simp [this]
theorem shl_n (k : Nat) : (1 : Int) * 2 ^ ((k : Int)).toNat = ((2 ^ k : Nat) : Int) := by simp

end Cs
local macro_rules | `(tactic| walk_at "go") => `(tactic| repeat (first
  | with_reducible refine Cs.rd_seq ?_ | with_reducible refine Cs.rd_asg ?_ | with_reducible refine Cs.rd_gname ?_ | with_reducible refine Cs.rd_var rfl ?_ | with_reducible refine Cs.rd_c ?_ | with_reducible refine Cs.rd_op ?_
  | with_reducible refine Cs.rd_i0 ?_ | with_reducible refine Cs.rd_cons ?_ | with_reducible refine Cs.rd_nil ?_ | with_reducible refine Cs.rd_call ?_ | with_reducible refine Cs.rd_cb ?_ | with_reducible refine Cs.rd_ret ?_ | with_reducible refine Cs.rd_ifs ?_
  | with_reducible refine Cs.rd_test ?_ | with_reducible refine Cs.rd_tB ?_ | with_reducible refine Cs.rd_bl ?_ | with_reducible refine Cs.rd_eq rfl ?_ | with_reducible refine Cs.rd_ne rfl ?_ | with_reducible refine Cs.rd_tup ?_ | with_reducible refine Cs.rd_lst ?_
  | with_reducible refine Cs.rd_bm0 ?_ | with_reducible refine Cs.rd_bm ?_ | with_reducible refine Cs.rd_gsub ?_ | with_reducible refine Cs.rd_and ?_ | with_reducible refine Cs.rd_or ?_ | with_reducible refine Cs.rd_not ?_ | with_reducible refine Cs.rd_andV ?_
  | with_reducible refine Cs.rd_orV ?_ | with_reducible refine Cs.rd_notV ?_ | with_reducible refine Cs.rd_ife ?_ | with_reducible refine Cs.rd_drop ?_ | with_reducible refine Cs.rd_next ?_ | with_reducible refine Cs.rd_un ?_ | with_reducible refine L2.iteT ?_ | with_reducible refine L2.iteF ?_
  | with_reducible refine Cs.rd_m1 ?_ | with_reducible refine Cs.rd_gcons ?_ | with_reducible refine Cs.rd_gnil ?_ | with_reducible refine Cs.rd_truth ?_ | with_reducible refine Cs.rd_yes ?_ | with_reducible refine Cs.rd_sl ?_ | with_reducible refine Cs.rd_nopart ?_ | with_reducible refine Cs.rd_part ?_ | with_reducible refine Cs.rd_int ?_ | with_reducible refine Cs.rd_strx ?_
  | with_reducible refine Cs.rd_rng1 ?_ | with_reducible refine Cs.rd_ilist ?_ | with_reducible refine Cs.rd_itup ?_ | with_reducible refine Cs.rd_istr ?_ | with_reducible refine Cs.rd_strj ?_ | with_reducible refine Cs.rd_lc ?_ | with_reducible refine Cs.rd_for ?_
  | with_reducible refine Cs.rd_chain ?_
  | with_reducible refine Cs.rd_par ?_ | with_reducible refine Cs.rd_parj ?_ | with_reducible refine Cs.rd_aug rfl ?_ | with_reducible refine Cs.rd_ipi ?_
  | with_reducible refine Cs.rd_fld ?_ | with_reducible refine Cs.rd_sfld ?_ | with_reducible refine Cs.rd_meth ?_ | with_reducible refine Cs.rd_make ?_ | with_reducible refine Cs.rd_par3 ?_ | with_reducible refine Cs.rd_par3j ?_ | with_reducible refine Cs.rd_augS ?_ | with_reducible refine Cs.rd_daug ?_ | with_reducible refine Cs.rd_dget ?_ | with_reducible refine Cs.rd_dc ?_ | with_reducible refine Cs.rd_enumS ?_ | with_reducible refine Cs.rd_enum ?_))
namespace Cs
open PySem L2
open PyProof.Rows (envOfC)
/-! one own exception with fields: made, raised -/
def sp_init (C : Addr) (names : List Str) : Sp := fun vs H Q _ => ∃ (a : Addr) (ys : List V), vs = .ref a :: ys ∧ ys.length = names.length ∧ H a = some (exo a C none) ∧
  ∀ (dx : Addr) (H' : Hp), H dx = none → dx ≠ a → H' a = some (exo a C (some dx)) → H' dx = some (exd dx (names.zip ys).reverse) → (∀ b, b ≠ a → b ≠ dx → H' b = H b) → Q .non H'
theorem rd_ost {K : PySem.W.Frag} {f : Str} {to te : TE} {D : Ends} {σ : St} {H : Hp} (h : te σ H fun y H1 => to σ H1 fun x H2 => ∃ a C : Addr, x = .ref a ∧ OexC K C ∧ PySem.W.findIn K (.ref C) f = some none ∧
    ((H2 a = some (exo a C none) ∧ ∀ dx, H2 dx = none → dx ≠ a → D.nx σ (upd (upd H2 dx (exd dx [(f, y)])) a (exo a C (some dx)))) ∨ ∃ (dx : Addr) (fs : List (Str × V)), H2 a = some (exo a C (some dx)) ∧ H2 dx = some (exd dx fs) ∧ fs.length ≤ 900 ∧ D.nx σ (upd H2 dx (exd dx ((f, y) :: fs))))) : tOst K f to te D σ H := h
structure NewAt (P : Program) (w : World) (K : PySem.W.Frag) (mg : Str → Option Value) (base : Heap) (x : Str) (C : Addr) (names : List Str) : Prop where
  ex : ∃ (fI : Addr) (fd : FuncData) (ps : List Str), mg x = some (.ref C) ∧ OexC K C ∧ PySem.W.findIn K (.ref C) "__init__" = some (some (.ref fI)) ∧ PySem.W.typeIn K (.ref fI) = some (.type "function") ∧ FnOk P w K mg base CX0 1 fI fd ps (sp_init C names) ∧ Binds K fd ps []
/-- raise x(..) -/
def tRaiseN (C : Addr) (names : List Str) (W : WX) (ta : TA) : L2.TS := fun _ σ H => ta σ H fun ys H1 => ys.length = names.length ∧ ys.length ≤ 1000 ∧ ∀ (d : Addr) (H' : Hp), H1 d = none → Same H1 H' → H' d = some (.xd (names.zip ys).reverse) → W (.ref C) (some d) σ H'
theorem rd_raiseN {C : Addr} {names : List Str} {W : WX} {ta : TA} {D : Ends} {σ : St} {H : Hp} (h : ta σ H fun ys H1 => ys.length = names.length ∧ ys.length ≤ 1000 ∧ ∀ (d : Addr) (H' : Hp), H1 d = none → Same H1 H' → H' d = some (.xd (names.zip ys).reverse) → W (.ref C) (some d) σ H') : tRaiseN C names W ta D σ H := h
theorem ps_raiseN {X : Cx} {W : WX} {x : Str} {C : Addr} {names : List Str} {e : Expr} {es : List Expr} {ta : TA} {p pos pos2 : Pos} (hc : X.calm = true) (tk : Takes X W) (M : NewAt X.prog X.w X.K X.mg X.base x C names) (hr : Room 2 X.A) (ha : PA X (e :: es) ta) (mono : ∀ σ H R R', (∀ ys H1, R ys H1 → R' ys H1) → ta σ H R → ta σ H R')
    (hg : Gl X x := by rfl) (hdb : (x == ("__debug__" : Str)) = false := by decide)
    (he : starEach (e :: es) X.env = (false, eval e X.env) :: starEach es X.env := by rfl) (hpl : (backTo pos (starEach es X.env)).any (·.1) = false := by rfl) : PS X (.Raise (some (.Call (.Name x p) (e :: es) [] pos)) none pos2) (tRaiseN C names W ta) := by
  obtain ⟨fI, fd, ps, hm, hO, iC, tI, F1, hb⟩ := M.ex
  have base := ps_raise (pos := pos2) hc tk (pmk_oex (p := p) hO iC tI F1 hr hb .nil pass0 hg hm ha hdb he hpl)
  constructor
  intro pins s σ H D I h
  refine base.run pins s σ H D I ?_
  show tMkO C (sp_init C names) [] ta σ H _
  refine mono σ H _ _ (fun ys H1 q => ?_) h
  obtain ⟨l1, l2, k⟩ := q
  refine ⟨l2, fun a ha' => ?_⟩
  rw [List.append_nil]
  refine ⟨a, ys, rfl, l1, upd_same, fun dx H' n1 n2 ea ed keep => ?_⟩
  have nd : H1 dx = none := by rw [upd_ne n2] at n1; exact n1
  refine ⟨rfl, dx, _, ea, ed, nd, ?_⟩
  refine k dx _ nd (fun b o q => ?_) upd_same
  have b1 : b ≠ a := ne_of_none q ha'
  have b2 : b ≠ dx := ne_of_none q nd
  rw [upd_ne b2, del_ne b1, keep b b1 b2, upd_ne b1]; exact q

end Cs
namespace Cs
open PySem L2
open PyProof.Rows (envOfC)
/-! callees that may raise -/
structure CalX (P : Program) (w : World) (K : PySem.W.Frag) (mg : Str → Option Value) (base : Heap) (k : Nat) (x : Str) (ps : List Str) (sp : Sp) : Prop where
  ex : ∃ f fd, mg x = some (.ref f) ∧ PySem.W.keepIn K (.ref f) = true ∧ Binds K fd ps [] ∧ FnOk P w K mg base (L2.CX P w) k f fd ps sp
theorem At.okX {P : Program} {w : World} {K : PySem.W.Frag} {mg : Str → Option Value} {base : Heap} {x : Str} {st : Stmt} {N ps : List Str} {k : Nat} {sp : Sp} (F : At K mg x st ps) (S : FnScope N ps (defScope st)) (len : ∀ vs H Q E, sp vs H Q E → vs.length = ps.length)
    (hbody : ∀ (f : Addr) (cdv : Value) (A : Around) (outer : List Env) (s : Shared) (H : Hp) (vs : List V) (Q : VK) (E : XK), Room k (A.deeper (envOfC x (defScope st) s.heap.objs.size f cdv)) → sp vs H Q E →
      ∃ t, PSs (cxOf (L2.CX P w) P w K mg base N x (defScope st) f cdv A outer s H E) (defBody st) t ∧ t { nx := fun _ H' => Q .non H', rt := Q } (start N vs) H) : CalX P w K mg base (k + 1) x ps sp := by
  obtain ⟨f, fd, F, m, b⟩ := F.ex
  exact ⟨f, fd, m, F.kp, b, F.okX S len (hbody f)⟩
theorem pe_cX {X : Cx} {k : Nat} {x : Str} {ps : List Str} {sp : Sp} {p pos : Pos} {e : Expr} {es : List Expr} {t : TA} {W : WX} (C : CalX X.prog X.w X.K X.mg X.base k x ps sp) (hr : Room k X.A) (tk : Takes X W) (ha : PA X (e :: es) t) (hg : Gl X x := by rfl) (hdb : (x == ("__debug__" : Str)) = false := by decide)
    (he : starEach (e :: es) X.env = (false, eval e X.env) :: starEach es X.env := by rfl) (hpl : (backTo pos (starEach es X.env)).any (·.1) = false := by rfl) : PE X (.Call (.Name x p) (e :: es) [] pos) (tCallS sp (WE W) t) := by
  obtain ⟨f, fd, hm, hk, hb, F⟩ := C.ex
  exact pe_callS F hr hg hm hk hb (fun σ => passAt tk σ) ha hdb he hpl
theorem rd_callS {sp : Sp} {E : St → XK} {t : TA} {σ : St} {H : Hp} {Q : VK} (h : t σ H fun vs H1 => sp vs H1 Q (E σ)) : tCallS sp E t σ H Q := h
theorem monoE1 {ta : TE} (h : ∀ σ H R R', (∀ x H1, R x H1 → R' x H1) → ta σ H R → ta σ H R') : ∀ σ H (R R' : List V → Hp → Prop), (∀ ys H1, R ys H1 → R' ys H1) → tCons ta tNil σ H R → tCons ta tNil σ H R' := fun σ H R R' k q => h σ H _ _ (fun x H1 r => k _ _ r) q
theorem mono1 {i : Nat} : ∀ σ H (R R' : List V → Hp → Prop), (∀ ys H1, R ys H1 → R' ys H1) → tCons (tVar i) tNil σ H R → tCons (tVar i) tNil σ H R' := fun σ H R R' k q => by
  obtain ⟨v, e, q⟩ := q
  exact ⟨v, e, k _ _ q⟩

end Cs
namespace Cs
open PySem L2
open PyProof.Rows (envOfC)
/-! the one of several choices that stands at a place, or how far one of them goes -/
theorem cutS_at (t : List Nat) (a n : Nat) : cutS (S t) (some (a : Int)) (some ((a : Int) + (n : Nat))) = S ((t.drop a).take n) := by
  unfold cutS
  rw [show (a : Int) + (n : Nat) = ((a + n : Nat) : Int) by omega, HT.sIx_nat, HT.sIx_nat, S_len]
  show S _ = S _
  congr 1
  by_cases h : a ≤ t.length
  · rw [Nat.min_eq_left h]
    by_cases h2 : a + n ≤ t.length
    · rw [Nat.min_eq_left h2]; congr 1; omega
    · rw [Nat.min_eq_right (by omega), List.take_of_length_le (l := t.drop a) (by rw [List.length_drop]; exact Nat.le_refl _), List.take_of_length_le (by rw [List.length_drop]; omega)]
  · have h0 : ∀ k, t.length ≤ k → t.drop k = [] := fun k hk => List.drop_eq_nil_of_le hk
    rw [h0 a (by omega), h0 _ (by omega)]; simp
theorem cutS_from (t : List Nat) (a : Nat) : cutS (S t) (some (a : Int)) none = S (t.drop a) := by
  unfold cutS
  rw [HT.sIx_none, HT.sIx_nat, S_len]
  show S _ = S _
  congr 1
  by_cases h : a ≤ t.length
  · rw [Nat.min_eq_left h, List.take_of_length_le (by rw [List.length_drop]; exact Nat.le_refl _)]
  · have h0 : ∀ k, t.length ≤ k → t.drop k = [] := fun k hk => List.drop_eq_nil_of_le hk
    rw [h0 a (by omega), h0 _ (by omega)]; simp
abbrev sV (cs : List (List Nat)) : List V := cs.map fun c => V.str (S c)
theorem sV_get {cs : List (List Nat)} {i : Nat} {y : V} (h : (sV cs)[i]? = some y) : ∃ c, cs[i]? = some c ∧ y = .str (S c) := by
  rw [sV, List.getElem?_map] at h
  cases e : cs[i]? with
  | none => rw [e] at h; cases h
  | some c => rw [e] at h; cases h; exact ⟨c, rfl, rfl⟩
theorem stn_at {cs : List (List Nat)} {R c : List Nat} {i : Nat} (h : cs[i]? = some c) (hb : ∀ j d, j < i → cs[j]? = some d → R.take d.length ≠ d) (hc : R.take c.length = c) : stn cs R = some c := by
  unfold stn
  induction cs generalizing i with
  | nil => simp at h
  | cons x cs ih =>
    cases i with
    | zero =>
      have : x = c := by simpa using h
      subst this
      rw [List.find?_cons_of_pos (by simpa using hc)]
    | succ i =>
      have h0 := hb 0 x (by omega) rfl
      rw [List.find?_cons_of_neg (by simpa using h0)]
      exact ih (i := i) (by simpa using h) fun j d hj e => hb (j + 1) d (by omega) (by simpa using e)
theorem stn_no {cs : List (List Nat)} {R : List Nat} (hb : ∀ j d, j < cs.length → cs[j]? = some d → R.take d.length ≠ d) : stn cs R = none := by
  unfold stn
  refine List.find?_eq_none.mpr fun d hd => ?_
  obtain ⟨j, hj, e⟩ := List.mem_iff_getElem.mp hd
  have := hb j d hj (by rw [List.getElem?_eq_getElem hj, e])
  simpa using this
theorem far_max {cs : List (List Nat)} {R : List Nat} {m : Int} (hm : m ∈ (cs.map fun c => ((lcp R c : Nat) : Int))) (hall : ∀ y ∈ (cs.map fun c => ((lcp R c : Nat) : Int)), y ≤ m) : m = ((far cs R : Nat) : Int) := by
  obtain ⟨c, hc, rfl⟩ := List.mem_map.mp hm
  have h1 : lcp R c ≤ far cs R := le_foldr_max (List.mem_map_of_mem (f := lcp R) hc)
  have h2 : far cs R ≤ lcp R c := foldr_max_le fun x hx => by
    obtain ⟨d, hd, rfl⟩ := List.mem_map.mp hx
    have := hall _ (List.mem_map_of_mem (f := fun c => ((lcp R c : Nat) : Int)) hd)
    omega
  omega
def sp_expected (K : PySem.W.Frag) (CN : Addr) : Sp := fun vs H Q E => ∃ (T : List Nat) (a : Nat) (p : Addr) (cs : List (List Nat)), vs = [.str (S T), .int (a : Nat), .ref p] ∧ T.length ≤ 100000 ∧ a ≤ 200000 ∧ (SqL K H p (sV cs) ∨ SqT K H p (sV cs)) ∧ 0 < cs.length ∧ cs.length ≤ 100 ∧ (∀ c ∈ cs, c.length ≤ 100) ∧
  (∀ c, stn cs (T.drop a) = some c → Q (.str (S c)) H) ∧ (stn cs (T.drop a) = none → ∀ (d : Addr) H', H d = none → Same H H' → H' d = some (.xd [("index", .int ((a + far cs (T.drop a) : Nat) : Int))]) → E (.ref CN) (some d) H')
theorem use_expected {K : PySem.W.Frag} {CN : Addr} {T : List Nat} {a : Nat} {p : Addr} {cs : List (List Nat)} {H : Hp} {Q : VK} {E : XK} (hT : T.length ≤ 100000) (ha : a ≤ 200000) (hs : SqL K H p (sV cs) ∨ SqT K H p (sV cs)) (h0 : 0 < cs.length) (h1 : cs.length ≤ 100) (h2 : ∀ c ∈ cs, c.length ≤ 100)
    (k : ∀ c, stn cs (T.drop a) = some c → Q (.str (S c)) H) (ke : stn cs (T.drop a) = none → ∀ (d : Addr) H', H d = none → Same H H' → H' d = some (.xd [("index", .int ((a + far cs (T.drop a) : Nat) : Int))]) → E (.ref CN) (some d) H') : sp_expected K CN [.str (S T), .int (a : Nat), .ref p] H Q E := ⟨T, a, p, cs, rfl, hT, ha, hs, h0, h1, h2, k, ke⟩
theorem monoExp {i : Nat} {wi : TI} {g : TG} {tt : TT} {te : TE} {vs : List Nat} {r : List V → Hp → VK → Prop} {r2 : R2} (hr2 : ∀ x y H (Q Q' : VK), (∀ v H1, Q v H1 → Q' v H1) → r2 x y H Q → r2 x y H Q') (hr : ∀ xs H (Q Q' : VK), (∀ v H1, Q v H1 → Q' v H1) → r xs H Q → r xs H Q')
    (hw : ∀ σ H (R R' : It → Hp → Prop), (∀ J H1, R J H1 → R' J H1) → wi σ H R → wi σ H R') :
    ∀ σ H (R R' : List V → Hp → Prop), (∀ ys H1, R ys H1 → R' ys H1) → tCons (tOp r2 (tVar i) (tCB r (tCons (tLc wi g tt te vs) tNil))) tNil σ H R → tCons (tOp r2 (tVar i) (tCB r (tCons (tLc wi g tt te vs) tNil))) tNil σ H R' := fun σ H R R' k q => by
  obtain ⟨v, e, q⟩ := q
  refine ⟨v, e, ?_⟩
  refine hw σ H _ _ (fun J H1 z D hD => ?_) q
  obtain ⟨W, w0, ws⟩ := z D hD
  refine ⟨W, w0, fun n m H2 h => ?_⟩
  rcases ws n m H2 h with ⟨a, b⟩ | b
  · exact .inl ⟨a, hr _ _ _ _ (fun v H3 c => hr2 _ _ _ _ _ (fun v2 H4 d => k _ _ d) c) b⟩
  · exact .inr b
theorem monoI0 {g : Int → Int → V} : ∀ x y H (Q Q' : VK), (∀ v H1, Q v H1 → Q' v H1) → rI0 g x y H Q → rI0 g x y H Q' := fun _ _ _ _ _ hk q => by
  obtain ⟨a, b, e1, e2, q⟩ := q
  exact ⟨a, b, e1, e2, hk _ _ q⟩
theorem monoMax {K : PySem.W.Frag} : ∀ xs H (Q Q' : VK), (∀ v H1, Q v H1 → Q' v H1) → rMax K xs H Q → rMax K xs H Q' := fun _ _ _ _ hk q => by
  obtain ⟨a, ns, e1, e2, e3, q⟩ := q
  exact ⟨a, ns, e1, e2, e3, fun m h1 h2 => hk _ _ (q m h1 h2)⟩
theorem monoIL {K : PySem.W.Frag} {i : Nat} : ∀ σ H (R R' : It → Hp → Prop), (∀ J H1, R J H1 → R' J H1) → iList K (tVar i) σ H R → iList K (tVar i) σ H R' := fun _ _ _ _ hk q => by
  obtain ⟨v, e, a, e1, e2, q⟩ := q
  exact ⟨v, e, a, e1, e2, hk _ _ q⟩
theorem monoIT {K : PySem.W.Frag} {i : Nat} : ∀ σ H (R R' : It → Hp → Prop), (∀ J H1, R J H1 → R' J H1) → iTup K (tVar i) σ H R → iTup K (tVar i) σ H R' := fun _ _ _ _ hk q => by
  obtain ⟨v, e, a, e1, e2, q⟩ := q
  exact ⟨v, e, a, e1, e2, hk _ _ q⟩
theorem cr_maxK {X : Cx} {K : PySem.W.Frag} (h : X.K = K) (hc : X.calm = true) : CallR X (.builtin "max") (rMax K) := by subst h; exact cr_max hc
section
variable {P : Program} {w : World} {K : PySem.W.Frag} {mg : Str → Option Value} {base : Heap}
theorem ok_expected (B : Blt mg) {CN : Addr} (N_InvalidNotation : NewAt P w K mg base "InvalidNotation" CN ["index"]) (G__shared : Cal P w K mg base 1 "_shared" ["one", "other"] sp_shared) (F : At K mg "_expected" s__expected ["text", "at", "choices"]) : CalX P w K mg base 3 "_expected" ["text", "at", "choices"] (sp_expected K CN) := by
  refine F.okX (k := 2) sc__expected (fun vs H Q E h => ?_) (fun f cdv A outer s H vs Q E hr h => ?_)
  · obtain ⟨T, a, p, cs, rfl, _⟩ := h
    rfl
  · obtain ⟨T, a, p, cs, rfl, hT, ha, hseq, h0, h1, h2, k, ke⟩ := h
    have zT : T.length ≤ sizeLine := by rw [PySem.sizeLine_eq]; omega
    rcases hseq with hs | hs
    · refine ⟨_, (pss_cons (ps_for (passes_of rfl) rfl (pi_listK (K := K) (by rfl) (pv 2)) (pg_name (i := 3) sc__expected.nd rfl (Or.inl rfl))
    (pss_one (ps_if (pt_cmpR op_eq (pe_slice sl_str (pv 0) (po_some (pv 1)) (po_some (pe_op op_add (pv 1) (pe_callB call_len_str (by rfl) B.len PySem.boot_len (pa_cons (pv 3) pa_nil))))) (pv 3) (nomark _))
    (pss_one (ps_ret (pv 3)))
    pss_nil)))
    (pss_one (ps_raiseN rfl (takes_of rfl rfl rfl rfl) N_InvalidNotation (hr.mono (by first | decide | omega)) (pa_cons (pe_op op_add (pv 1) (pe_callB (cr_maxK (K := K) (by rfl) rfl) (by rfl) B.max (by decide +kernel) (pa_cons (pe_lc (own := [("choice", 3)]) rfl sc__expected.nd (pi_listK (K := K) (by rfl) (pv 2)) (blkOk_by (N := ["text", "at", "choices", "choice"]) (sc := defScope s__expected) (by decide +kernel)) (fun _ _ _ _ _ => (pg_name (i := 3) sc__expected.nd rfl (Or.inl rfl))) (fun _ _ _ _ _ => pts_nil) (fun _ _ _ _ _ => (pe_c G__shared (hr.mono (by first | decide | omega)) (pa_cons (pe_slice sl_str (pv 0) (po_some (pv 1)) po_none) (pa_cons (pv 3) pa_nil))))) pa_nil))) pa_nil) (monoExp monoI0 monoMax monoIL)))), ?_⟩
      walk_at "go"
      refine ⟨p, rfl, ⟨_, hs⟩, ?_⟩
      refine for_list (K := K) (a := p) (xs := sV cs) (fun i σ H' => ∃ x3 : Option V, σ = [some (.str (S T)), some (.int (a : Nat)), some (.ref p), x3] ∧ H' = H ∧ ∀ j d, j < i → cs[j]? = some d → (T.drop a).take d.length ≠ d) ?_ ?_ ?_ ?_
      · exact ⟨_, rfl, rfl, fun j d hj => by omega⟩
      · rintro i σ H' _ ⟨_, _, rfl, _⟩
        exact hs
      · rintro i y σ H' hi ⟨x3, rfl, rfl, hb⟩
        obtain ⟨c, hc, rfl⟩ := sV_get hi
        have lc := h2 c (List.mem_of_getElem? hc)
        walk_at "go"
        refine ⟨S c, rfl, by rw [S_len, PySem.sizeLine_eq]; omega, ?_⟩
        rw [S_len]
        walk_at "go"
        refine rd_sls (by rw [S_len]; exact zT) ?_
        rw [cutS_at]
        walk_at "go"
        refine ite2 (fun z => ?_) (fun z => ?_)
        · have z : (T.drop a).take c.length = c := by simpa [S] using z
          walk_at "go"
          exact k c (stn_at hc hb z)
        · have z : (T.drop a).take c.length ≠ c := by simpa [S] using z
          walk_at "go"
          refine ⟨_, rfl, rfl, fun j d hj e => ?_⟩
          by_cases q : j = i
          · subst q; rw [hc] at e; cases e; exact z
          · exact hb j d (by omega) e
      · rintro σ H' ⟨x3, rfl, rfl, hb⟩
        have hn : stn cs (T.drop a) = none := stn_no fun j d hj e => hb j d (by rw [List.length_map]; exact hj) e
        with_reducible refine rd_raiseN ?_
        walk_at "go"
        refine ⟨p, rfl, ⟨_, hs⟩, ?_⟩
        intro D hD
        refine lc_list (xs := sV cs) (fun i H2 => H2 D = some (.lst (((cs.take i).map fun c => ((lcp (T.drop a) c : Nat) : Int)).map V.int)) ∧ Same H' H2) ⟨upd_same, Same.lay hD⟩ (fun i H2 _ z => L2.Same.seq z.2 hs) ?_ ?_
        · rintro i y H2 hi ⟨eD, sm⟩
          obtain ⟨c, hc, rfl⟩ := sV_get hi
          have lc := h2 c (List.mem_of_getElem? hc)
          walk_at "go"
          refine ⟨rfl, ?_⟩
          walk_at "go"
          refine rd_sls (by rw [S_len]; exact zT) ?_
          rw [cutS_from]
          walk_at "go"
          refine ⟨T.drop a, c, rfl, by rw [List.length_drop]; omega, by omega, ?_⟩
          refine ⟨_, eD, by rw [List.length_map, List.length_map, List.length_take, PySem.sizeLine_eq]; omega, ?_, Same.lay2 sm hD⟩
          rw [upd_same, map_snoc _ hc, List.map_append]; rfl
        · rintro H2 ⟨eD, sm⟩
          rw [List.length_map, List.take_length] at eD
          walk_at "go"
          refine ⟨D, _, rfl, SqL.of eD, by rw [List.length_map]; exact h0, fun m hm hall => ?_⟩
          rw [far_max hm hall]
          walk_at "go"
          refine ⟨rfl, by show 1 ≤ 1000; decide, fun d H3 n2 s3 ed => ?_⟩
          exact ke hn d H3 (L2.Same.free sm n2) (L2.Same.trans sm s3) ed
    · refine ⟨_, (pss_cons (ps_for (passes_of rfl) rfl (pi_tupK (K := K) (by rfl) (pv 2)) (pg_name (i := 3) sc__expected.nd rfl (Or.inl rfl))
    (pss_one (ps_if (pt_cmpR op_eq (pe_slice sl_str (pv 0) (po_some (pv 1)) (po_some (pe_op op_add (pv 1) (pe_callB call_len_str (by rfl) B.len PySem.boot_len (pa_cons (pv 3) pa_nil))))) (pv 3) (nomark _))
    (pss_one (ps_ret (pv 3)))
    pss_nil)))
    (pss_one (ps_raiseN rfl (takes_of rfl rfl rfl rfl) N_InvalidNotation (hr.mono (by first | decide | omega)) (pa_cons (pe_op op_add (pv 1) (pe_callB (cr_maxK (K := K) (by rfl) rfl) (by rfl) B.max (by decide +kernel) (pa_cons (pe_lc (own := [("choice", 3)]) rfl sc__expected.nd (pi_tupK (K := K) (by rfl) (pv 2)) (blkOk_by (N := ["text", "at", "choices", "choice"]) (sc := defScope s__expected) (by decide +kernel)) (fun _ _ _ _ _ => (pg_name (i := 3) sc__expected.nd rfl (Or.inl rfl))) (fun _ _ _ _ _ => pts_nil) (fun _ _ _ _ _ => (pe_c G__shared (hr.mono (by first | decide | omega)) (pa_cons (pe_slice sl_str (pv 0) (po_some (pv 1)) po_none) (pa_cons (pv 3) pa_nil))))) pa_nil))) pa_nil) (monoExp monoI0 monoMax monoIT)))), ?_⟩
      walk_at "go"
      refine ⟨p, rfl, ⟨_, hs⟩, ?_⟩
      refine for_tup (K := K) (a := p) (xs := sV cs) (fun i σ H' => ∃ x3 : Option V, σ = [some (.str (S T)), some (.int (a : Nat)), some (.ref p), x3] ∧ H' = H ∧ ∀ j d, j < i → cs[j]? = some d → (T.drop a).take d.length ≠ d) ?_ ?_ ?_ ?_
      · exact ⟨_, rfl, rfl, fun j d hj => by omega⟩
      · rintro i σ H' _ ⟨_, _, rfl, _⟩
        exact hs
      · rintro i y σ H' hi ⟨x3, rfl, rfl, hb⟩
        obtain ⟨c, hc, rfl⟩ := sV_get hi
        have lc := h2 c (List.mem_of_getElem? hc)
        walk_at "go"
        refine ⟨S c, rfl, by rw [S_len, PySem.sizeLine_eq]; omega, ?_⟩
        rw [S_len]
        walk_at "go"
        refine rd_sls (by rw [S_len]; exact zT) ?_
        rw [cutS_at]
        walk_at "go"
        refine ite2 (fun z => ?_) (fun z => ?_)
        · have z : (T.drop a).take c.length = c := by simpa [S] using z
          walk_at "go"
          exact k c (stn_at hc hb z)
        · have z : (T.drop a).take c.length ≠ c := by simpa [S] using z
          walk_at "go"
          refine ⟨_, rfl, rfl, fun j d hj e => ?_⟩
          by_cases q : j = i
          · subst q; rw [hc] at e; cases e; exact z
          · exact hb j d (by omega) e
      · rintro σ H' ⟨x3, rfl, rfl, hb⟩
        have hn : stn cs (T.drop a) = none := stn_no fun j d hj e => hb j d (by rw [List.length_map]; exact hj) e
        with_reducible refine rd_raiseN ?_
        walk_at "go"
        refine ⟨p, rfl, ⟨_, hs⟩, ?_⟩
        intro D hD
        refine lc_tup (xs := sV cs) (fun i H2 => H2 D = some (.lst (((cs.take i).map fun c => ((lcp (T.drop a) c : Nat) : Int)).map V.int)) ∧ Same H' H2) ⟨upd_same, Same.lay hD⟩ (fun i H2 _ z => Same.seqT z.2 hs) ?_ ?_
        · rintro i y H2 hi ⟨eD, sm⟩
          obtain ⟨c, hc, rfl⟩ := sV_get hi
          have lc := h2 c (List.mem_of_getElem? hc)
          walk_at "go"
          refine ⟨rfl, ?_⟩
          walk_at "go"
          refine rd_sls (by rw [S_len]; exact zT) ?_
          rw [cutS_from]
          walk_at "go"
          refine ⟨T.drop a, c, rfl, by rw [List.length_drop]; omega, by omega, ?_⟩
          refine ⟨_, eD, by rw [List.length_map, List.length_map, List.length_take, PySem.sizeLine_eq]; omega, ?_, Same.lay2 sm hD⟩
          rw [upd_same, map_snoc _ hc, List.map_append]; rfl
        · rintro H2 ⟨eD, sm⟩
          rw [List.length_map, List.take_length] at eD
          walk_at "go"
          refine ⟨D, _, rfl, SqL.of eD, by rw [List.length_map]; exact h0, fun m hm hall => ?_⟩
          rw [far_max hm hall]
          walk_at "go"
          refine ⟨rfl, by show 1 ≤ 1000; decide, fun d H3 n2 s3 ed => ?_⟩
          exact ke hn d H3 (L2.Same.free sm n2) (L2.Same.trans sm s3) ed
end

end Cs
namespace Cs
open PySem L2
open PyProof.Rows (envOfC)
/-! a set as it is read -/
theorem cutS_to (t : List Nat) (a b : Nat) (h : a ≤ b) : cutS (S t) (some (a : Int)) (some (b : Int)) = S ((t.drop a).take (b - a)) := by
  rw [show (b : Int) = (a : Int) + ((b - a : Nat) : Int) by omega, cutS_at]
theorem setLen_le : ∀ (R al : List Nat), setLen al R ≤ R.length
  | [], al => by simp [setLen]
  | c :: R, al => by
    unfold setLen
    split
    · have := setLen_le R (al.drop (al.idxOf c + 1))
      rw [List.length_cons]; omega
    · omega
theorem part_c {al : List Nat} {c : Nat} (h : c ∈ al) : Txt.partition (S al) (S [c]) = (S (al.take (al.idxOf c)), S [c], S (al.drop (al.idxOf c + 1))) := by
  have hi := List.idxOf_lt_length_of_mem h
  have e : S al = S (al.take (al.idxOf c)) ++ S [c] ++ S (al.drop (al.idxOf c + 1)) := by
    have e1 : al = al.take (al.idxOf c) ++ ([c] ++ al.drop (al.idxOf c + 1)) := by
      have e2 : al.drop (al.idxOf c) = c :: al.drop (al.idxOf c + 1) := by
        rw [List.drop_eq_getElem_cons hi]
        congr 1
        exact List.getElem_idxOf hi
      have := List.take_append_drop (al.idxOf c) al
      rw [e2] at this
      exact this.symm
    have e3 : ∀ x y : List Nat, S x ++ S y = S (x ++ y) := fun x y => by
      show Str.mk (x.toArray ++ y.toArray) = _
      simp
    rw [e3, e3, List.append_assoc, ← e1]
  rw [e]
  refine TL.partition_app (s := c) (S := []) rfl ?_
  show c ∉ al.take (al.idxOf c)
  intro z
  obtain ⟨j, hj, ej⟩ := List.mem_iff_getElem.mp z
  rw [List.length_take] at hj
  rw [List.getElem_take] at ej
  have := List.not_of_lt_findIdx (p := (· == c)) (xs := al) (i := j) (by show j < al.idxOf c; omega)
  simp [ej] at this
def sp_rset (CN : Addr) : Sp := fun vs H Q E => ∃ (al T : List Nat) (a : Nat), vs = [.str (S al), .str (S T), .int (a : Nat)] ∧ al.length ≤ 1000 ∧ T.length ≤ 100000 ∧ a ≤ T.length ∧
  (∀ d e, rdSet al T a = .ok (d, e) → ∀ (t : Addr) (v : V) (H' : Hp), H t = none → Same H H' → H' t = some (.tup [v, .int (e : Nat)]) → Tp H' v d → Q (.ref t) H') ∧
  (∀ n, rdSet al T a = .error n → ∀ (d : Addr) H', H d = none → Same H H' → H' d = some (.xd [("index", .int (n : Nat))]) → E (.ref CN) (some d) H')
theorem use_rset {CN : Addr} {al T : List Nat} {a : Nat} {H : Hp} {Q : VK} {E : XK} (hA : al.length ≤ 1000) (hT : T.length ≤ 100000) (ha : a ≤ T.length)
    (k : ∀ d e, rdSet al T a = .ok (d, e) → ∀ (t : Addr) (v : V) (H' : Hp), H t = none → Same H H' → H' t = some (.tup [v, .int (e : Nat)]) → Tp H' v d → Q (.ref t) H')
    (ke : ∀ n, rdSet al T a = .error n → ∀ (d : Addr) H', H d = none → Same H H' → H' d = some (.xd [("index", .int (n : Nat))]) → E (.ref CN) (some d) H') : sp_rset CN [.str (S al), .str (S T), .int (a : Nat)] H Q E := ⟨al, T, a, rfl, hA, hT, ha, k, ke⟩
section
variable {P : Program} {w : World} {K : PySem.W.Frag} {mg : Str → Option Value} {base : Heap}
theorem ok_rset (B : Blt mg) {CN : Addr} (G__expected : CalX P w K mg base 3 "_expected" ["text", "at", "choices"] (sp_expected K CN)) (F : At K mg "_read_set" s__read_set ["alphabet", "text", "at"]) : CalX P w K mg base 4 "_read_set" ["alphabet", "text", "at"] (sp_rset CN) := by
  refine F.okX (k := 3) sc__read_set (fun vs H Q E h => ?_) (fun f cdv A outer s H vs Q E hr h => ?_)
  · obtain ⟨al, T, a, rfl, _⟩ := h
    rfl
  · obtain ⟨al, T, a, rfl, hA, hT, ha, k, ke⟩ := h
    have zT : T.length ≤ sizeLine := by rw [PySem.sizeLine_eq]; omega
    have hn := setLen_le (T.drop a) al
    rw [List.length_drop] at hn
    refine ⟨_, (pss_cons (ps_set (i := 3) sc__read_set.nd rfl (Or.inl rfl) (pv 2))
    (pss_cons (ps_set (i := 4) sc__read_set.nd rfl (Or.inl rfl) (pv 0))
    (pss_cons (ps_while (passes_of rfl) (PW.pt (pw_and (pt_cmpR op_lt (pv 3) (pe_callB call_len_str (by rfl) B.len PySem.boot_len (pa_cons (pv 1) pa_nil)) (nomark _)) (pw_and1 (pt_cmpR op_in_sign (pe_ix ix_str (pv 1) (pv 3) (fun _ _ => rfl)) (pv 4) rfl))))
    (pss_cons (ps_asg (pe_m1 PySem.F.slot_str_partition PySem.F.type_str_partition mt_partition (pv 4) (pe_ix ix_str (pv 1) (pv 3) (fun _ _ => rfl))) (pg_tupK (n := 3) (K := K) (by rfl) (by rfl) (pgs_cons (pg_name (i := 5) sc__read_set.nd rfl (Or.inl rfl)) (pgs_cons (pg_name (i := 5) sc__read_set.nd rfl (Or.inl rfl)) (pgs_cons (pg_name (i := 4) sc__read_set.nd rfl (Or.inl rfl)) pgs_nil)))))
    (pss_one (ps_aug (i := 3) sc__read_set.nd rfl (Or.inl rfl) pe_int ip_add))))
    (pss_one (ps_ret (pe_tup (pa_cons (pe_tup (pa_cons pe_str (pa_cons (pe_slice sl_str (pv 1) (po_some (pv 2)) (po_some (pv 3))) pa_nil))) (pa_cons (pe_op op_add (pv 3) (pe_callB call_len_str (by rfl) B.len PySem.boot_len (pa_cons (pe_cX G__expected (hr.mono (by first | decide | omega)) (takes_of rfl rfl rfl rfl) (pa_cons (pv 1) (pa_cons (pv 3) (pa_cons (pe_tup (pa_cons pe_str pa_nil)) pa_nil)))) pa_nil))) pa_nil)))))))), ?_⟩
    walk_at "go"
    refine rd_cutW (t := tWhile _ _) (fun σ' H' => ∃ (am : Str) (x5 : Option V), σ' = [some (.str (S al)), some (.str (S T)), some (.int (a : Nat)), some (.int ((a + setLen al (T.drop a) : Nat) : Int)), some (.str am), x5] ∧ Same H H') (fun nx fin => ?_) ?_
    · refine rd_whileI (m0 := T.length - a) (fun r σ H' => ∃ (m : Nat) (am : List Nat) (x5 : Option V), σ = [some (.str (S al)), some (.str (S T)), some (.int (a : Nat)), some (.int ((a + m : Nat) : Int)), some (.str (S am)), x5] ∧ Same H H' ∧ am.length ≤ 1000 ∧ a + m ≤ T.length ∧ m + setLen am (T.drop (a + m)) = setLen al (T.drop a) ∧ r = T.length - (a + m)) ⟨0, al, _, rfl, Same.refl _, hA, by omega, by simp, rfl⟩ ?_
      rintro r σ H1 ⟨m, am, x5, rfl, sm, hm, hle, hset, rfl⟩
      have done : setLen am (T.drop (a + m)) = 0 → nx [some (.str (S al)), some (.str (S T)), some (.int (a : Nat)), some (.int ((a + m : Nat) : Int)), some (.str (S am)), x5] H1 := fun z => by
        rw [z, Nat.add_zero] at hset
        exact fin _ _ ⟨S am, x5, by rw [hset], sm⟩
      walk_at "go"
      refine ⟨S T, rfl, by rw [S_len]; exact zT, ?_⟩
      rw [S_len]
      walk_at "go"
      refine ite2 (fun z1 => ?_) (fun z1 => ?_)
      · have z1 : a + m < T.length := by have := of_decide_eq_true z1; omega
        have ed := drop_get z1
        walk_at "go"
        refine rd_ixs zT rfl (List.getElem?_eq_getElem z1) ?_
        walk_at "go"
        refine ⟨T[a + m], S am, rfl, rfl, ?_⟩
        walk_at "go"
        refine ite2 (fun z2 => ?_) (fun z2 => ?_)
        · have z2 : T[a + m] ∈ am := by simpa [S] using z2
          refine ⟨_, fun σ' H' z => z, ?_⟩
          walk_at "go"
          refine rd_ixs zT rfl (List.getElem?_eq_getElem z1) ?_
          walk_at "go"
          refine ⟨S am, S [T[a + m]], rfl, rfl, rfl, by rw [S_len, PySem.sizeLine_eq]; omega, ?_⟩
          rw [part_c z2]
          intro q hq
          have s2 : Same H1 (upd H1 q (.tup [.str (S (am.take (am.idxOf T[a + m]))), .str (S [T[a + m]]), .str (S (am.drop (am.idxOf T[a + m] + 1)))])) := Same.lay hq
          refine rd_gtup (SqT.of upd_same) rfl ?_
          walk_at "go"
          refine ⟨T.length - (a + (m + 1)), by omega, m + 1, am.drop (am.idxOf T[a + m] + 1), _, rfl, L2.Same.trans sm s2, by rw [List.length_drop]; omega, by omega, ?_, rfl⟩
          rw [ed, setLen, if_pos z2] at hset
          rw [show a + (m + 1) = a + m + 1 by omega]; omega
        · have z2 : T[a + m] ∉ am := fun z => z2 (by simpa [S] using z)
          walk_at "go"
          exact done (by rw [ed, setLen, if_neg z2])
      · have z1 : T.length ≤ a + m := by
          have : ¬ ((a + m : Nat) : Int) < (T.length : Int) := fun z => z1 (decide_eq_true z)
          omega
        refine iteF ?_
        walk_at "go"
        exact done (by rw [List.drop_eq_nil_of_le z1, setLen])
    · rintro σ1 H1 ⟨am, x5, rfl, sm⟩
      obtain ⟨n, hn'⟩ : ∃ n, n = setLen al (T.drop a) := ⟨_, rfl⟩
      rw [← hn'] at hn ⊢
      walk_at "go"
      refine rd_sls (by rw [S_len]; exact zT) ?_
      rw [cutS_to _ _ _ (by omega)]
      walk_at "go"
      refine ⟨by show 2 ≤ sizeLine; decide, rd_new fun q H2 hq eq s2 => ?_⟩
      walk_at "go"
      with_reducible refine rd_callS ?_
      walk_at "go"
      refine ⟨by show 1 ≤ sizeLine; decide, rd_new fun q3 H3 hq3 eq3 s3 => ?_⟩
      walk_at "go"
      have s13 := L2.Same.trans sm (L2.Same.trans s2 s3)
      refine use_expected (cs := [[93]]) (by omega) (by omega) (.inr (SqT.of eq3)) (by decide) (by decide) (by intro c hc; simp at hc; subst hc; decide) (fun c hc => ?_) fun hc d H4 n4 s4 e4 => ?_
      · have er : rdSet al T a = .ok (dSet ((T.drop a).take n), a + n + c.length) := by
          unfold rdSet
          show (match stn [[93]] (T.drop (a + setLen al (T.drop a))) with | none => Except.error (a + setLen al (T.drop a) + far [[93]] (T.drop (a + setLen al (T.drop a)))) | some c => Except.ok (dSet ((T.drop a).take (setLen al (T.drop a))), a + setLen al (T.drop a) + c.length)) = _
          rw [← hn', hc]
        have lc : c.length ≤ 1 := by
          have := List.mem_of_find?_eq_some hc
          simp at this; subst this; decide
        walk_at "go"
        refine ⟨S c, rfl, by rw [S_len, PySem.sizeLine_eq]; omega, ?_⟩
        rw [S_len]
        walk_at "go"
        refine ⟨by show 2 ≤ sizeLine; decide, rd_new fun q4 H4 hq4 eq4 s4 => ?_⟩
        walk_at "go"
        refine k _ _ er q4 (.ref q) H4 (L2.Same.free s13 hq4) (L2.Same.trans s13 s4) ?_ ?_
        · rw [eq4]
          have : ((a + n : Nat) : Int) + ((c.length : Nat) : Int) = ((a + n + c.length : Nat) : Int) := by omega
          rw [this]
        · refine .tup (s4 _ _ (s3 _ _ eq)) ?_
          have : a + n - a = n := by omega
          rw [this]
          exact .cons (.str _) (.cons (.str _) .nil)
      · have er : rdSet al T a = .error (a + n + far [[93]] (T.drop (a + n))) := by
          unfold rdSet
          show (match stn [[93]] (T.drop (a + setLen al (T.drop a))) with | none => Except.error (a + setLen al (T.drop a) + far [[93]] (T.drop (a + setLen al (T.drop a)))) | some c => Except.ok (dSet ((T.drop a).take (setLen al (T.drop a))), a + setLen al (T.drop a) + c.length)) = _
          rw [← hn', hc]
        exact ke _ er d H4 (L2.Same.free s13 n4) (L2.Same.trans s13 s4) e4
end

end Cs
namespace Cs
open PySem L2
open PyProof.Rows (envOfC)
/-! the two numbers of an again as they are read -/
theorem idx_first {α : Type} [BEq α] [LawfulBEq α] {l : List α} {x : α} (h : x ∈ l) : l[l.idxOf x]? = some x ∧ ∀ m z, m < l.idxOf x → l[m]? = some z → z ≠ x := by
  have hi := List.idxOf_lt_length_of_mem h
  refine ⟨by rw [List.getElem?_eq_getElem hi, List.getElem_idxOf hi], fun m z hm e q => ?_⟩
  have hl : m < l.length := by omega
  rw [List.getElem?_eq_getElem hl] at e
  have := List.not_of_lt_findIdx (p := (· == x)) (xs := l) (i := m) (by show m < l.idxOf x; exact hm)
  cases e
  simp [q] at this
theorem str_num {i : Int} (h0 : 0 ≤ i) (h4 : i ≤ 4) : Str.ofString (toString i) = S [48 + i.toNat] := by
  rcases (by omega : i = 0 ∨ i = 1 ∨ i = 2 ∨ i = 3 ∨ i = 4) with rfl | rfl | rfl | rfl | rfl <;> decide +kernel
theorem log_num {i : Int} (h0 : 0 ≤ i) (h4 : i ≤ 4) : i.natAbs.log2 < 1920 := by
  rcases (by omega : i = 0 ∨ i = 1 ∨ i = 2 ∨ i = 3 ∨ i = 4) with rfl | rfl | rfl | rfl | rfl <;> decide +kernel
theorem int_num {k : Nat} (h : k ≤ 4) : PySem.intText? (S [48 + k]) = some (k : Int) := by
  rcases (by omega : k = 0 ∨ k = 1 ∨ k = 2 ∨ k = 3 ∨ k = 4) with rfl | rfl | rfl | rfl | rfl <;> decide +kernel
theorem high_mem {l : Nat} {c : List Nat} (h : c ∈ highsL l) : c = [42, 41] ∨ ∃ k : Nat, k ≤ 4 ∧ c = [48 + k, 41] := by
  unfold highsL at h
  rcases List.mem_cons.mp h with h | h
  · exact .inl h
  · obtain ⟨i, hi, rfl⟩ := List.mem_map.mp h
    rw [List.mem_range] at hi
    exact .inr ⟨l + i, by omega, rfl⟩
theorem low_mem {c : List Nat} (h : c ∈ lowsL) : c.length = 3 ∧ lowsL.idxOf c ≤ 4 := by
  refine ⟨?_, ?_⟩
  · revert h; revert c; decide
  · have := List.idxOf_lt_length_of_mem h
    have e : lowsL.length = 5 := rfl
    omega
theorem rd_catL {a b : Addr} {xs ys : List V} {H : Hp} {Q : VK} (h1 : H a = some (.lst xs)) (h2 : H b = some (.lst ys)) (h3 : xs.length + ys.length ≤ sizeLine) (k : New H (.lst (xs ++ ys)) fun p H2 => Q (.ref p) H2) : rCat (.ref a) (.ref b) H Q := ⟨a, b, xs, ys, rfl, rfl, h1, h2, h3, k⟩
theorem star_S : Str.ofString "*)" = S [42, 41] := by decide +kernel
def sp_rnums (CN : Addr) : Sp := fun vs H Q E => ∃ (T : List Nat) (a : Nat), vs = [.str (S T), .int (a : Nat)] ∧ T.length ≤ 100000 ∧ a ≤ 100000 ∧
  (∀ l h e, rdNums T a = .ok (l, h, e) → ∀ (t : Addr) (v : V) (H' : Hp), H t = none → Same H H' → H' t = some (.tup [.int (l : Nat), v, .int (e : Nat)]) → (∀ H2, Tp H2 v h) → Q (.ref t) H') ∧
  (∀ n, rdNums T a = .error n → ∀ (d : Addr) H', H d = none → Same H H' → H' d = some (.xd [("index", .int (n : Nat))]) → E (.ref CN) (some d) H')
theorem use_rnums {CN : Addr} {T : List Nat} {a : Nat} {H : Hp} {Q : VK} {E : XK} (hT : T.length ≤ 100000) (ha : a ≤ 100000)
    (k : ∀ l h e, rdNums T a = .ok (l, h, e) → ∀ (t : Addr) (v : V) (H' : Hp), H t = none → Same H H' → H' t = some (.tup [.int (l : Nat), v, .int (e : Nat)]) → (∀ H2, Tp H2 v h) → Q (.ref t) H')
    (ke : ∀ n, rdNums T a = .error n → ∀ (d : Addr) H', H d = none → Same H H' → H' d = some (.xd [("index", .int (n : Nat))]) → E (.ref CN) (some d) H') : sp_rnums CN [.str (S T), .int (a : Nat)] H Q E := ⟨T, a, rfl, hT, ha, k, ke⟩
section
variable {P : Program} {w : World} {K : PySem.W.Frag} {mg : Str → Option Value} {base : Heap}
theorem ok_rnums (B : Blt mg) (T : PatK mg) {CN : Addr} (G__expected : CalX P w K mg base 3 "_expected" ["text", "at", "choices"] (sp_expected K CN)) (F : At K mg "_read_numbers" s__read_numbers ["text", "at"]) : CalX P w K mg base 4 "_read_numbers" ["text", "at"] (sp_rnums CN) := by
  refine F.okX (k := 3) sc__read_numbers (fun vs H Q E h => ?_) (fun f cdv A outer s H vs Q E hr h => ?_)
  · obtain ⟨T, a, rfl, _⟩ := h
    rfl
  · obtain ⟨Tx, a, rfl, hT, ha, k, ke⟩ := h
    refine ⟨_, (pss_cons (ps_setLc (i := 2) (own := [("low", 3)]) rfl sc__read_numbers.nd rfl rfl (sw_true rfl rfl rfl (by decide +kernel)) (pi_range1 (by rfl) B.range (pa_cons (pe_op op_add (pe_k T.c_MOST_REPEATS) pe_int) pa_nil)) (blkOk_by (N := ["text", "at", "lows", "low", "highs", "high"]) (sc := defScope s__read_numbers) (by decide +kernel)) (fun _ _ _ _ _ => (pg_name (i := 3) sc__read_numbers.nd rfl (Or.inl rfl))) (fun _ _ _ _ _ => pts_nil) (fun _ _ _ _ _ => (pe_op op_add_str (pe_op op_add_str pe_str (pe_callTy call_str_int (by rfl) B.str (by decide +kernel) (pa_cons (pv 3) pa_nil))) pe_str)))
    (pss_cons (ps_set (i := 3) sc__read_numbers.nd rfl (Or.inl rfl) (pe_bmK (K := K) (by rfl) PySem.F.plainAttrs_list PySem.F.slot_list_index PySem.F.type_list_index (mt_indexK (K := K) (by rfl)) (pv 2) (pa_cons (pe_cX G__expected (hr.mono (by first | decide | omega)) (takes_of rfl rfl rfl rfl) (pa_cons (pv 0) (pa_cons (pv 1) (pa_cons (pv 2) pa_nil)))) pa_nil)))
    (pss_cons (ps_aug (i := 1) sc__read_numbers.nd rfl (Or.inl rfl) (pe_callB call_len_str (by rfl) B.len PySem.boot_len (pa_cons (pe_ix (ix_listK (K := K) (by rfl)) (pv 2) (pv 3) (fun _ _ => rfl)) pa_nil)) ip_add)
    (pss_cons (ps_set (i := 4) sc__read_numbers.nd rfl (Or.inl rfl) (pe_op op_cat (pe_lst (pa_cons pe_str pa_nil)) (pe_lc (own := [("high", 5)]) rfl sc__read_numbers.nd (pi_range2 (by rfl) B.range (pa_cons (pv 3) (pa_cons (pe_op op_add (pe_k T.c_MOST_REPEATS) pe_int) pa_nil))) (blkOk_by (N := ["text", "at", "lows", "low", "highs", "high"]) (sc := defScope s__read_numbers) (by decide +kernel)) (fun _ _ _ _ _ => (pg_name (i := 5) sc__read_numbers.nd rfl (Or.inl rfl))) (fun _ _ _ _ _ => pts_nil) (fun _ _ _ _ _ => (pe_op op_add_str (pe_callTy call_str_int (by rfl) B.str (by decide +kernel) (pa_cons (pv 5) pa_nil)) pe_str)))))
    (pss_cons (ps_set (i := 5) sc__read_numbers.nd rfl (Or.inl rfl) (pe_cX G__expected (hr.mono (by first | decide | omega)) (takes_of rfl rfl rfl rfl) (pa_cons (pv 0) (pa_cons (pv 1) (pa_cons (pv 4) pa_nil)))))
    (pss_one (ps_ret (pe_tup (pa_cons (pv 3) (pa_cons (pe_ifExp (pt_cmpR op_eq (pv 5) pe_str (nomark _)) pe_non (pe_callTy call_int_str (by rfl) B.int (by decide +kernel) (pa_cons (pe_slice sl_str (pv 5) po_none (po_some (pe_un un_neg pe_int))) pa_nil))) (pa_cons (pe_op op_add (pv 1) (pe_callB call_len_str (by rfl) B.len PySem.boot_len (pa_cons (pv 5) pa_nil))) pa_nil))))))))))), ?_⟩
    refine rd_cutV (fun σ' H' => ∃ D : Addr, σ' = [some (.str (S Tx)), some (.int (a : Nat)), some (.ref D), none, none, none] ∧ H' D = some (.lst (sV lowsL)) ∧ Same H H') (fun nx fin => ?_) ?_
    · walk_at "go"
      refine rd_rng1j (by omega) (by omega) ?_
      intro D hD
      refine lc_range (lo := 0) (n := 5) (fun i H' => H' D = some (.lst (sV (lowsL.take i))) ∧ Same H H') ⟨upd_same, Same.lay hD⟩ ?_ ?_
      · rintro i H' hi ⟨eD, sm⟩
        walk_at "go"
        refine ⟨rfl, ?_⟩
        walk_at "go"
        refine ⟨_, rfl, log_num (by omega) (by omega), ?_⟩
        rw [str_num (by omega) (by omega)]
        walk_at "go"
        refine ⟨_, _, rfl, rfl, by show 1 + 1 ≤ sizeLine; decide, ?_⟩
        walk_at "go"
        refine ⟨_, _, rfl, rfl, by show 2 + 1 ≤ sizeLine; decide, ?_⟩
        refine ⟨_, eD, by rw [List.length_map, List.length_take, PySem.sizeLine_eq]; omega, ?_, Same.lay2 sm hD⟩
        rw [upd_same]
        rcases (by omega : i = 0 ∨ i = 1 ∨ i = 2 ∨ i = 3 ∨ i = 4) with rfl | rfl | rfl | rfl | rfl <;> rfl
      · rintro H' ⟨eD, sm⟩
        walk_at "go"
        exact fin _ _ ⟨D, rfl, eD, sm⟩
    rintro σ1 H1 ⟨D, rfl, eD, sm1⟩
    refine rd_cutV (fun σ' H' => ∃ c : List Nat, σ' = [some (.str (S Tx)), some (.int (a : Nat)), some (.ref D), some (.int ((lowsL.idxOf c : Nat) : Int)), none, none] ∧ stn lowsL (Tx.drop a) = some c ∧ H' = H1) (fun nx fin => ?_) ?_
    · walk_at "go"
      refine ⟨.inl ⟨rfl, _, SqL.of eD⟩, ?_⟩
      walk_at "go"
      with_reducible refine rd_callS ?_
      walk_at "go"
      refine use_expected (cs := lowsL) (by omega) (by omega) (.inl (SqL.of eD)) (by decide) (by decide) (by decide) (fun c hc => ?_) fun hc d H4 n4 s4 e4 => ?_
      · have hm := List.mem_of_find?_eq_some hc
        obtain ⟨i1, i2⟩ := idx_first hm
        walk_at "go"
        refine ⟨D, _, .str (S c), lowsL.idxOf c, .str (S c), rfl, rfl, SqL.of eD, rfl, by decide, ?_, by simp [eqV], ?_, ?_⟩
        · rw [sV, List.getElem?_map, i1]; rfl
        · intro m z hm2 e
          obtain ⟨c2, hc2, rfl⟩ := sV_get e
          have := i2 m c2 hm2 hc2
          simpa [eqV, S] using this
        · walk_at "go"
          exact fin _ _ ⟨c, rfl, hc, rfl⟩
      · have er : rdNums Tx a = .error (a + far lowsL (Tx.drop a)) := by unfold rdNums; rw [hc]
        exact ke _ er d H4 (L2.Same.free sm1 n4) (L2.Same.trans sm1 s4) e4
    rintro σ2 H2 ⟨c, rfl, hc, rfl⟩
    have hm := List.mem_of_find?_eq_some hc
    obtain ⟨i1, i2⟩ := idx_first hm
    obtain ⟨l3, l4⟩ := low_mem hm
    obtain ⟨l, hl⟩ : ∃ l, l = lowsL.idxOf c := ⟨_, rfl⟩
    rw [← hl] at i1 l4 ⊢
    walk_at "go"
    refine rd_ixl (SqL.of eD) (at_of (j := l) rfl (by rw [sV, List.getElem?_map, i1]; rfl)) ?_
    walk_at "go"
    refine ⟨S c, rfl, by rw [S_len, PySem.sizeLine_eq]; omega, ?_⟩
    rw [S_len, l3]
    walk_at "go"
    refine ⟨by show 1 ≤ sizeLine; decide, rd_new fun q H3 hq eq s3 => ?_⟩
    walk_at "go"
    refine rd_rng2 ?_
    walk_at "go"
    refine ⟨_, _, rfl, ⟨by omega, by omega, by omega, by omega⟩, ?_⟩
    rw [show ((4 : Int) + 1 - (l : Int)).toNat = 5 - l by omega]
    intro D2 hD2
    refine lc_range (lo := l) (n := 5 - l) (fun i H' => H' D2 = some (.lst (sV (((List.range (5 - l)).map fun i => [48 + (l + i), 41]).take i))) ∧ Same H3 H') ⟨upd_same, Same.lay hD2⟩ ?_ ?_
    · rintro i H' hi ⟨eD2, sm⟩
      walk_at "go"
      refine ⟨rfl, ?_⟩
      walk_at "go"
      refine ⟨_, rfl, log_num (by omega) (by omega), ?_⟩
      rw [str_num (by omega) (by omega)]
      walk_at "go"
      refine ⟨_, _, rfl, rfl, by show 1 + 1 ≤ sizeLine; decide, ?_⟩
      refine ⟨_, eD2, by rw [List.length_map, List.length_take, List.length_map, List.length_range, PySem.sizeLine_eq]; omega, ?_, Same.lay2 sm hD2⟩
      rw [upd_same]
      have e : ((l : Int) + (i : Nat)).toNat = l + i := by omega
      rw [e]
      have ei : ((List.range (5 - l)).map fun i => [48 + (l + i), 41])[i]? = some [48 + (l + i), 41] := by rw [List.getElem?_map, List.getElem?_range hi]; rfl
      rw [sV, sV, List.take_add_one, ei, List.map_append]; rfl
    · rintro H4 ⟨eD2, sm4⟩
      have lr : ((List.range (5 - l)).map fun i => [48 + (l + i), 41]).length = 5 - l := by rw [List.length_map, List.length_range]
      rw [show (List.take (5 - l) ((List.range (5 - l)).map fun i => [48 + (l + i), 41])) = ((List.range (5 - l)).map fun i => [48 + (l + i), 41]) by rw [List.take_of_length_le]; rw [lr]; exact Nat.le_refl _] at eD2
      refine rd_catL (sm4 _ _ eq) eD2 (by rw [List.length_map, lr, PySem.sizeLine_eq]; show 1 + (5 - l) ≤ _; omega) (rd_new fun L H5 hL5 eL s5 => ?_)
      have eL : H5 L = some (.lst (sV (highsL l))) := by rw [eL, star_S]; rfl
      have s25 := L2.Same.trans s3 (L2.Same.trans sm4 s5)
      walk_at "go"
      with_reducible refine rd_callS ?_
      walk_at "go"
      have ea3 : (a : Int) + ((3 : Nat) : Int) = ((a + 3 : Nat) : Int) := by omega
      rw [ea3]
      have hlen : (highsL l).length = 5 - l + 1 := by unfold highsL; rw [List.length_cons, lr]
      refine use_expected (cs := highsL l) (by omega) (by omega) (.inl (SqL.of eL)) (by omega) (by omega) (fun x hx => ?_) (fun c2 hc2 => ?_) fun hc2 d H6 n6 s6 e6 => ?_
      · rcases high_mem hx with rfl | ⟨k, _, rfl⟩ <;> simp
      · have er : rdNums Tx a = .ok (l, hiD c2, a + 3 + 2) := by
          unfold rdNums
          rw [hc]
          show (match stn (highsL (lowsL.idxOf c)) (Tx.drop (a + 3)) with | none => Except.error (a + 3 + far (highsL (lowsL.idxOf c)) (Tx.drop (a + 3))) | some h => Except.ok (lowsL.idxOf c, hiD h, a + 3 + 2)) = _
          rw [← hl, hc2]
        have hm2 := high_mem (List.mem_of_find?_eq_some hc2)
        have l2 : c2.length = 2 := by rcases hm2 with rfl | ⟨k, _, rfl⟩ <;> rfl
        walk_at "go"
        rw [star_S]
        have ea5 : ((a + 3 : Nat) : Int) + ((2 : Nat) : Int) = ((a + 3 + 2 : Nat) : Int) := by omega
        refine ite2 (fun z => ?_) (fun z => ?_)
        · have z : c2 = [42, 41] := by simpa [S] using z
          walk_at "go"
          refine ⟨S c2, rfl, by rw [S_len, PySem.sizeLine_eq]; omega, ?_⟩
          rw [S_len, l2]
          walk_at "go"
          rw [ea5]
          refine ⟨by show 3 ≤ sizeLine; decide, rd_new fun t H6 hq6 eq6 s6 => ?_⟩
          walk_at "go"
          exact k l _ _ er t .non H6 (L2.Same.free (L2.Same.trans sm1 s25) hq6) (L2.Same.trans sm1 (L2.Same.trans s25 s6)) eq6 (fun H2 => by unfold hiD; rw [if_pos z]; exact .non)
        · have z : c2 ≠ [42, 41] := by
            intro q
            rw [q] at z; simp at z
          obtain ⟨j, hj, rfl⟩ : ∃ k : Nat, k ≤ 4 ∧ c2 = [48 + k, 41] := by
            rcases hm2 with q | q
            · exact absurd q z
            · exact q
          walk_at "go"
          refine ⟨_, rfl, ?_⟩
          walk_at "go"
          refine rd_sls (by show 2 ≤ sizeLine; decide) ?_
          have ec : cutS (S [48 + j, 41]) none (some (-1)) = S [48 + j] := rfl
          rw [ec]
          walk_at "go"
          refine ⟨_, _, rfl, int_num hj, by show 1 ≤ 640; decide, ?_⟩
          walk_at "go"
          refine ⟨S [48 + j, 41], rfl, by show 2 ≤ sizeLine; decide, ?_⟩
          rw [show (((S [48 + j, 41]).length : Nat) : Int) = ((2 : Nat) : Int) from rfl]
          walk_at "go"
          rw [ea5]
          refine ⟨by show 3 ≤ sizeLine; decide, rd_new fun t H6 hq6 eq6 s6 => ?_⟩
          walk_at "go"
          refine k l _ _ er t _ H6 (L2.Same.free (L2.Same.trans sm1 s25) hq6) (L2.Same.trans sm1 (L2.Same.trans s25 s6)) eq6 (fun H2 => ?_)
          unfold hiD
          rw [if_neg z]
          have e9 : ((([48 + j, 41] : List Nat).headD 0 : Nat) : Int) - 48 = (j : Int) := by show ((48 + j : Nat) : Int) - 48 = _; omega
          rw [e9]
          exact .int _
      · have er : rdNums Tx a = .error (a + 3 + far (highsL l) (Tx.drop (a + 3))) := by
          unfold rdNums
          rw [hc]
          show (match stn (highsL (lowsL.idxOf c)) (Tx.drop (a + 3)) with | none => Except.error (a + 3 + far (highsL (lowsL.idxOf c)) (Tx.drop (a + 3))) | some h => Except.ok (lowsL.idxOf c, hiD h, a + 3 + 2)) = _
          rw [← hl, hc2]
        exact ke _ er d H6 (L2.Same.free (L2.Same.trans sm1 s25) n6) (L2.Same.trans sm1 (L2.Same.trans s25 s6)) e6
end

end Cs
namespace Cs
open PySem L2
open PyProof.Rows (envOfC)
/-! a part is put into the expression that was opened last -/
/-- all but two objects are kept -/
def Kq (o p : Addr) (H H' : Hp) : Prop := ∀ b ob, b ≠ o → b ≠ p → H b = some ob → H' b = some ob
theorem Kq.same {o p : Addr} {H H' : Hp} (s : Same H H') : Kq o p H H' := fun b ob _ _ e => s b ob e
theorem Kq.trans {o p : Addr} {H H1 H2 : Hp} (x : Kq o p H H1) (y : Kq o p H1 H2) : Kq o p H H2 := fun b ob h1 h2 e => y b ob h1 h2 (x b ob h1 h2 e)
theorem Kq.setp {o p : Addr} {H : Hp} {ob : HO} : Kq o p H (upd H p ob) := fun b u h1 h2 e => by rw [upd_ne h2]; exact e
theorem Kq.seto {o p : Addr} {H : Hp} {ob : HO} : Kq o p H (upd H o ob) := fun b u h1 h2 e => by rw [upd_ne h1]; exact e
theorem Kq.ts {o p : Addr} {H H' : Hp} {xs ys : List V} (k : Kq o p H H') (eo : H o = some (.lst xs)) (ep : H p = some (.lst ys)) : TS H H' := fun b zs e => by
  refine k b _ (fun z => ?_) (fun z => ?_) e
  · rw [z, eo] at e; cases e
  · rw [z, ep] at e; cases e
def sp_put (CN : Addr) : Sp := fun vs H Q E => ∃ (T : List Nat) (a : Nat) (o p : Addr) (rs : List V) (w : Str) (xs : List V) (ds : List PyData) (v : V) (d : PyData), vs = [.ref o, v, .str (S T), .int (a : Nat)] ∧ T.length ≤ 100000 ∧ a ≤ 100000 ∧ o ≠ p ∧
  H o = some (.lst (rs ++ [.ref p])) ∧ H p = some (.lst (.str w :: xs)) ∧ TpAll H xs ds ∧ Tp H v d ∧ xs.length ≤ 100000 ∧ rs.length ≤ 100000 ∧
  (∀ e b, putN T (w, ds) d a = .ok (some e, b) → ∀ (t : Addr) (u : V) (H' : Hp), H t = none → Kq o p H H' → H' o = some (.lst rs) → H' t = some (.tup [u, .int (b : Nat)]) → Tp H' u e → Q (.ref t) H') ∧
  (∀ b, putN T (w, ds) d a = .ok (none, b) → ∀ (t : Addr) (H' : Hp), H t = none → Kq o p H H' → H' o = some (.lst (rs ++ [.ref p])) → H' p = some (.lst (.str w :: (xs ++ [v]))) → H' t = some (.tup [.non, .int (b : Nat)]) → Q (.ref t) H') ∧
  (∀ n, putN T (w, ds) d a = .error n → ∀ (x : Addr) H', H x = none → Kq o p H H' → H' x = some (.xd [("index", .int (n : Nat))]) → E (.ref CN) (some x) H')
theorem marks_mem {w : Str} {c : List Nat} (h : c ∈ marksL w) : c = [41] ∨ c = [32] := by
  unfold marksL at h
  split at h <;> simp at h <;> simp [h]
theorem putN_mark {T : List Nat} {w : Str} {ds : List PyData} {d : PyData} {a : Nat} {c : List Nat} (z : w ≠ kS "again") (h : stn (marksL w) (T.drop a) = some c) : putN T (w, ds) d a = if c = [32] then .ok (none, a + 1) else .ok (some (.tuple (.str w :: (ds ++ [d]))), a + 1) := by
  unfold putN
  simp only [if_neg z, h]
theorem putN_far {T : List Nat} {w : Str} {ds : List PyData} {d : PyData} {a : Nat} (z : w ≠ kS "again") (h : stn (marksL w) (T.drop a) = none) : putN T (w, ds) d a = .error (a + far (marksL w) (T.drop a)) := by
  unfold putN
  simp only [if_neg z, h]
theorem at_last {xs : List V} {v : V} : atI (xs ++ [v]) (-1) = some v := by
  unfold atI ixN
  rw [List.length_append, List.length_singleton]
  rw [if_neg (by decide), if_pos (by omega)]
  show (xs ++ [v])[(-1 + ((xs.length + 1 : Nat) : Int)).toNat]? = some v
  rw [show (-1 + ((xs.length + 1 : Nat) : Int)).toNat = xs.length by omega]
  simp
section
variable {P : Program} {w : World} {K : PySem.W.Frag} {mg : Str → Option Value} {base : Heap}
theorem ok_put (B : Blt mg) {CN : Addr} (G__expected : CalX P w K mg base 3 "_expected" ["text", "at", "choices"] (sp_expected K CN)) (G__read_numbers : CalX P w K mg base 4 "_read_numbers" ["text", "at"] (sp_rnums CN)) (F : At K mg "_put_into_last" s__put_into_last ["opened", "part", "text", "at"]) : CalX P w K mg base 5 "_put_into_last" ["opened", "part", "text", "at"] (sp_put CN) := by
  refine F.okX (k := 4) sc__put_into_last (fun vs H Q E h => ?_) (fun f cdv A outer s H vs Q E hr h => ?_)
  · obtain ⟨T, a, o, p, rs, w', xs, ds, v, d, rfl, _⟩ := h
    rfl
  · obtain ⟨T, a, o, p, rs, w', xs, ds, v, d, rfl, hT, ha, nop, eo, ep, hxs, hv, lx, lr, k1, k2, ke⟩ := h
    have zT : T.length ≤ sizeLine := by rw [PySem.sizeLine_eq]; omega
    refine ⟨_, (pss_cons (ps_set (i := 4) sc__put_into_last.nd rfl (Or.inl rfl) (pe_ix (ix_listK (K := K) (by rfl)) (pv 0) (pe_un un_neg pe_int) (fun _ _ => rfl)))
    (pss_cons (ps_expr (pe_bmK (K := K) (by rfl) PySem.F.plainAttrs_list PySem.F.slot_list_append PySem.F.type_list_append mt_append (pv 4) (pa_cons (pv 1) pa_nil)))
    (pss_cons (ps_if (pt_cmpR op_eq (pe_ix (ix_listK (K := K) (by rfl)) (pv 4) pe_int (fun _ _ => rfl)) pe_str (nomark _))
    (pss_cons (ps_asg (pe_cX G__read_numbers (hr.mono (by first | decide | omega)) (takes_of rfl rfl rfl rfl) (pa_cons (pv 2) (pa_cons (pv 3) pa_nil))) (pg_tupK (n := 3) (K := K) (by rfl) (by rfl) (pgs_cons (pg_name (i := 5) sc__put_into_last.nd rfl (Or.inl rfl)) (pgs_cons (pg_name (i := 6) sc__put_into_last.nd rfl (Or.inl rfl)) (pgs_cons (pg_name (i := 3) sc__put_into_last.nd rfl (Or.inl rfl)) pgs_nil)))))
    (pss_one (ps_expr (pe_bmK (K := K) (by rfl) PySem.F.plainAttrs_list PySem.F.slot_list_extend PySem.F.type_list_extend mt_extend (pv 4) (pa_cons (pe_lst (pa_cons (pv 5) (pa_cons (pv 6) pa_nil))) pa_nil)))))
    (pss_cons (ps_set (i := 7) sc__put_into_last.nd rfl (Or.inl rfl) (pe_cX G__expected (hr.mono (by first | decide | omega)) (takes_of rfl rfl rfl rfl) (pa_cons (pv 2) (pa_cons (pv 3) (pa_cons (pe_ifExp (pt_cmpR op_eq (pe_ix (ix_listK (K := K) (by rfl)) (pv 4) pe_int (fun _ _ => rfl)) pe_str (nomark _)) (pe_tup (pa_cons pe_str pa_nil)) (pe_tup (pa_cons pe_str (pa_cons pe_str pa_nil)))) pa_nil)))))
    (pss_cons (ps_aug (i := 3) sc__put_into_last.nd rfl (Or.inl rfl) pe_int ip_add)
    (pss_one (ps_if (pt_cmpR op_eq (pv 7) pe_str (nomark _))
    (pss_one (ps_ret (pe_tup (pa_cons pe_non (pa_cons (pv 3) pa_nil)))))
    pss_nil)))))
    (pss_one (ps_ret (pe_tup (pa_cons (pe_callTy (call_tuple_ofK (K := K) (by rfl)) (by rfl) B.tuple (by decide +kernel) (pa_cons (pe_bm0K (K := K) (by rfl) PySem.F.plainAttrs_list PySem.F.slot_list_pop PySem.F.type_list_pop mt_pop (pv 0)) pa_nil)) (pa_cons (pv 3) pa_nil)))))))), ?_⟩
    walk_at "go"
    refine ⟨_, rfl, ?_⟩
    refine rd_ixl (SqL.of eo) at_last ?_
    walk_at "go"
    refine ⟨.inl ⟨rfl, _, SqL.of ep⟩, ?_⟩
    walk_at "go"
    refine ⟨p, _, v, rfl, rfl, ep, by rw [List.length_cons, PySem.sizeLine_eq]; omega, ?_⟩
    have ep1 : upd H p (.lst (.str w' :: xs ++ [v])) p = some (.lst (.str w' :: (xs ++ [v]))) := upd_same
    have eo1 : upd H p (.lst (.str w' :: xs ++ [v])) o = some (.lst (rs ++ [.ref p])) := by rw [upd_ne nop]; exact eo
    have K1 : Kq o p H (upd H p (.lst (.str w' :: xs ++ [v]))) := Kq.setp
    have n1 : ∀ b, upd H p (.lst (.str w' :: xs ++ [v])) b = none → H b = none := fun b e => by
      by_cases z : b = p
      · rw [z, ep1] at e; cases e
      · rw [upd_ne z] at e; exact e
    generalize upd H p (.lst (.str w' :: xs ++ [v])) = H1 at ep1 eo1 K1 n1
    have t1 := K1.ts eo ep
    have free : ∀ {H2 : Hp} {b : Addr}, Same H1 H2 → H2 b = none → H b = none := fun s e => n1 _ (L2.Same.free s e)
    dsimp only
    refine rd_cutV (fun σ' H' => ∃ (b : Nat) (x5 x6 x7 : Option V) (zs : List V) (es : List PyData), σ' = [some (.ref o), some v, some (.str (S T)), some (.int (b : Nat)), some (.ref p), x5, x6, x7] ∧ H' p = some (.lst (.str w' :: zs)) ∧ H' o = some (.lst (rs ++ [.ref p])) ∧ TpAll H' zs es ∧ zs.length ≤ 200000 ∧ putN T (w', ds) d a = .ok (some (.tuple (.str w' :: es)), b) ∧ Kq o p H H' ∧ ∀ b, H' b = none → H b = none) (fun nx fin => ?_) ?_
    · walk_at "go"
      refine rd_ixl (SqL.of ep1) (at_of (j := 0) rfl rfl) ?_
      walk_at "go"
      rw [dec_S]
      refine ite2 (fun z1 => ?_) (fun z1 => ?_)
      · have z1 := of_decide_eq_true z1
        subst z1
        walk_at "go"
        with_reducible refine rd_callS ?_
        walk_at "go"
        refine use_rnums hT ha (fun l h e hok t u H2 hn s2 et hu => ?_) fun n hno x H2 hn s2 ex => ?_
        · have er : putN T (kS "again", ds) d a = .ok (some (.tuple (.str (kS "again") :: (ds ++ [d, .int (l : Nat), h]))), e) := by
            unfold putN
            rw [if_pos rfl, hok]
          refine rd_gtup (SqT.of et) rfl ?_
          walk_at "go"
          have ep2 := s2 _ _ ep1
          refine ⟨.inl ⟨rfl, _, SqL.of ep2⟩, ?_⟩
          walk_at "go"
          refine ⟨by show 2 ≤ sizeLine; decide, rd_new fun g H3 hg eg s3 => ?_⟩
          walk_at "go"
          have ep3 := s3 _ _ ep2
          have eo3 := s3 _ _ (s2 _ _ eo1)
          refine ⟨p, g, _, _, rfl, rfl, ep3, eg, by rw [List.length_cons, List.length_append, PySem.sizeLine_eq]; show xs.length + 1 + 1 + 2 ≤ _; omega, ?_⟩
          have K3 : Kq o p H H3 := K1.trans (Kq.same (L2.Same.trans s2 s3))
          have t3 := K3.ts eo ep
          have t4 : TS H3 (upd H3 p (.lst (.str (kS "again") :: (xs ++ [v]) ++ [.int (l : Nat), u]))) := TS.set ep3
          refine fin _ _ ⟨e, _, _, none, (xs ++ [v]) ++ [.int (l : Nat), u], (ds ++ [d]) ++ [.int (l : Nat), h], rfl, upd_same, by rw [upd_ne nop]; exact eo3, ?_, ?_, ?_, K3.trans Kq.setp, fun b e => ?_⟩
          · refine TpAll.app (TpAll.app (hxs.ts (t3.trans t4)) (.cons (hv.ts (t3.trans t4)) .nil)) (.cons (.int _) (.cons (hu _) .nil))
          · rw [List.length_append, List.length_append]; show xs.length + 1 + 2 ≤ _; omega
          · rw [er]; simp
          · by_cases z : b = p
            · rw [z, upd_same] at e; cases e
            · rw [upd_ne z] at e; exact free (L2.Same.trans s2 s3) e
        · have er : putN T (kS "again", ds) d a = .error n := by
            unfold putN
            rw [if_pos rfl, hno]
          exact ke n er x H2 (n1 _ hn) (K1.trans (Kq.same s2)) ex
      · have z1 : w' ≠ kS "again" := fun z => z1 (decide_eq_true z)
        walk_at "go"
        with_reducible refine rd_callS ?_
        walk_at "go"
        refine rd_ixl (SqL.of ep1) (at_of (j := 0) rfl rfl) ?_
        walk_at "go"
        rw [dec_S]
        refine ite2 (fun z2 => ?_) (fun z2 => ?_)
        all_goals
          walk_at "go"
          refine ⟨by first | (show 1 ≤ sizeLine; decide) | (show 2 ≤ sizeLine; decide), rd_new fun g H2 hg eg s2 => ?_⟩
          have em : H2 g = some (.tup (sV (marksL w'))) := by
            rw [eg]
            unfold marksL
            first
              | (rw [if_pos (of_decide_eq_true z2), par_S]; rfl)
              | (rw [if_neg (fun q => z2 (decide_eq_true q)), par_S, spc_S]; rfl)
          walk_at "go"
          refine use_expected hT (by omega) (.inr (SqT.of em)) (by unfold marksL; split <;> decide) (by unfold marksL; split <;> decide) (fun c hc => by rcases marks_mem hc with rfl | rfl <;> decide) (fun c hc => ?_) fun hc x H3 hn s3 ex => ?_
          · have ep2 := s2 _ _ ep1
            have eo2 := s2 _ _ eo1
            have ea : (a : Int) + 1 = ((a + 1 : Nat) : Int) := by omega
            walk_at "go"
            rw [spc_S]
            refine ite2 (fun z3 => ?_) (fun z3 => ?_)
            · have z3 : c = [32] := by simpa [S] using z3
              have er : putN T (w', ds) d a = .ok (none, a + 1) := by
                rw [putN_mark z1 hc, if_pos z3]
              walk_at "go"
              refine ⟨by show 2 ≤ sizeLine; decide, rd_new fun t H3 ht et s3 => ?_⟩
              rw [ea] at et
              walk_at "go"
              exact k2 _ er t H3 (free s2 ht) (K1.trans (Kq.same (L2.Same.trans s2 s3))) (s3 _ _ eo2) (s3 _ _ ep2) et
            · have z3 : c ≠ [32] := by
                intro q
                rw [q] at z3; simp at z3
              have er : putN T (w', ds) d a = .ok (some (.tuple (.str w' :: (ds ++ [d]))), a + 1) := by
                rw [putN_mark z1 hc, if_neg z3]
              have t2 := t1.trans (TS.same s2)
              walk_at "go"
              rw [ea]
              refine fin _ _ ⟨a + 1, _, _, _, xs ++ [v], ds ++ [d], rfl, ep2, eo2, (hxs.ts t2).app (.cons (hv.ts t2) .nil), ?_, er, K1.trans (Kq.same s2), fun b e => free s2 e⟩
              rw [List.length_append]; show xs.length + 1 ≤ _; omega
          · have er : putN T (w', ds) d a = .error (a + far (marksL w') (T.drop a)) := putN_far z1 hc
            exact ke _ er x H3 (free s2 hn) (K1.trans (Kq.same (L2.Same.trans s2 s3))) ex
    · rintro σ5 H5 ⟨b, x5, x6, x7, zs, es, rfl, ep5, eo5, hz, lz, er, K5, n5⟩
      walk_at "go"
      refine ⟨.inl ⟨rfl, _, SqL.of eo5⟩, o, _, .ref p, rfl, rfl, eo5, by simp, ?_⟩
      rw [List.dropLast_concat]
      have ep6 : upd H5 o (.lst rs) p = some (.lst (.str w' :: zs)) := by rw [upd_ne (Ne.symm nop)]; exact ep5
      have eo6 : upd H5 o (.lst rs) o = some (.lst rs) := upd_same
      have K6 : Kq o p H (upd H5 o (.lst rs)) := K5.trans Kq.seto
      have t6 : TS H5 (upd H5 o (.lst rs)) := TS.set eo5
      have n6 : ∀ b, upd H5 o (.lst rs) b = none → H b = none := fun b e => by
        by_cases z : b = o
        · rw [z, eo6] at e; cases e
        · rw [upd_ne z] at e; exact n5 b e
      generalize upd H5 o (.lst rs) = H6 at ep6 eo6 K6 t6 n6
      walk_at "go"
      refine rd_tupl (SqL.of ep6) (rd_new fun q H7 hq eq s7 => ?_)
      walk_at "go"
      refine ⟨by show 2 ≤ sizeLine; decide, rd_new fun t H8 ht et s8 => ?_⟩
      walk_at "go"
      refine k1 _ _ er t (.ref q) H8 (n6 _ (L2.Same.free s7 ht)) (K6.trans (Kq.same (L2.Same.trans s7 s8))) (s8 _ _ (s7 _ _ eo6)) et (.tup (s8 _ _ eq) (.cons (.str _) (hz.ts (t6.trans (TS.same (L2.Same.trans s7 s8))))))
end

end Cs
namespace Cs
open PySem L2
open PyProof.Rows (envOfC)
/-! an expression is read: what is open lies in a list -/
structure NotK (K : PySem.W.Frag) (mg : Str → Option Value) (p : Addr) : Prop where
  c_BEGINNINGS : ∃ u, mg "BEGINNINGS" = some u ∧ RelV (.ref p) u
  sq : ∀ H, SqT K H p (sV BG)
theorem stn_le {cs : List (List Nat)} {T c : List Nat} {a : Nat} (ha : a ≤ T.length) (h : stn cs (T.drop a) = some c) : a + c.length ≤ T.length ∧ c ∈ cs := by
  have hm := List.mem_of_find?_eq_some h
  have hp := List.find?_some h
  have hp : (T.drop a).take c.length = c := by simpa using hp
  have := congrArg List.length hp
  rw [List.length_take, List.length_drop] at this
  exact ⟨by omega, hm⟩
theorem rdSet_le {al T : List Nat} {a e : Nat} {d : PyData} (ha : a ≤ T.length) (h : rdSet al T a = .ok (d, e)) : a ≤ e ∧ e ≤ T.length ∧ ∃ cs, d = dSet cs := by
  unfold rdSet at h
  have hn := setLen_le (T.drop a) al
  rw [List.length_drop] at hn
  simp only at h
  split at h
  · cases h
  · rename_i c hc
    have := stn_le (by omega) hc
    cases h
    exact ⟨by omega, by omega, _, rfl⟩
theorem rdNums_le {T : List Nat} {a e l : Nat} {h : PyData} (ha : a ≤ T.length) (hk : rdNums T a = .ok (l, h, e)) : a < e ∧ e ≤ T.length := by
  unfold rdNums at hk
  split at hk
  · cases hk
  · rename_i c hc
    obtain ⟨b1, m1⟩ := stn_le ha hc
    have l3 := (low_mem m1).1
    split at hk
    · cases hk
    · rename_i c2 hc2
      obtain ⟨b2, m2⟩ := stn_le (a := a + 3) (by omega) hc2
      have l2 : c2.length = 2 := by rcases high_mem m2 with rfl | ⟨k, _, rfl⟩ <;> rfl
      cases hk
      exact ⟨by omega, by omega⟩
theorem putN_le {T : List Nat} {f : Fr} {d : PyData} {a b : Nat} {o : Option PyData} (ha : a ≤ T.length) (h : putN T f d a = .ok (o, b)) : a < b ∧ b ≤ T.length ∧ ∀ e, o = some e → ∃ ds, e = .tuple ds := by
  unfold putN at h
  split at h
  · split at h
    · cases h
    · rename_i hk
      obtain ⟨x, y⟩ := rdNums_le ha hk
      cases h
      exact ⟨x, y, fun e he => by cases he; exact ⟨_, rfl⟩⟩
  · split at h
    · cases h
    · rename_i m hm
      obtain ⟨x, y⟩ := stn_le ha hm
      have l1 : m.length = 1 := by rcases marks_mem y with rfl | rfl <;> rfl
      split at h
      · cases h
        exact ⟨by omega, by omega, fun e he => by cases he⟩
      · cases h
        exact ⟨by omega, by omega, fun e he => by cases he; exact ⟨_, rfl⟩⟩
/-- what is open: the values of the list, the last one on top -/
inductive Frs (H : Hp) (n : Nat) : List V → List Fr → Prop
  | nil : Frs H n [] []
  | snoc {p : Addr} {w : Str} {xs : List V} {ds : List PyData} {rs : List V} {fs : List Fr} : H p = some (.lst (.str w :: xs)) → TpAll H xs ds → xs.length ≤ n → V.ref p ∉ rs → Frs H n rs fs → Frs H n (rs ++ [.ref p]) ((w, ds) :: fs)
theorem Frs.keep {H H' : Hp} {n m : Nat} (t : TS H H') (hn : n ≤ m) : ∀ {rs : List V} {fs : List Fr}, Frs H n rs fs → (∀ p ob, V.ref p ∈ rs → H p = some ob → H' p = some ob) → Frs H' m rs fs
  | _, _, .nil, _ => .nil
  | _, _, .snoc e h l q r, k => .snoc (k _ _ (by simp) e) (h.ts t) (by omega) q (Frs.keep t hn r fun p ob hp => k p ob (by simp [hp]))
theorem Frs.length {H : Hp} {n : Nat} : ∀ {rs : List V} {fs : List Fr}, Frs H n rs fs → rs.length = fs.length
  | _, _, .nil => rfl
  | _, _, .snoc _ _ _ _ r => by rw [List.length_append, List.length_cons, Frs.length r]; rfl
structure Ops (H0 H : Hp) (o : Addr) (a : Nat) (rs : List V) (fs : List Fr) : Prop where
  ol : H o = some (.lst rs)
  fr : Frs H a rs fs
  o0 : H0 o = none
  r0 : ∀ p, V.ref p ∈ rs → H0 p = none ∧ p ≠ o
  sm : Same H0 H
  len : rs.length ≤ a
theorem Ops.same {H0 H H' : Hp} {o : Addr} {a b : Nat} {rs : List V} {fs : List Fr} (h : Ops H0 H o a rs fs) (s : Same H H') (hb : a ≤ b) : Ops H0 H' o b rs fs :=
  ⟨s _ _ h.ol, h.fr.keep (TS.same s) hb fun p ob _ e => s _ _ e, h.o0, h.r0, L2.Same.trans h.sm s, Nat.le_trans h.len hb⟩
theorem Ops.free {H0 H : Hp} {o p : Addr} {a : Nat} {rs : List V} {fs : List Fr} (h : Ops H0 H o a rs fs) (e : H p = none) : H0 p = none := L2.Same.free h.sm e
/-- a new one on top -/
theorem Ops.push {H0 H : Hp} {o p : Addr} {a b : Nat} {rs : List V} {fs : List Fr} {w : Str} (h : Ops H0 H o a rs fs) (hab : a < b) (ep : H p = some (.lst [.str w])) (hp : V.ref p ∉ rs) (p0 : H0 p = none) (po : p ≠ o) : Ops H0 (upd H o (.lst (rs ++ [.ref p]))) o b (rs ++ [.ref p]) ((w, []) :: fs) := by
  have t : TS H (upd H o (.lst (rs ++ [.ref p]))) := TS.set h.ol
  refine ⟨upd_same, .snoc (xs := []) (by rw [upd_ne po]; exact ep) .nil (Nat.zero_le _) hp (h.fr.keep t (by omega) fun q ob hq e => by rw [upd_ne (h.r0 q hq).2]; exact e), h.o0, fun q hq => ?_, fun q ob e => ?_, by rw [List.length_append]; have := h.len; simp; omega⟩
  · rcases List.mem_append.mp hq with hq | hq
    · exact h.r0 q hq
    · simp at hq; subst hq; exact ⟨p0, po⟩
  · rw [upd_ne (fun z => by rw [z, h.o0] at e; cases e)]; exact h.sm _ _ e
/-- the top one is closed, or gets a part -/
theorem Ops.pop {H0 H H' : Hp} {o p : Addr} {a b : Nat} {rs : List V} {fs : List Fr} {w : Str} {xs : List V} {ds : List PyData} (h : Ops H0 H o a (rs ++ [.ref p]) ((w, ds) :: fs)) (hab : a ≤ b) (k : Kq o p H H') (ep : H p = some (.lst (.str w :: xs))) (hf : Frs H a rs fs) (hp : V.ref p ∉ rs) (eo : H' o = some (.lst rs)) : Ops H0 H' o b rs fs := by
  have t : TS H H' := k.ts h.ol ep
  refine ⟨eo, hf.keep t hab fun q ob hq e => k q ob (h.r0 q (by simp [hq])).2 (fun z => hp (z ▸ hq)) e, h.o0, fun q hq => h.r0 q (by simp [hq]), fun q ob e => k q ob (fun z => by rw [z, h.o0] at e; cases e) (fun z => by rw [z, (h.r0 p (by simp)).1] at e; cases e) (h.sm _ _ e), ?_⟩
  have := h.len
  rw [List.length_append] at this
  simp at this; omega
theorem Ops.more {H0 H H' : Hp} {o p : Addr} {a b : Nat} {rs : List V} {fs : List Fr} {w : Str} {xs : List V} {ds : List PyData} {v : V} {d : PyData} (h : Ops H0 H o a (rs ++ [.ref p]) ((w, ds) :: fs)) (hab : a < b) (k : Kq o p H H') (ep : H p = some (.lst (.str w :: xs))) (hx : TpAll H xs ds) (hl : xs.length ≤ a) (hf : Frs H a rs fs) (hp : V.ref p ∉ rs) (hv : Tp H v d)
    (eo : H' o = some (.lst (rs ++ [.ref p]))) (ep' : H' p = some (.lst (.str w :: (xs ++ [v])))) : Ops H0 H' o b (rs ++ [.ref p]) ((w, ds ++ [d]) :: fs) := by
  have t : TS H H' := k.ts h.ol ep
  refine ⟨eo, .snoc ep' ((hx.ts t).app (.cons (hv.ts t) .nil)) (by rw [List.length_append]; show xs.length + 1 ≤ b; omega) hp (hf.keep t (by omega) fun q ob hq e => k q ob (h.r0 q (by simp [hq])).2 (fun z => hp (z ▸ hq)) e), h.o0, h.r0, fun q ob e => k q ob (fun z => by rw [z, h.o0] at e; cases e) (fun z => by rw [z, (h.r0 p (by simp)).1] at e; cases e) (h.sm _ _ e), ?_⟩
  have := h.len; omega
theorem Frs.has {H : Hp} {n : Nat} {q : Addr} : ∀ {rs : List V} {fs : List Fr}, Frs H n rs fs → V.ref q ∈ rs → ∃ ob, H q = Option.some ob
  | _, _, .nil, h => by simp at h
  | _, _, .snoc e _ _ _ r, h => by
    rcases List.mem_append.mp h with h | h
    · exact Frs.has r h
    · simp at h; subst h; exact ⟨_, e⟩
theorem Frs.top {H : Hp} {n : Nat} {rs : List V} {f : Fr} {fs : List Fr} (h : Frs H n rs (f :: fs)) : ∃ (p : Addr) (xs rs' : List V), rs = rs' ++ [.ref p] ∧ H p = some (.lst (.str f.1 :: xs)) ∧ TpAll H xs f.2 ∧ xs.length ≤ n ∧ V.ref p ∉ rs' ∧ Frs H n rs' fs := by
  cases h with
  | snoc e h l q r => exact ⟨_, _, _, rfl, e, h, l, q, r⟩
theorem Tp.tup_ref {H : Hp} {v : V} {ds : List PyData} (h : Tp H v (.tuple ds)) : ∃ p, v = .ref p := by
  cases h with
  | tup _ _ => exact ⟨_, rfl⟩
def RdSt (al T : List Nat) (o : Addr) (H0 : Hp) (k : Nat) (res : Except Nat (PyData × Nat)) (m : Nat) (σ : St) (H : Hp) : Prop := ∃ (a : Nat) (fs : List Fr) (rs : List V) (x4 : Option V) (v : V), σ = [some (.str (S al)), some (.str (S T)), some (.ref o), some (.int (a : Nat)), x4, some v] ∧ Ops H0 H o a rs fs ∧ a ≤ T.length ∧
  ((v = .non ∧ prs al T k fs a = some res ∧ m = 0) ∨ (∃ ds, Tp H v (.tuple ds) ∧ clsF (prs al T k) T fs (.tuple ds) a = some res ∧ m = fs.length))
def sp_read (CN : Addr) : Sp := fun vs H Q E => ∃ (al T : List Nat) (k0 : Nat) (res : Except Nat (PyData × Nat)), vs = [.str (S al), .str (S T)] ∧ al.length ≤ 1000 ∧ T.length ≤ 90000 ∧ prs al T k0 [] 0 = some res ∧
  (∀ d e, res = .ok (d, e) → e ≤ T.length → ∀ (t : Addr) (v : V) (H' : Hp), H t = none → Same H H' → H' t = some (.tup [v, .int (e : Nat)]) → Tp H' v d → Q (.ref t) H') ∧
  (∀ n, res = .error n → ∀ (x : Addr) H', H x = none → Same H H' → H' x = some (.xd [("index", .int (n : Nat))]) → E (.ref CN) (some x) H')
theorem prs_set {al T : List Nat} {k a e : Nat} {fs : List Fr} {d : PyData} (hb : stn BG (T.drop a) = some [91]) (h : rdSet al T (a + 1) = .ok (d, e)) : prs al T (k + 1) fs a = clsF (prs al T k) T fs d e := by
  rw [prs, hb]
  show (if ([91] : List Nat) = [91] then _ else _) = _
  rw [if_pos rfl, h]
theorem prs_sno {al T : List Nat} {k a n : Nat} {fs : List Fr} (hb : stn BG (T.drop a) = some [91]) (h : rdSet al T (a + 1) = .error n) : prs al T (k + 1) fs a = some (.error n) := by
  rw [prs, hb]
  show (if ([91] : List Nat) = [91] then _ else _) = _
  rw [if_pos rfl, h]
theorem prs_one {al T b : List Nat} {k a : Nat} {fs : List Fr} (hb : stn BG (T.drop a) = some b) (h1 : b ≠ [91]) (h2 : b.getLast? = some 41) : prs al T (k + 1) fs a = clsF (prs al T k) T fs (.tuple [.str (wrd b)]) (a + b.length) := by
  rw [prs, hb]
  show (if b = [91] then _ else if b.getLast? = some 41 then _ else _) = _
  rw [if_neg h1, if_pos h2]
theorem prs_op {al T b : List Nat} {k a : Nat} {fs : List Fr} (hb : stn BG (T.drop a) = some b) (h1 : b ≠ [91]) (h2 : ¬ b.getLast? = some 41) : prs al T (k + 1) fs a = prs al T k ((wrd b, []) :: fs) (a + b.length) := by
  rw [prs, hb]
  show (if b = [91] then _ else if b.getLast? = some 41 then _ else _) = _
  rw [if_neg h1, if_neg h2]
theorem prs_no {al T : List Nat} {k a : Nat} {fs : List Fr} (hb : stn BG (T.drop a) = none) : prs al T (k + 1) fs a = some (.error (a + far BG (T.drop a))) := by
  rw [prs, hb]
theorem bg_ends : ∀ b ∈ BG, Txt.endswith (S b) (Str.ofString ")") = decide (b.getLast? = some 41) := by decide +kernel
theorem bg_word : ∀ b ∈ BG, cutS (S b) (some 1) (some (-1)) = wrd b := by decide +kernel
theorem bg_len : ∀ b ∈ BG, 1 ≤ b.length ∧ b.length ≤ 100 := by decide +kernel
section
variable {P : Program} {w : World} {K : PySem.W.Frag} {mg : Str → Option Value} {base : Heap}
theorem ok_read (B : Blt mg) {CN pB : Addr} (T : NotK K mg pB) (G__expected : CalX P w K mg base 3 "_expected" ["text", "at", "choices"] (sp_expected K CN)) (G__read_set : CalX P w K mg base 4 "_read_set" ["alphabet", "text", "at"] (sp_rset CN)) (G__put_into_last : CalX P w K mg base 5 "_put_into_last" ["opened", "part", "text", "at"] (sp_put CN))
    (F : At K mg "_read_expression" s__read_expression ["alphabet", "text"]) : CalX P w K mg base 6 "_read_expression" ["alphabet", "text"] (sp_read CN) := by
  refine F.okX (k := 5) sc__read_expression (fun vs H Q E h => ?_) (fun f cdv A outer s H vs Q E hr h => ?_)
  · obtain ⟨al, T, k0, res, rfl, _⟩ := h
    rfl
  · obtain ⟨al, Tx, k0, res, rfl, hA, hT, hres, kk, ke⟩ := h
    have zT : Tx.length ≤ sizeLine := by rw [PySem.sizeLine_eq]; omega
    refine ⟨_, (pss_cons (ps_set (i := 2) sc__read_expression.nd rfl (Or.inl rfl) (pe_lst pa_nil))
    (pss_cons (ps_set (i := 3) sc__read_expression.nd rfl (Or.inl rfl) pe_int)
    (pss_one (ps_while (passes_of rfl) (pt_val pe_bl)
    (pss_cons (ps_set (i := 4) sc__read_expression.nd rfl (Or.inl rfl) (pe_cX G__expected (hr.mono (by first | decide | omega)) (takes_of rfl rfl rfl rfl) (pa_cons (pv 1) (pa_cons (pv 3) (pa_cons (pe_k T.c_BEGINNINGS) pa_nil)))))
    (pss_cons (ps_aug (i := 3) sc__read_expression.nd rfl (Or.inl rfl) (pe_callB call_len_str (by rfl) B.len PySem.boot_len (pa_cons (pv 4) pa_nil)) ip_add)
    (pss_cons (ps_set (i := 5) sc__read_expression.nd rfl (Or.inl rfl) pe_non)
    (pss_cons (ps_if (pt_cmpR op_eq (pv 4) pe_str (nomark _))
    (pss_one (ps_asg (pe_cX G__read_set (hr.mono (by first | decide | omega)) (takes_of rfl rfl rfl rfl) (pa_cons (pv 0) (pa_cons (pv 1) (pa_cons (pv 3) pa_nil)))) (pg_tupK (n := 2) (K := K) (by rfl) (by rfl) (pgs_cons (pg_name (i := 5) sc__read_expression.nd rfl (Or.inl rfl)) (pgs_cons (pg_name (i := 3) sc__read_expression.nd rfl (Or.inl rfl)) pgs_nil)))))
    (pss_one (ps_if (pt_val (pe_m1 PySem.F.slot_str_endswith PySem.F.type_str_endswith mt_endswith (pv 4) pe_str))
    (pss_one (ps_set (i := 5) sc__read_expression.nd rfl (Or.inl rfl) (pe_tup (pa_cons (pe_slice sl_str (pv 4) (po_some pe_int) (po_some (pe_un un_neg pe_int))) pa_nil))))
    (pss_one (ps_expr (pe_bmK (K := K) (by rfl) PySem.F.plainAttrs_list PySem.F.slot_list_append PySem.F.type_list_append mt_append (pv 2) (pa_cons (pe_lst (pa_cons (pe_slice sl_str (pv 4) (po_some pe_int) (po_some (pe_un un_neg pe_int))) pa_nil)) pa_nil)))))))
    (pss_cons (ps_while (passes_of rfl) (PW.pt (pw_and (pt_cmpR op_notN (pv 5) pe_non (nomark _)) (pw_and1 (pt_cmpR op_gt (pe_callB (call_len_seqK (K := K) (by rfl)) (by rfl) B.len PySem.boot_len (pa_cons (pv 2) pa_nil)) pe_int (nomark _)))))
    (pss_one (ps_asg (pe_cX G__put_into_last (hr.mono (by first | decide | omega)) (takes_of rfl rfl rfl rfl) (pa_cons (pv 2) (pa_cons (pv 5) (pa_cons (pv 1) (pa_cons (pv 3) pa_nil))))) (pg_tupK (n := 2) (K := K) (by rfl) (by rfl) (pgs_cons (pg_name (i := 5) sc__read_expression.nd rfl (Or.inl rfl)) (pgs_cons (pg_name (i := 3) sc__read_expression.nd rfl (Or.inl rfl)) pgs_nil))))))
    (pss_one (ps_if (pt_cmpR op_notN (pv 5) pe_non (nomark _))
    (pss_one (ps_ret (pe_tup (pa_cons (pv 5) (pa_cons (pv 3) pa_nil)))))
    pss_nil))))))))))), ?_⟩
    walk_at "go"
    refine ⟨by show 0 ≤ sizeLine; decide, rd_new fun o H1 ho eo s1 => ?_⟩
    walk_at "go"
    refine rd_whileI (m0 := k0) (fun r σ H' => ∃ (a : Nat) (fs : List Fr) (rs : List V) (x4 x5 : Option V), σ = [some (.str (S al)), some (.str (S Tx)), some (.ref o), some (.int (a : Nat)), x4, x5] ∧ Ops H H' o a rs fs ∧ a ≤ Tx.length ∧ prs al Tx r fs a = some res) ⟨0, [], [], _, _, rfl, ⟨eo, .nil, ho, by simp, s1, Nat.le_refl _⟩, Nat.zero_le _, hres⟩ ?_
    rintro r σ H2 ⟨a, fs, rs, x4, x5, rfl, hO, ha, hp⟩
    obtain ⟨k, rfl⟩ : ∃ j, r = j + 1 := by
      cases r with
      | zero => rw [prs] at hp; cases hp
      | succ j => exact ⟨j, rfl⟩
    walk_at "go"
    refine ⟨_, fun σ' H' z => z, ?_⟩
    refine rd_cutV (fun σ' H' => ∃ b : List Nat, σ' = [some (.str (S al)), some (.str (S Tx)), some (.ref o), some (.int (a : Nat)), some (.str (S b)), x5] ∧ H' = H2 ∧ stn BG (Tx.drop a) = some b) (fun nx fin => ?_) ?_
    · walk_at "go"
      with_reducible refine rd_callS ?_
      walk_at "go"
      refine use_expected (by omega) (by omega) (.inr (T.sq _)) (by decide) (by decide) (fun c hc => (bg_len c hc).2) (fun c hc => ?_) fun hc x H4 hn s4 ex => ?_
      · walk_at "go"
        exact fin _ _ ⟨c, rfl, rfl, hc⟩
      · rw [prs_no hc] at hp
        cases hp
        exact ke _ rfl x H4 (hO.free hn) (L2.Same.trans hO.sm s4) ex
    rintro σ3 H3 ⟨b, rfl, rfl, hb⟩
    obtain ⟨hb1, hb2⟩ := stn_le ha hb
    obtain ⟨hb3, hb4⟩ := bg_len b hb2
    try dsimp only
    refine rd_cutV (fun σ' H' => σ' = [some (.str (S al)), some (.str (S Tx)), some (.ref o), some (.int ((a + b.length : Nat) : Int)), some (.str (S b)), x5] ∧ H' = H3) (fun nx fin => ?_) ?_
    · walk_at "go"
      refine ⟨S b, rfl, by rw [S_len, PySem.sizeLine_eq]; omega, ?_⟩
      rw [S_len]
      walk_at "go"
      exact fin _ _ ⟨rfl, rfl⟩
    rintro σ4 H4 ⟨rfl, rfl⟩
    try dsimp only
    refine rd_cutV (fun σ' H' => σ' = [some (.str (S al)), some (.str (S Tx)), some (.ref o), some (.int ((a + b.length : Nat) : Int)), some (.str (S b)), some .non] ∧ H' = H4) (fun nx fin => ?_) ?_
    · walk_at "go"
      exact fin _ _ ⟨rfl, rfl⟩
    rintro σ4 H5 ⟨rfl, rfl⟩
    try dsimp only
    refine rd_cutV (fun σ' H' => ∃ m, RdSt al Tx o H k res m σ' H') (fun nx fin => ?_) ?_
    · walk_at "go"
      rw [brk_S]
      refine ite2 (fun z => ?_) (fun z => ?_)
      · have z : b = [91] := by simpa [S] using z
        subst z
        walk_at "go"
        with_reducible refine rd_callS ?_
        walk_at "go"
        refine use_rset hA (by omega) (by simpa using hb1) (fun d e hok t v H6 ht s6 et hv => ?_) fun n hno x H6 hn s6 ex => ?_
        · obtain ⟨e1, e2, cs, rfl⟩ := rdSet_le (by simpa using hb1) hok
          rw [prs_set hb hok] at hp
          refine rd_gtup (SqT.of et) rfl ?_
          walk_at "go"
          exact fin _ _ ⟨_, e, fs, rs, _, v, rfl, hO.same s6 (by omega), e2, .inr ⟨_, hv, hp, rfl⟩⟩
        · rw [prs_sno hb hno] at hp
          cases hp
          exact ke _ rfl x H6 (hO.free hn) (L2.Same.trans hO.sm s6) ex
      · have z : b ≠ [91] := by
          intro q
          rw [q] at z; simp at z
        walk_at "go"
        refine ⟨S b, _, rfl, rfl, ?_⟩
        rw [bg_ends b hb2]
        walk_at "go"
        refine ite2 (fun z2 => ?_) (fun z2 => ?_)
        · have z2 := of_decide_eq_true z2
          rw [prs_one hb z z2] at hp
          walk_at "go"
          refine ⟨_, rfl, ?_⟩
          walk_at "go"
          refine rd_sls (by rw [S_len, PySem.sizeLine_eq]; omega) ?_
          rw [bg_word b hb2]
          walk_at "go"
          refine ⟨by show 1 ≤ sizeLine; decide, rd_new fun t H6 ht et s6 => ?_⟩
          walk_at "go"
          exact fin _ _ ⟨_, a + b.length, fs, rs, _, .ref t, rfl, hO.same s6 (by omega), hb1, .inr ⟨_, .tup et (.cons (.str _) .nil), hp, rfl⟩⟩
        · have z2 : ¬ b.getLast? = some 41 := fun q => z2 (decide_eq_true q)
          rw [prs_op hb z z2] at hp
          walk_at "go"
          refine ⟨.inl ⟨rfl, _, SqL.of hO.ol⟩, ?_⟩
          walk_at "go"
          refine ⟨_, rfl, ?_⟩
          walk_at "go"
          refine rd_sls (by rw [S_len, PySem.sizeLine_eq]; omega) ?_
          rw [bg_word b hb2]
          walk_at "go"
          refine ⟨by show 1 ≤ sizeLine; decide, rd_new fun t H6 ht et s6 => ?_⟩
          walk_at "go"
          have O6 := hO.same (b := a) s6 (Nat.le_refl _)
          have to : t ≠ o := fun q => by rw [q, hO.ol] at ht; cases ht
          have tr : V.ref t ∉ rs := fun q => by
            obtain ⟨ob, e⟩ := hO.fr.has q
            rw [ht] at e; cases e
          refine ⟨o, _, .ref t, rfl, rfl, O6.ol, by have := O6.len; rw [PySem.sizeLine_eq]; omega, ?_⟩
          exact fin _ _ ⟨_, a + b.length, _, _, _, .non, rfl, O6.push (by omega) et tr (hO.free ht) to, hb1, .inl ⟨rfl, hp, rfl⟩⟩
    rintro σ6 H6 ⟨m, hm⟩
    try dsimp only
    refine rd_cutV (fun σ' H' => ∃ (a : Nat) (fs : List Fr) (rs : List V) (x4 : Option V) (v : V), σ' = [some (.str (S al)), some (.str (S Tx)), some (.ref o), some (.int (a : Nat)), x4, some v] ∧ Ops H H' o a rs fs ∧ a ≤ Tx.length ∧
        ((v = .non ∧ prs al Tx k fs a = some res) ∨ (∃ ds, Tp H' v (.tuple ds) ∧ res = .ok (.tuple ds, a)))) (fun nx fin => ?_) ?_
    · refine rd_whileI (m0 := m) (RdSt al Tx o H k res) hm ?_
      rintro r σ7 H7 ⟨a, fs, rs, x4, v, rfl, hO, ha, hv⟩
      walk_at "go"
      refine ⟨rfl, ?_⟩
      walk_at "go"
      rcases hv with ⟨rfl, hp, rfl⟩ | ⟨ds, hv, hp, rfl⟩
      · refine iteF ?_
        walk_at "go"
        exact fin _ _ ⟨a, fs, rs, _, .non, rfl, hO, ha, .inl ⟨rfl, hp⟩⟩
      obtain ⟨pv, rfl⟩ := hv.tup_ref
      have lfs := hO.fr.length
      refine iteT ?_
      walk_at "go"
      refine rd_len (.inl (SqL.of hO.ol)) ?_
      walk_at "go"
      refine ite2 (fun z => ?_) (fun z => ?_)
      rotate_left
      · have z : rs.length = 0 := by
          have : ¬ (0 : Int) < ((rs.length : Nat) : Int) := fun q => z (decide_eq_true q)
          omega
        cases fs with
        | cons f fs => rw [List.length_cons] at lfs; omega
        | nil =>
          rw [clsF] at hp
          exact fin _ _ ⟨a, [], rs, _, _, rfl, hO, ha, .inr ⟨ds, hv, (Option.some.inj hp).symm⟩⟩
      · have z : 0 < rs.length := by have := of_decide_eq_true z; omega
        cases fs with
        | nil => rw [List.length_nil] at lfs; omega
        | cons f fs =>
          obtain ⟨p, xs, rs', rfl, ep, hx, lx, hpr, hF⟩ := hO.fr.top
          obtain ⟨w', es⟩ := f
          have lrs := hO.len
          rw [List.length_append] at lrs
          refine ⟨_, fun σ' H' z => z, ?_⟩
          walk_at "go"
          with_reducible refine rd_callS ?_
          walk_at "go"
          refine ⟨Tx, a, o, p, rs', w', xs, es, .ref pv, .tuple ds, rfl, by omega, by omega, Ne.symm (hO.r0 p (by simp)).2, hO.ol, ep, hx, hv, by omega, by omega, fun e b hok t u H8 ht hK eo et hu => ?_, fun b hok t H8 ht hK eo ep' et => ?_, fun n hno x H8 hn hK ex => ?_⟩
          · obtain ⟨b1, b2, b3⟩ := putN_le ha hok
            obtain ⟨es', rfl⟩ := b3 e rfl
            rw [clsF, hok] at hp
            refine rd_gtup (SqT.of et) rfl ?_
            walk_at "go"
            exact ⟨fs.length, by rw [List.length_cons]; omega, b, fs, rs', _, u, rfl, hO.pop (by omega) hK ep hF hpr eo, b2, .inr ⟨es', hu, hp, rfl⟩⟩
          · obtain ⟨b1, b2, _⟩ := putN_le ha hok
            rw [clsF, hok] at hp
            refine rd_gtup (SqT.of et) rfl ?_
            walk_at "go"
            exact ⟨0, by rw [List.length_cons]; omega, b, _, _, _, .non, rfl, hO.more b1 hK ep hx lx hF hpr hv eo ep', b2, .inl ⟨rfl, hp, rfl⟩⟩
          · rw [clsF, hno] at hp
            cases hp
            have s8 : Same H H8 := fun q ob e => hK q ob (fun z => by rw [z, hO.o0] at e; cases e) (fun z => by rw [z, (hO.r0 p (by simp)).1] at e; cases e) (hO.sm _ _ e)
            exact ke _ rfl x H8 (hO.free hn) s8 ex
    · rintro σ7 H7 ⟨a, fs, rs, x4, v, rfl, hO, ha, hv⟩
      walk_at "go"
      refine ⟨rfl, ?_⟩
      walk_at "go"
      rcases hv with ⟨rfl, hp⟩ | ⟨ds, hv, hp⟩
      · refine iteF ?_
        walk_at "go"
        exact ⟨k, Nat.lt_succ_self k, a, fs, rs, _, _, rfl, hO, ha, hp⟩
      · obtain ⟨pv, rfl⟩ := hv.tup_ref
        refine iteT ?_
        walk_at "go"
        refine ⟨by show 2 ≤ sizeLine; decide, rd_new fun t H8 ht et s8 => ?_⟩
        walk_at "go"
        exact kk _ _ hp ha t _ H8 (hO.free ht) (L2.Same.trans hO.sm s8) et (hv.ts (TS.same s8))
end

end Cs
namespace Cs
open PySem L2
open PyProof.Rows (envOfC)
def sp_pattern (K : PySem.W.Frag) : Sp := fun vs H Q _ => ∃ (al : List Nat) (v : V) (d : PyData), vs = [.str (S al), v] ∧ al.length ≤ 1000 ∧ Dp K H v d ∧ mN d ≤ 100000 ∧ ∀ H', Same H H' → Q (.bl (mPat al d)) H'
theorem use_pattern {K : PySem.W.Frag} {al : List Nat} {v : V} {d : PyData} {H : Hp} {Q : VK} {E : XK} (hA : al.length ≤ 1000) (h : Dp K H v d) (hN : mN d ≤ 100000) (k : ∀ H', Same H H' → Q (.bl (mPat al d)) H') : sp_pattern K [.str (S al), v] H Q E := ⟨al, v, d, rfl, hA, h, hN, k⟩
section
variable {P : Program} {w : World} {K : PySem.W.Frag} {mg : Str → Option Value} {base : Heap}
theorem ok_pattern (B : Blt mg) (T : PatK mg) (G__is_small_expression : Cal P w K mg base 4 "_is_small_expression" ["alphabet", "value"] (sp_small K)) (Gw : ∀ al n, Cal P w K mg base (n + 2) "_width" ["expression"] (sp_width K al n))
    (F : At K mg "is_pattern" s_is_pattern ["alphabet", "value"]) : Cal P w K mg base 23 "is_pattern" ["alphabet", "value"] (sp_pattern K) := by
  refine F.ok sc_is_pattern (fun vs H Q E h => ?_) (fun f cdv A outer s H vs Q E hr h => ?_)
  · obtain ⟨al, v, d, rfl, _⟩ := h
    rfl
  · obtain ⟨al, v, d, rfl, hA, hd, hN, k⟩ := h
    have G__width := Gw al 20
    refine ⟨_, (pss_one (ps_ret (pe_and (pe_c G__is_small_expression (hr.mono (by first | decide | omega)) (pa_cons (pv 0) (pa_cons (pv 1) pa_nil))) (pe_one (pe_cmpR op_le (pe_c G__width (hr.mono (by first | decide | omega)) (pa_cons (pv 1) pa_nil)) (pe_k T.c_MOST_WIDTH) (nomark _)))))), ?_⟩
    walk_at "go"
    refine use_small hA hd hN fun H1 sm1 => ?_
    walk_at "go"
    cases hL : loopS al 20 [(d, false)] with
    | false =>
      refine iteF ?_
      have e : mPat al d = false := by unfold mPat; rw [hL]; rfl
      rw [e] at k
      exact k _ sm1
    | true =>
      refine iteT ?_
      walk_at "go"
      obtain ⟨hg, hs⟩ := (loopS_iff al 20 [(d, false)]).mp hL
      have g := hg (d, false) (by simp)
      have hT : mT d ≤ 20 := by simpa using hs
      refine use_width (Dp.mono sm1 hd) g.1 (Nat.le_trans (mD_le_mT d) hT) (by omega) fun H2 sm2 => ?_
      walk_at "go"
      have e : mPat al d = decide (mW d ≤ 10) := by unfold mPat; rw [hL]; rfl
      rw [← e]
      exact k _ (L2.Same.trans sm1 sm2)
end

end Cs
namespace Cs
open PySem L2
open PyProof.Rows (envOfC)
/-! a text as a pattern -/
/-- why a text is refused -/
def PErr (al T : List Nat) (res : Except Nat (PyData × Nat)) (n : Nat) : Prop := res = .error n ∨ (∃ d e, res = .ok (d, e) ∧ e < T.length ∧ n = e) ∨ ∃ d, res = .ok (d, T.length) ∧ mPat al d = false ∧ n = T.length
def sp_parse (CN : Addr) : Sp := fun vs H Q E => ∃ (al T : List Nat) (k0 : Nat) (res : Except Nat (PyData × Nat)), vs = [.str (S al), .str (S T)] ∧ al.length ≤ 1000 ∧ T.length ≤ 90000 ∧ prs al T k0 [] 0 = some res ∧ (∀ d e, res = .ok (d, e) → mN d ≤ 100000) ∧
  (∀ d, res = .ok (d, T.length) → mPat al d = true → ∀ (v : V) (H' : Hp), Same H H' → Tp H' v d → Q v H') ∧
  (∀ n, PErr al T res n → ∀ (x : Addr) H', H x = none → Same H H' → H' x = some (.xd [("index", .int (n : Nat))]) → E (.ref CN) (some x) H')
theorem use_parse {CN : Addr} {al T : List Nat} {k0 : Nat} {res : Except Nat (PyData × Nat)} {H : Hp} {Q : VK} {E : XK} (hA : al.length ≤ 1000) (hT : T.length ≤ 90000) (hr : prs al T k0 [] 0 = some res) (hN : ∀ d e, res = .ok (d, e) → mN d ≤ 100000)
    (k : ∀ d, res = .ok (d, T.length) → mPat al d = true → ∀ (v : V) (H' : Hp), Same H H' → Tp H' v d → Q v H') (ke : ∀ n, PErr al T res n → ∀ (x : Addr) H', H x = none → Same H H' → H' x = some (.xd [("index", .int (n : Nat))]) → E (.ref CN) (some x) H') : sp_parse CN [.str (S al), .str (S T)] H Q E := ⟨al, T, k0, res, rfl, hA, hT, hr, hN, k, ke⟩
theorem monoLen {i : Nat} {r : List V → Hp → VK → Prop} (hr : ∀ xs H (Q Q' : VK), (∀ v H1, Q v H1 → Q' v H1) → r xs H Q → r xs H Q') : ∀ σ H (R R' : List V → Hp → Prop), (∀ ys H1, R ys H1 → R' ys H1) → tCons (tCB r (tCons (tVar i) tNil)) tNil σ H R → tCons (tCB r (tCons (tVar i) tNil)) tNil σ H R' := fun σ H R R' k q => by
  obtain ⟨v, e, q⟩ := q
  exact ⟨v, e, hr _ _ _ _ (fun _ _ z => k _ _ z) q⟩
theorem monoLenS : ∀ xs H (Q Q' : VK), (∀ v H1, Q v H1 → Q' v H1) → (∃ z : Str, xs = [V.str z] ∧ z.length ≤ sizeLine ∧ Q (.int z.length) H) → (∃ z : Str, xs = [V.str z] ∧ z.length ≤ sizeLine ∧ Q' (.int z.length) H) := fun _ _ _ _ k q => by
  obtain ⟨z, e, l, q⟩ := q
  exact ⟨z, e, l, k _ _ q⟩
section
variable {P : Program} {w : World} {K : PySem.W.Frag} {mg : Str → Option Value} {base : Heap}
theorem ok_parse (B : Blt mg) {CN : Addr} (N_InvalidNotation : NewAt P w K mg base "InvalidNotation" CN ["index"]) (G__read_expression : CalX P w K mg base 6 "_read_expression" ["alphabet", "text"] (sp_read CN)) (G_is_pattern : Cal P w K mg base 23 "is_pattern" ["alphabet", "value"] (sp_pattern K))
    (F : At K mg "parse_pattern" s_parse_pattern ["alphabet", "text"]) : CalX P w K mg base 24 "parse_pattern" ["alphabet", "text"] (sp_parse CN) := by
  refine F.okX (k := 23) sc_parse_pattern (fun vs H Q E h => ?_) (fun f cdv A outer s H vs Q E hr h => ?_)
  · obtain ⟨al, T, k0, res, rfl, _⟩ := h
    rfl
  · obtain ⟨al, T, k0, res, rfl, hA, hT, hres, hN, k, ke⟩ := h
    have zT : T.length ≤ sizeLine := by rw [PySem.sizeLine_eq]; omega
    refine ⟨_, (pss_cons (ps_asg (pe_cX G__read_expression (hr.mono (by first | decide | omega)) (takes_of rfl rfl rfl rfl) (pa_cons (pv 0) (pa_cons (pv 1) pa_nil))) (pg_tupK (n := 2) (K := K) (by rfl) (by rfl) (pgs_cons (pg_name (i := 2) sc_parse_pattern.nd rfl (Or.inl rfl)) (pgs_cons (pg_name (i := 3) sc_parse_pattern.nd rfl (Or.inl rfl)) pgs_nil))))
    (pss_cons (ps_if (pt_cmpR op_lt (pv 3) (pe_callB call_len_str (by rfl) B.len PySem.boot_len (pa_cons (pv 1) pa_nil)) (nomark _))
    (pss_one (ps_raiseN rfl (takes_of rfl rfl rfl rfl) N_InvalidNotation (hr.mono (by first | decide | omega)) (pa_cons (pv 3) pa_nil) mono1))
    pss_nil)
    (pss_cons (ps_if (pt_not (pt_val (pe_c G_is_pattern (hr.mono (by first | decide | omega)) (pa_cons (pv 0) (pa_cons (pv 2) pa_nil)))))
    (pss_one (ps_raiseN rfl (takes_of rfl rfl rfl rfl) N_InvalidNotation (hr.mono (by first | decide | omega)) (pa_cons (pe_callB call_len_str (by rfl) B.len PySem.boot_len (pa_cons (pv 1) pa_nil)) pa_nil) (monoLen monoLenS)))
    pss_nil)
    (pss_one (ps_ret (pv 2)))))), ?_⟩
    walk_at "go"
    with_reducible refine rd_callS ?_
    walk_at "go"
    refine ⟨al, T, k0, res, rfl, hA, hT, hres, fun d e hok he t v H1 ht s1 et hv => ?_, fun n hno x H1 hn s1 ex => ke n (.inl hno) x H1 hn s1 ex⟩
    refine rd_gtup (SqT.of et) rfl ?_
    walk_at "go"
    refine ⟨S T, rfl, by rw [S_len]; exact zT, ?_⟩
    rw [S_len]
    walk_at "go"
    refine ite2 (fun z => ?_) (fun z => ?_)
    · have z : e < T.length := by have := of_decide_eq_true z; omega
      with_reducible refine rd_raiseN ?_
      walk_at "go"
      exact ⟨rfl, by show 1 ≤ 1000; decide, fun x H2 hx s2 ex => ke e (.inr (.inl ⟨d, e, hok, z, rfl⟩)) x H2 (L2.Same.free s1 hx) (L2.Same.trans s1 s2) ex⟩
    · have z : e = T.length := by
        have : ¬ ((e : Nat) : Int) < ((T.length : Nat) : Int) := fun q => z (decide_eq_true q)
        omega
      subst z
      walk_at "go"
      refine use_pattern hA hv.dp (hN d _ hok) fun H2 s2 => ?_
      walk_at "go"
      cases hm : mPat al d with
      | true =>
        refine iteF ?_
        walk_at "go"
        exact k d hok hm v H2 (L2.Same.trans s1 s2) (hv.ts (TS.same s2))
      | false =>
        refine iteT ?_
        with_reducible refine rd_raiseN ?_
        walk_at "go"
        refine ⟨S T, rfl, by rw [S_len]; exact zT, ?_⟩
        rw [S_len]
        walk_at "go"
        exact ⟨rfl, by show 1 ≤ 1000; decide, fun x H3 hx s3 ex => ke _ (.inr (.inr ⟨d, hok, hm, rfl⟩)) x H3 (L2.Same.free (L2.Same.trans s1 s2) hx) (L2.Same.trans (L2.Same.trans s1 s2) s3) ex⟩
end

end Cs
namespace Cs
open PySem L2
open PyProof.Rows (envOfC)
/-! what the top has left: the error of notations, a constant tuple of texts -/
def eB (K : PySem.W.Frag) (C : Addr) : Bool :=
  decide (PySem.W.findIn K (.ref C) "__getattribute__" = some (some (.builtin "BaseException.__getattribute__"))) && (decide (PySem.W.findIn K (.ref C) "__getattr__" = some none) && (decide (PySem.W.subIn K (.ref C) (.type "BaseException") = some true) && (PySem.W.hasDictIn K C &&
    (decide (PySem.W.findIn K (.ref C) "__class__" = some (some (.builtin "object.__class__"))) && (decide (PySem.W.specialIn K (.builtin "object.__class__") "__get__" = some (some (.builtin "getset_descriptor.__get__"))) && (decide (PySem.W.takesIn K (.builtin "object.__class__") = some true) && (decide (PySem.W.mroIn K C (.type "object") = some true) && PySem.W.keepIn K (.ref C))))))))
theorem eB_ok {K : PySem.W.Frag} {C : Addr} (h : eB K C = true) : ExcC K C ∧ XfC K C ∧ PySem.W.keepIn K (.ref C) = true := by
  simp only [eB, Bool.and_eq_true, decide_eq_true_eq] at h
  obtain ⟨h1, h2, h3, h4, h5, h6, h7, h8, h9⟩ := h
  exact ⟨⟨h1, h2, h3, h4, h5, h6, h7, h8⟩, ⟨h1, h2, h3, h4⟩, h9⟩
theorem eB_mk {K : PySem.W.Frag} {C : Addr} (h1 : PySem.W.findIn K (.ref C) "__getattribute__" = some (some (.builtin "BaseException.__getattribute__"))) (h2 : PySem.W.findIn K (.ref C) "__getattr__" = some none) (h3 : PySem.W.subIn K (.ref C) (.type "BaseException") = some true) (h4 : PySem.W.hasDictIn K C = true)
    (h5 : PySem.W.findIn K (.ref C) "__class__" = some (some (.builtin "object.__class__"))) (h6 : PySem.W.specialIn K (.builtin "object.__class__") "__get__" = some (some (.builtin "getset_descriptor.__get__"))) (h7 : PySem.W.takesIn K (.builtin "object.__class__") = some true) (h8 : PySem.W.mroIn K C (.type "object") = some true) (h9 : PySem.W.keepIn K (.ref C) = true) : eB K C = true := by
  simp only [eB, Bool.and_eq_true, decide_eq_true_eq]
  exact ⟨h1, h2, h3, h4, h5, h6, h7, h8, h9⟩
theorem cls_some {K : PySem.W.Frag} {C : Addr} (h : PySem.W.hasDictIn K C = true) : (PySem.W.clsIn K C).isSome = true := by
  obtain ⟨cd, hc, _⟩ := PySem.W.any_some h
  rw [hc]; rfl
theorem ys1 {ys : List V} {n : Str} (h : ys.length = [n].length) : ∃ y, ys = [y] := by
  match ys, h with
  | [y], _ => exact ⟨y, rfl⟩
abbrev s_i_InvalidNotation : Stmt := inClass (topS 2) 0
theorem sc_i_InvalidNotation : FnScope ["self", "index"] ["self", "index"] (defScope s_i_InvalidNotation) := ⟨rfl, rfl, rfl, by decide +kernel, rfl, by decide +kernel, by decide +kernel⟩
section
variable {P : Program} {w : World} {K : PySem.W.Frag} {mg : Str → Option Value} {base : Heap}
theorem ok_i_InvalidNotation {C : Addr} (hO : OexC K C) (h0 : PySem.W.findIn K (.ref C) "index" = some none) {f : Addr} {fd : FuncData} (F : Fun K "__init__" "InvalidNotation.__init__" s_i_InvalidNotation f fd) : FnOk P w K mg base CX0 1 f fd ["self", "index"] (sp_init C ["index"]) := by
  refine F.ok (k := 0) sc_i_InvalidNotation (fun vs H Q E h => ?_) (fun cdv A outer s H vs Q E hr h => ?_)
  · obtain ⟨a, ys, rfl, hl, _⟩ := h
    obtain ⟨y, rfl⟩ := ys1 hl
    rfl
  · obtain ⟨a, ys, rfl, hl, ea, k⟩ := h
    obtain ⟨y, rfl⟩ := ys1 hl
    refine ⟨_, pss_one (ps_ost (pv 0) (pv 1)), ?_⟩
    walk_at "go"
    with_reducible refine rd_ost ?_
    walk_at "go"
    refine ⟨a, C, rfl, hO, h0, .inl ⟨ea, fun dx n1 n2 => ?_⟩⟩
    exact k dx _ n1 n2 upd_same (by rw [upd_ne n2, upd_same]; rfl) fun b b1 b2 => by rw [upd_ne b1, upd_ne b2]
end
theorem new_mk {P : Program} {w : World} {K : PySem.W.Frag} {mg : Str → Option Value} {base : Heap} {x qn : Str} {C fI : Addr} {names ps : List Str} {st : Stmt} {oc : Value} {od an : Option Addr} {osl : Array (Option Value)} {kV dc pm cd ct : Value}
    {nm q : Str} {N : Addr} {bs bm : List Value} {sn : List Str} {sub : List Value} {ab : Bool} {col : Option Bool} {dd : Option Addr} {k0 k1 k2 k3 k5 : Option Value}
    (g : mg x = some (.ref C)) (o : K.lookup C = some (PySem.excClassObj nm q C N bs bm true sn sub ab col dd k0 k1 k2 k3 k5 "ValueError.__new__")) (r : PySem.HandSPX.refsVE bm = true)
    (sa : PySem.W.findIn K (.ref C) "__setattr__" = some (some (.builtin "object.__setattr__"))) (tC : PySem.W.typeIn K (.ref C) = some (.type "type")) (e : eB K C = true)
    (iC : PySem.W.findIn K (.ref C) "__init__" = some (some (.ref fI))) (tI : PySem.W.typeIn K (.ref fI) = some (.type "function"))
    (l : K.lookup fI = some ⟨oc, od, .func (PySem.W.fnOf "__init__" qn (defArgs st) (defBody st) (defScope st) .none kV dc pm an cd ct), osl⟩) (c : PySem.W.codeIn K cd qn = true) (k : PySem.W.keepIn K (.ref fI) = true)
    (b : ∀ (kV dc pm : Value) (an : Option Addr) (cd ct : Value) (us : List Value), us.length = ps.length → bindArgs (PySem.W.fnOf "__init__" qn (defArgs st) (defBody st) (defScope st) .none kV dc pm an cd ct) ⟨us, []⟩ = pure (ps.zip us))
    (ok : OexC K C → ∀ {f : Addr} {fd : FuncData}, Fun K "__init__" qn st f fd → FnOk P w K mg base CX0 1 f fd ps (sp_init C names)) : NewAt P w K mg base x C names := by
  have hO : OexC K C := ⟨⟨nm, q, N, bs, bm, sn, sub, ab, col, dd, k0, k1, k2, k3, k5, o, r⟩, sa, (eB_ok e).1.hs, tC, (eB_ok e).2.2⟩
  have F := fun_mk l c k
  exact ⟨⟨fI, _, ps, g, hO, iC, tI, ok hO F, F.binds b⟩⟩


theorem tup_mk {K : PySem.W.Frag} {h : Heap} {mg : Str → Option Value} (X : K.In h) (G : h.Ns mainGlobals mg) {x : Str} {p : Addr} {od : Option Addr} {osl : Array (Option Value)} {its : Array Value} {n : Nat} {xs : List V} (a : PySem.W.nsIn K mainGlobals x = some (some (.ref p)))
    (l : K.lookup p = some ⟨.type "tuple", od, .seq its n, osl⟩) (hz : its.size ≤ sizeLine) (v : Vals xs its.toList) : ∃ p, (∃ u, mg x = some u ∧ RelV (.ref p) u) ∧ ∀ H, SqT K H p xs := ⟨p, ⟨_, PySem.W.mg_of X G a, rfl⟩, fun H => .inr ⟨_, _, _, l, rfl, rfl, hz, v⟩⟩
theorem not_mk {K : PySem.W.Frag} {mg : Str → Option Value} (h : ∃ p, (∃ u, mg "BEGINNINGS" = some u ∧ RelV (.ref p) u) ∧ ∀ H, SqT K H p (sV BG)) : ∃ p, NotK K mg p := by
  obtain ⟨p, a, b⟩ := h
  exact ⟨p, a, b⟩
theorem parse_all {P : Program} {w : World} {K : PySem.W.Frag} {mg : Str → Option Value} {base : Heap} (B : Blt mg) (T : PatK mg) {CN pB : Addr} (N : NotK K mg pB) (I : NewAt P w K mg base "InvalidNotation" CN ["index"]) (F1 : At K mg "_shared" s__shared ["one", "other"]) (F2 : At K mg "_expected" s__expected ["text", "at", "choices"])
    (F3 : At K mg "_read_set" s__read_set ["alphabet", "text", "at"]) (F4 : At K mg "_read_numbers" s__read_numbers ["text", "at"]) (F5 : At K mg "_put_into_last" s__put_into_last ["opened", "part", "text", "at"]) (F6 : At K mg "_read_expression" s__read_expression ["alphabet", "text"])
    (F7 : At K mg "parse_pattern" s_parse_pattern ["alphabet", "text"]) (Gp : Cal P w K mg base 23 "is_pattern" ["alphabet", "value"] (sp_pattern K)) : CalX P w K mg base 24 "parse_pattern" ["alphabet", "text"] (sp_parse CN) := by
  have G1 := ok_shared (P := P) (w := w) (base := base) B F1
  have G2 := ok_expected B I G1 F2
  have G3 := ok_rset B G2 F3
  have G4 := ok_rnums B T G2 F4
  have G5 := ok_put B G2 G4 F5
  exact ok_parse B I (ok_read B N G2 G3 G5 F6) Gp F7

end Cs
namespace Cs
open PySem L2
open PyProof.Rows (envOfC)
/-! data of bounded depth and width, its texts short -/
def BdW (W : Nat) : Nat → PyData → Prop
  | 0, d => match d with
    | .tuple _ => False
    | .list _ => False
    | .str x => x.length ≤ 60
    | _ => True
  | n + 1, d => match d with
    | .tuple ds => ds.length ≤ W ∧ ∀ e ∈ ds, BdW W n e
    | .list ds => ds.length ≤ W ∧ ∀ e ∈ ds, BdW W n e
    | .str x => x.length ≤ 60
    | _ => True
abbrev Bd : Nat → PyData → Prop := BdW 60
theorem Bd.str {n : Nat} {x : Str} (h : Bd n (.str x)) : x.length ≤ 60 := by
  cases n <;> exact h
theorem Bd.tup {n : Nat} {ds : List PyData} (h : Bd n (.tuple ds)) : ∃ m, n = m + 1 ∧ ds.length ≤ 60 ∧ ∀ e ∈ ds, Bd m e := by
  cases n with
  | zero => exact h.elim
  | succ m => exact ⟨m, rfl, h⟩
theorem mF_no {al : List Nat} {d : PyData} (h : ∀ w ps, d ≠ .tuple (.str w :: ps)) : mF al d = false := foldD_no _ _ d h
theorem BdW.mono {W W' : Nat} (hW : W ≤ W') : ∀ {n n' : Nat} {d : PyData}, n ≤ n' → BdW W n d → BdW W' n' d := by
  intro n
  induction n with
  | zero =>
    intro n' d _ h
    cases d with
    | tuple ds => exact h.elim
    | list ds => exact h.elim
    | _ => cases n' <;> exact h
  | succ n ih =>
    intro n' d hn h
    obtain ⟨m, rfl⟩ : ∃ m, n' = m + 1 := ⟨n' - 1, by omega⟩
    cases d with
    | tuple ds => exact ⟨Nat.le_trans h.1 hW, fun e he => ih (by omega) (h.2 e he)⟩
    | list ds => exact ⟨Nat.le_trans h.1 hW, fun e he => ih (by omega) (h.2 e he)⟩
    | _ => exact h

end Cs
namespace Cs
open PySem L2
open PyProof.Rows (envOfC)
/-! the patterns that are drawn -/
abbrev Subs (al : List Nat) (css : List (List Nat)) : Prop := ∀ cs ∈ css, cs.Sublist al
def dStar (cs : List Nat) : PyData := dAgain (dSet cs) 0 .none
/-- without all and not -/
inductive PlD (al : List Nat) : Int → PyData → Prop
  | set {room : Int} {cs : List Nat} : cs.Sublist al → PlD al room (dSet cs)
  | any {room size : Int} {c1 c2 : List (List Nat)} : 1 ≤ size → size + 1 ≤ room → (c1.length : Int) = size → (c2.length : Int) = room - size → Subs al c1 → Subs al c2 → PlD al room (.tuple [.str (kS "any"), dRow c1, dRow c2])
  | tail {room size : Int} {c1 : List (List Nat)} {cs : List Nat} : 1 ≤ size → size + 1 ≤ room → (c1.length : Int) = size → Subs al c1 → cs.Sublist al → PlD al room (.tuple (.str (kS "row") :: (c1.map dSet ++ [dStar cs])))
  | head {room size : Int} {c1 : List (List Nat)} {cs : List Nat} : 1 ≤ size → size + 1 ≤ room → (c1.length : Int) = size → Subs al c1 → cs.Sublist al → PlD al room (.tuple (.str (kS "row") :: (dStar cs :: c1.map dSet)))
  | some {room size many : Int} {c1 c2 : List (List Nat)} : 1 ≤ size → size + 1 ≤ room → 1 ≤ many → many ≤ 4 → many ≤ room - size → (c1.length : Int) = size → (c2.length : Int) = (room - size) / many → Subs al c1 → Subs al c2 →
    PlD al room (.tuple (.str (kS "row") :: (c1.map dSet ++ [dAgain (dRow c2) 0 (.int many)])))
  | rep {room many lo : Int} {hi : PyData} {c1 : List (List Nat)} : 1 ≤ many → many ≤ 4 → many + 1 ≤ room → 1 ≤ lo → lo ≤ many → (hi = .int many ∨ (hi = .none ∧ lo < many)) → (c1.length : Int) = room / many → Subs al c1 → PlD al room (dAgain (dRow c1) lo hi)
  | row {room size : Int} {c1 : List (List Nat)} : 1 ≤ size → size ≤ room → (c1.length : Int) = size → Subs al c1 → PlD al room (dRow c1)
/-- and with them, at the top alone -/
inductive PtD (al : List Nat) : Int → PyData → Prop
  | plain {room : Int} {d : PyData} : PlD al room d → PtD al room d
  | all {room size : Int} {d e : PyData} : 1 ≤ size → size + 1 ≤ room → PlD al size d → PlD al (room - size) e → PtD al room (.tuple [.str (kS "all"), d, .tuple [.str (kS "not"), e]])

end Cs
namespace Cs
open PySem L2
open PyProof.Rows (envOfC)
/-! nested patterns, any of the kinds at any depth -/
def bN : Nat → Nat
  | 0 => 20
  | k + 1 => 4 * bN k
theorem bN_lo : ∀ k, 20 ≤ bN k
  | 0 => Nat.le_refl _
  | k + 1 => by
    have := bN_lo k
    show 20 ≤ 4 * bN k
    omega
inductive NsD (al : List Nat) : Nat → PyData → Prop
  | set {m : Nat} {cs : List Nat} : cs.Sublist al → NsD al m (dSet cs)
  | again {m : Nat} {d hi : PyData} {lo f : Int} : NsD al m d → AgOk lo hi f → NsD al (m + 1) (dAgain d lo hi)
  | not {m : Nat} {d : PyData} : NsD al m d → NsD al (m + 1) (.tuple [.str (kS "not"), d])
  | many {m : Nat} {ds : List PyData} {w : Str} : (w = kS "row" ∨ w = kS "any" ∨ w = kS "all") → ds.length ≤ 3 → (∀ d ∈ ds, NsD al m d) → NsD al (m + 1) (.tuple (.str w :: ds))

end Cs
namespace Cs
open PySem L2
open PyProof.Rows (envOfC)
/-! the patterns that are drawn are bounded -/
theorem bd_set {W n : Nat} {al cs : List Nat} (hA : Alp al) (h : cs.Sublist al) (hW : 2 ≤ W) : BdW W (n + 1) (dSet cs) := by
  refine ⟨hW, fun e he => ?_⟩
  simp only [List.mem_cons, List.not_mem_nil, or_false] at he
  rcases he with rfl | rfl
  · have : (Str.ofString "set").length ≤ 60 := by decide
    cases n <;> exact this
  · have l : (S cs).length ≤ 60 := by rw [S_len]; have := h.length_le; have := hA.hi; omega
    cases n <;> exact l
theorem bd_s {W n : Nat} {x : Str} (h : x.length ≤ 60) : BdW W n (.str x) := by cases n <;> exact h
theorem bd_i {W n : Nat} {x : Int} : BdW W n (.int x) := by cases n <;> trivial
theorem bd_n {W n : Nat} : BdW W n .none := by cases n <;> trivial
theorem bd_sets {W n : Nat} {al : List Nat} {css : List (List Nat)} (hA : Alp al) (h : Subs al css) (hW : 2 ≤ W) : ∀ e ∈ css.map dSet, BdW W (n + 1) e := fun e he => by
  obtain ⟨cs, hc, rfl⟩ := List.mem_map.mp he
  exact bd_set hA (h cs hc) hW
theorem bd_rowOf {W n : Nat} {w : Str} {ds : List PyData} (hw : w.length ≤ 60) (hl : ds.length + 1 ≤ W) (h : ∀ e ∈ ds, BdW W n e) : BdW W (n + 1) (.tuple (.str w :: ds)) := by
  refine ⟨by rw [List.length_cons]; exact hl, fun e he => ?_⟩
  rcases List.mem_cons.mp he with rfl | he
  · exact bd_s hw
  · exact h e he
theorem bd_again {W n : Nat} {d hi : PyData} {lo : Int} (hW : 4 ≤ W) (hd : BdW W n d) (hh : hi = .none ∨ ∃ m, hi = .int m) : BdW W (n + 1) (dAgain d lo hi) := by
  refine bd_rowOf (by decide) hW fun e he => ?_
  simp only [List.mem_cons, List.not_mem_nil, or_false] at he
  rcases he with rfl | rfl | rfl
  · exact hd
  · exact bd_i
  · rcases hh with rfl | ⟨m, rfl⟩
    · exact bd_n
    · exact bd_i
theorem PlD.bd {al : List Nat} {room : Int} {d : PyData} (hA : Alp al) (r : room ≤ 10) (h : PlD al room d) : BdW 12 4 d := by
  have row : ∀ {n : Nat} {css : List (List Nat)}, (css.length : Int) ≤ 10 → Subs al css → BdW 12 (n + 2) (dRow css) := fun {n css} l s =>
    bd_rowOf (by decide) (by rw [List.length_map]; omega) (bd_sets hA s (by decide))
  cases h with
  | set h => exact bd_set hA h (by decide)
  | any s0 s1 l1 l2 h1 h2 =>
    refine bd_rowOf (by decide) (by simp) fun e he => ?_
    simp only [List.mem_cons, List.not_mem_nil, or_false] at he
    rcases he with rfl | rfl
    · exact row (by omega) h1
    · exact row (by omega) h2
  | tail s0 s1 l1 h1 h2 =>
    refine bd_rowOf (by decide) (by rw [List.length_append, List.length_map]; simp; omega) fun e he => ?_
    rcases List.mem_append.mp he with he | he
    · exact bd_sets hA h1 (by decide) e he
    · rw [List.mem_singleton.mp he]
      exact bd_again (by decide) (bd_set hA h2 (by decide)) (.inl rfl)
  | head s0 s1 l1 h1 h2 =>
    refine bd_rowOf (by decide) (by rw [List.length_cons, List.length_map]; omega) fun e he => ?_
    rcases List.mem_cons.mp he with rfl | he
    · exact bd_again (by decide) (bd_set hA h2 (by decide)) (.inl rfl)
    · exact bd_sets hA h1 (by decide) e he
  | some s0 s1 m1 m2 m3 l1 l2 h1 h2 =>
    refine bd_rowOf (by decide) (by rw [List.length_append, List.length_map]; simp; omega) fun e he => ?_
    rcases List.mem_append.mp he with he | he
    · exact bd_sets hA h1 (by decide) e he
    · rw [List.mem_singleton.mp he]
      refine bd_again (by decide) (row (n := 0) ?_ h2) (.inr ⟨_, rfl⟩)
      rw [l2]
      exact Int.le_trans (Int.ediv_le_self _ (by omega)) (by omega)
  | rep m1 m2 m3 lo1 lo2 hh l1 h1 =>
    refine bd_again (by decide) (row (n := 1) ?_ h1) ?_
    · rw [l1]
      exact Int.le_trans (Int.ediv_le_self _ (by omega)) (by omega)
    · rcases hh with rfl | ⟨rfl, _⟩
      · exact .inr ⟨_, rfl⟩
      · exact .inl rfl
  | row s0 s1 l1 h1 => exact row (by omega) h1
theorem PtD.bd {al : List Nat} {room : Int} {d : PyData} (hA : Alp al) (r : room ≤ 10) (h : PtD al room d) : BdW 12 6 d := by
  cases h with
  | plain h => exact (h.bd hA r).mono (by decide) (by decide)
  | all s0 s1 h1 h2 =>
    refine bd_rowOf (by decide) (by simp) fun e he => ?_
    simp only [List.mem_cons, List.not_mem_nil, or_false] at he
    rcases he with rfl | rfl
    · exact (h1.bd hA (by omega)).mono (by decide) (by decide)
    · refine bd_rowOf (by decide) (by simp) fun e he => ?_
      rw [List.mem_singleton.mp he]
      exact (h2.bd hA (by omega)).mono (by decide) (by decide)
theorem NsD.bd {al : List Nat} (hA : Alp al) : ∀ {m : Nat} {d : PyData}, NsD al m d → BdW 12 (m + 1) d := by
  intro m
  induction m with
  | zero =>
    intro d h
    cases h with
    | set h => exact bd_set hA h (by decide)
  | succ m ih =>
    intro d h
    cases h with
    | set h => exact bd_set hA h (by decide)
    | again h hg => exact bd_again (by decide) (ih h) (by rcases hg.2.2 with ⟨e, _⟩ | ⟨m, e, _⟩; exact .inl e; exact .inr ⟨m, e⟩)
    | not h =>
      refine bd_rowOf (by decide) (by simp) fun e he => ?_
      rw [List.mem_singleton.mp he]
      exact ih h
    | many hw hl h =>
      refine bd_rowOf (by rcases hw with rfl | rfl | rfl <;> decide) (by omega) fun e he => ih (h e he)

end Cs
namespace Cs
open PySem L2
open PyProof.Rows (envOfC)
/-! what the law draws are patterns -/
theorem ex_row {al : List Nat} (hA : Alp al) {css : List (List Nat)} (h : Subs al css) (h1 : 1 ≤ css.length) (hl : css.length ≤ 100) : Ex al (dRow css) (1 + css.length) css.length true true :=
  (ex_many (.inl rfl) (exs_sets hA h) (by rw [List.length_map]; exact hl)).to rfl (m1_pos (by omega)) (by decide +kernel) (by decide +kernel)
theorem ex_star {al : List Nat} (hA : Alp al) {cs : List Nat} (h : cs.Sublist al) : Ex al (dStar cs) 2 1 true true :=
  (ex_again (ex_set hA h) (f := 1) ⟨by decide, by decide, .inl ⟨rfl, rfl⟩⟩).to rfl rfl rfl rfl
theorem exs_one {al : List Nat} {d : PyData} {t : Nat} {w : Int} {r p : Bool} (h : Ex al d t w r p) : Exs al [d] t w r p := by
  have e := exs_cons h exs_nil
  simpa using e
theorem ex_rowOf {al : List Nat} {ds : List PyData} {t : Nat} {v : Int} (h : Exs al ds t v true true) (hv : 1 ≤ v) (hl : ds.length ≤ 100) : Ex al (.tuple (.str (kS "row") :: ds)) (1 + t) v true true :=
  (ex_many (.inl rfl) h hl).to rfl (m1_pos hv) (by decide +kernel) (by decide +kernel)
def Good3 (al : List Nat) (d : PyData) (t : Nat) (w : Int) : Prop := ∃ t' w', Ex al d t' w' true true ∧ t' ≤ t ∧ 1 ≤ w' ∧ w' ≤ w
theorem PlD.good {al : List Nat} {room : Int} {d : PyData} (hA : Alp al) (r1 : 1 ≤ room) (r : room ≤ 10) (h : PlD al room d) : Good3 al d (room.toNat + 3) room := by
  cases h with
  | set h => exact ⟨1, 1, ex_set hA h, by omega, by omega, r1⟩
  | @any size c1 c2 s0 s1 l1 l2 h1 h2 =>
    have e1 := ex_row hA h1 (by omega) (by omega)
    have e2 := ex_row hA h2 (by omega) (by omega)
    have e := ex_many (w := kS "any") (.inr (.inl rfl)) (exs_cons e1 (exs_one e2)) (by simp)
    refine ⟨_, _, e.to rfl (m1_pos (by omega)) (by decide +kernel) (by decide +kernel), by omega, by omega, by omega⟩
  | @tail size c1 cs s0 s1 l1 h1 h2 =>
    have e := ex_rowOf (exs_app (exs_sets hA h1) (exs_one (ex_star hA h2))) (by omega) (by rw [List.length_append, List.length_map]; simp; omega)
    exact ⟨_, _, e, by omega, by omega, by omega⟩
  | @head size c1 cs s0 s1 l1 h1 h2 =>
    have e := ex_rowOf (exs_cons (ex_star hA h2) (exs_sets hA h1)) (by omega) (by rw [List.length_cons, List.length_map]; omega)
    exact ⟨_, _, e, by omega, by omega, by omega⟩
  | @some size many c1 c2 s0 s1 m1' m2 m3 l1 l2 h1 h2 =>
    have q0 : 1 ≤ (room - size) / many := by
      rw [Int.le_ediv_iff_mul_le (by omega)]; omega
    have q1 : (room - size) / many * many ≤ room - size := Int.ediv_mul_le _ (by omega)
    have q3 : 0 ≤ (room - size) / many * many := Int.mul_nonneg (by omega) (by omega)
    have q2 : (room - size) / many ≤ 9 := Int.le_trans (Int.ediv_le_self _ (by omega)) (by omega)
    have e2 := ex_row hA h2 (by omega) (by omega)
    have e3 := ex_again e2 (lo := 0) (hi := .int many) (f := m1 many) ⟨by decide, by decide, .inr ⟨many, rfl, by omega, by omega, rfl⟩⟩
    have em : m1 (c2.length : Int) * m1 many = (c2.length : Int) * many := by rw [m1_pos (by omega), m1_pos m1']
    rw [em] at e3
    have e := ex_rowOf (exs_app (exs_sets hA h1) (exs_one e3)) (by rw [l2]; omega) (by rw [List.length_append, List.length_map]; simp; omega)
    rw [l2] at e
    refine ⟨_, _, e, ?_, by omega, by omega⟩
    have : (c2.length : Int) ≤ room - size := by
      rw [l2]; exact Int.ediv_le_self _ (by omega)
    omega
  | @rep many lo hi c1 m1' m2 m3 lo1 lo2 hh l1 h1 =>
    have q0 : 1 ≤ room / many := by
      rw [Int.le_ediv_iff_mul_le (by omega)]; omega
    have q1 : room / many * many ≤ room := Int.ediv_mul_le _ (by omega)
    have q2 : room / many ≤ room := Int.ediv_le_self _ (by omega)
    have e2 := ex_row hA h1 (by omega) (by omega)
    obtain ⟨f, hf, f1, f2⟩ : ∃ f, AgOk lo hi f ∧ 1 ≤ f ∧ f ≤ many := by
      rcases hh with rfl | ⟨rfl, hlt⟩
      · exact ⟨m1 many, ⟨by omega, by omega, .inr ⟨many, rfl, lo2, m2, rfl⟩⟩, by rw [m1_pos m1']; omega, by rw [m1_pos m1']; omega⟩
      · exact ⟨lo + 1, ⟨by omega, by omega, .inl ⟨rfl, rfl⟩⟩, by omega, by omega⟩
    have e3 := ex_again e2 hf
    rw [m1_pos (by omega)] at e3
    refine ⟨_, _, e3, by omega, ?_, ?_⟩
    · rw [l1]
      have := Int.mul_le_mul q0 f1 (by decide) (by omega)
      omega
    · rw [l1]
      have := Int.mul_le_mul_of_nonneg_left f2 (show 0 ≤ room / many by omega)
      omega
  | @row size c1 s0 s1 l1 h1 =>
    have e := ex_row hA h1 (by omega) (by omega)
    exact ⟨_, _, e, by omega, by omega, by omega⟩
theorem PtD.pat {al : List Nat} {room : Int} {d : PyData} (hA : Alp al) (r1 : 1 ≤ room) (r : room ≤ 10) (h : PtD al room d) : mPat al d = true := by
  cases h with
  | plain h =>
    obtain ⟨t, w, e, ht, w1, w2⟩ := h.good hA r1 r
    exact mPat_iff.mpr ⟨e.F, e.R, by rw [e.T]; omega, by rw [e.W]; omega⟩
  | @all size d1 d2 s0 s1 h1 h2 =>
    obtain ⟨t1, w1, e1, ht1, a1, a2⟩ := h1.good hA s0 (by omega)
    obtain ⟨t2, w2, e2, ht2, b1, b2⟩ := h2.good hA (by omega) (by omega)
    have e3 := ex_not e2
    rw [m1_pos b1] at e3
    have e := ex_many (w := kS "all") (.inr (.inr rfl)) (exs_cons e1 (exs_one e3)) (by simp)
    refine mPat_iff.mpr ⟨e.F, ?_, by rw [e.T]; omega, by rw [e.W, m1_pos (by omega)]; omega⟩
    rw [e.R]; decide +kernel
theorem NsD.ex {al : List Nat} (hA : Alp al) : ∀ {m : Nat} {d : PyData}, NsD al m d → ∃ t w r p, Ex al d t w r p := by
  intro m
  induction m with
  | zero =>
    intro d h
    cases h with
    | set h => exact ⟨_, _, _, _, ex_set hA h⟩
  | succ m ih =>
    intro d h
    cases h with
    | set h => exact ⟨_, _, _, _, ex_set hA h⟩
    | again h hg =>
      obtain ⟨t, w, r, p, e⟩ := ih h
      exact ⟨_, _, _, _, ex_again e hg⟩
    | not h =>
      obtain ⟨t, w, r, p, e⟩ := ih h
      exact ⟨_, _, _, _, ex_not e⟩
    | many hw hl h =>
      have : ∀ l : List PyData, (∀ d ∈ l, NsD al m d) → ∃ t v r p, Exs al l t v r p := by
        intro l
        induction l with
        | nil => exact fun _ => ⟨_, _, _, _, exs_nil⟩
        | cons d l il =>
          intro hh
          obtain ⟨t, v, r, p, e⟩ := ih (hh d (by simp))
          obtain ⟨t', v', r', p', e'⟩ := il fun x hx => hh x (by simp [hx])
          exact ⟨_, _, _, _, exs_cons e e'⟩
      obtain ⟨t, v, r, p, e⟩ := this _ h
      exact ⟨_, _, _, _, ex_many hw e (by omega)⟩
theorem alp_no {al : List Nat} (hA : Alp al) : 93 ∉ al := fun h => by
  have := hA.asc 93 h
  revert this; decide

end Cs
namespace Cs
open PySem L2
open PyProof.Rows (envOfC)
/-! a notation is read back -/
theorem drop_at0 {T X Y : List Nat} {a : Nat} (h : T.drop a = X ++ Y) {n : Nat} (e : n = a + X.length) : T.drop n = Y := by
  subst e; exact drop_at h rfl
theorem len_fmt_pos {al : List Nat} : ∀ d, mF al d = true → 1 ≤ (fmt d).length := by
  intro d h
  obtain ⟨w, ps, rfl, _, _⟩ := mF_form h
  rw [fmt_eq]
  unfold fmtF
  split
  · simp
  · split <;> simp
/-- the beginning of an expression with parts -/
def opn (w : Str) : List Nat := 40 :: (w.cps.toList ++ [32])
theorem kw_row : (kS "row").cps.toList = [114, 111, 119] := by decide +kernel
theorem kw_any : (kS "any").cps.toList = [97, 110, 121] := by decide +kernel
theorem kw_all : (kS "all").cps.toList = [97, 108, 108] := by decide +kernel
theorem kw_not : (kS "not").cps.toList = [110, 111, 116] := by decide +kernel
theorem kw_again : (kS "again").cps.toList = [97, 103, 97, 105, 110] := by decide +kernel
theorem stn_opn {w : Str} (hw : w = kS "row" ∨ w = kS "any" ∨ w = kS "all" ∨ w = kS "not" ∨ w = kS "again") (R : List Nat) :
    stn BG (opn w ++ R) = some (opn w) ∧ opn w ≠ [91] ∧ (opn w).getLast? ≠ some 41 ∧ wrd (opn w) = w ∧ (opn w).length = w.cps.toList.length + 2 := by
  unfold opn wrd
  rcases hw with rfl | rfl | rfl | rfl | rfl
  · rw [kw_row]; exact ⟨by simp [stn, BG, List.find?], by simp, by simp, by decide +kernel, rfl⟩
  · rw [kw_any]; exact ⟨by simp [stn, BG, List.find?], by simp, by simp, by decide +kernel, rfl⟩
  · rw [kw_all]; exact ⟨by simp [stn, BG, List.find?], by simp, by simp, by decide +kernel, rfl⟩
  · rw [kw_not]; exact ⟨by simp [stn, BG, List.find?], by simp, by simp, by decide +kernel, rfl⟩
  · rw [kw_again]; exact ⟨by simp [stn, BG, List.find?], by simp, by simp, by decide +kernel, rfl⟩
theorem stn_none {w : Str} (hw : w = kS "row" ∨ w = kS "any" ∨ w = kS "all") (R : List Nat) :
    stn BG (40 :: (w.cps.toList ++ 41 :: R)) = some (40 :: (w.cps.toList ++ [41])) ∧ (40 :: (w.cps.toList ++ [41])) ≠ [91] ∧ (40 :: (w.cps.toList ++ [41])).getLast? = some 41 ∧ wrd (40 :: (w.cps.toList ++ [41])) = w := by
  unfold wrd
  rcases hw with rfl | rfl | rfl
  · rw [kw_row]; exact ⟨by simp [stn, BG, List.find?], by simp, by simp, by decide +kernel⟩
  · rw [kw_any]; exact ⟨by simp [stn, BG, List.find?], by simp, by simp, by decide +kernel⟩
  · rw [kw_all]; exact ⟨by simp [stn, BG, List.find?], by simp, by simp, by decide +kernel⟩
theorem prs_opn {al T : List Nat} {w : Str} (hw : w = kS "row" ∨ w = kS "any" ∨ w = kS "all" ∨ w = kS "not" ∨ w = kS "again") {R : List Nat} {a k : Nat} {fs : List Fr} (h : T.drop a = opn w ++ R) :
    prs al T (k + 1) fs a = prs al T k ((w, []) :: fs) (a + (opn w).length) := by
  obtain ⟨e1, e2, e3, e4, _⟩ := stn_opn hw R
  rw [prs, h, e1]
  show (if opn w = [91] then _ else if (opn w).getLast? = some 41 then _ else _) = _
  rw [if_neg e2, if_neg e3, e4]
/-- what is said of one expression -/
def Bk (al : List Nat) (d : PyData) : Prop := ∀ (T R : List Nat) (fs : List Fr) (a k : Nat), T.drop a = fmt d ++ R → prs al T (k + mT d) fs a = clsF (prs al T k) T fs d (a + (fmt d).length)
/-- the parts of a row, an any, an all, one behind another -/
theorem back_parts {al T : List Nat} {w : Str} (hw : w = kS "row" ∨ w = kS "any" ∨ w = kS "all") : ∀ (ps : List PyData) (p : PyData) (done : List PyData) (R : List Nat) (fs : List Fr) (a k : Nat), (∀ q ∈ p :: ps, Bk al q) →
    T.drop a = fmt p ++ (partsC (ps.map fmt) ++ 41 :: R) → prs al T (k + ((p :: ps).map mT).sum) ((w, done) :: fs) a = clsF (prs al T k) T fs (.tuple (.str w :: (done ++ p :: ps))) (a + (fmt p).length + (partsC (ps.map fmt)).length + 1) := by
  have n2 : w ≠ kS "again" := by rcases hw with rfl | rfl | rfl <;> decide +kernel
  have n3 : w ≠ kS "not" := by rcases hw with rfl | rfl | rfl <;> decide +kernel
  have em : marksL w = [[41], [32]] := by unfold marksL; rw [if_neg n3]
  intro ps
  induction ps with
  | nil =>
    intro p done R fs a k hB h
    have e0 : k + ([p].map mT).sum = k + mT p := by simp
    rw [e0, hB p (by simp) T _ _ a k h]
    have h2 : T.drop (a + (fmt p).length) = 41 :: R := drop_at h rfl
    rw [clsF, putN, if_neg n2, h2, em]
    have e1 : stn [[41], [32]] (41 :: R) = some [41] := by simp [stn, List.find?]
    rw [e1]
    rfl
  | cons q ps ih =>
    intro p done R fs a k hB h
    have e0 : k + ((p :: q :: ps).map mT).sum = (k + ((q :: ps).map mT).sum) + mT p := by simp; omega
    rw [e0, hB p (by simp) T _ _ a _ h]
    have h2 : T.drop (a + (fmt p).length) = 32 :: (fmt q ++ (partsC (ps.map fmt) ++ 41 :: R)) := by
      rw [drop_at h rfl]
      simp [partsC]
    rw [clsF, putN, if_neg n2, h2, em]
    have e1 : stn [[41], [32]] (32 :: (fmt q ++ (partsC (ps.map fmt) ++ 41 :: R))) = some [32] := by simp [stn, List.find?]
    rw [e1]
    show prs al T _ ((w, done ++ [p]) :: fs) (a + (fmt p).length + 1) = _
    have h3 : T.drop (a + (fmt p).length + 1) = fmt q ++ (partsC (ps.map fmt) ++ 41 :: R) := drop_at (X := [32]) h2 rfl
    rw [ih q (done ++ [p]) R fs _ k (fun x hx => hB x (by simp at hx ⊢; exact .inr hx)) h3]
    have e3 : done ++ [p] ++ q :: ps = done ++ p :: q :: ps := by simp
    have e4 : a + (fmt p).length + 1 + (fmt q).length + (partsC (ps.map fmt)).length + 1 = a + (fmt p).length + (partsC ((q :: ps).map fmt)).length + 1 := by simp [partsC]; omega
    rw [e3, e4]
theorem back_all {al : List Nat} (hal : 93 ∉ al) : ∀ d, mF al d = true → Bk al d := by
  refine by_parts (fun w ps ih => ?_) (fun d h => ?_)
  · intro hF T R fs a k h
    rw [mF_eq, Bool.and_eq_true, List.all_map, List.all_eq_true] at hF
    obtain ⟨hW, hP⟩ := hF
    replace hP : ∀ p ∈ rel w ps, Bk al p := fun p hp => ih p hp (hP p hp)
    clear ih
    obtain ⟨_, _, e0, hw, h1, h2, h3⟩ := mWF_form hW
    injection e0 with e0
    injection e0 with e1 e2
    injection e1 with e1
    subst e1 e2
    rw [mT_eq]
    rw [show k + (1 + ((rel w ps).map mT).sum) = (k + ((rel w ps).map mT).sum) + 1 by omega]
    rw [fmt_eq] at h ⊢
    by_cases z1 : w = kS "set"
    · subst z1
      obtain ⟨cs, rfl, hs⟩ := mOne_form (h1 rfl)
      have er : rel (kS "set") [PyData.str (S cs)] = [] := by unfold rel; rw [if_pos rfl]
      rw [er] at h ⊢
      unfold fmtF at h ⊢
      rw [if_pos rfl] at h ⊢
      have hs1 : setC [PyData.str (S cs)] = cs := rfl
      rw [hs1] at h ⊢
      have e1 : stn BG (91 :: (cs ++ [93]) ++ R) = some [91] := by simp [stn, BG, List.find?]
      rw [prs, h, e1]
      show (if ([91] : List Nat) = [91] then _ else _) = _
      rw [if_pos rfl]
      have h5 : T.drop (a + 1) = cs ++ 93 :: R := by
        exact drop_at (n := 1) (X := [91]) (Y := cs ++ 93 :: R) (by rw [h]; simp) rfl
      have h6 : T.drop (a + 1 + cs.length) = 93 :: R := drop_at h5 rfl
      have e5 : rdSet al T (a + 1) = .ok (dSet cs, a + 1 + cs.length + 1) := by
        unfold rdSet
        rw [h5, setLen_sub R hs hal]
        have e6 : stn [[93]] (93 :: R) = some [93] := by simp [stn, List.find?]
        show (match stn [[93]] (T.drop (a + 1 + cs.length)) with | none => Except.error (a + 1 + cs.length + far [[93]] (T.drop (a + 1 + cs.length))) | some c => Except.ok (dSet ((cs ++ 93 :: R).take cs.length), a + 1 + cs.length + c.length)) = _
        rw [h6, e6]
        show Except.ok (dSet ((cs ++ 93 :: R).take cs.length), _) = _
        rw [List.take_left]; rfl
      rw [e5]
      show clsF _ T fs (dSet cs) _ = _
      have e7 : a + 1 + cs.length + 1 = a + (91 :: (cs ++ [93])).length := by simp; omega
      rw [e7]
      rfl
    by_cases z2 : w = kS "again"
    · subst z2
      obtain ⟨pp, l, hi, rfl, l0, l4, hh⟩ := mThree_form (h3 rfl)
      obtain ⟨j, rfl⟩ : ∃ j : Nat, l = (j : Int) := ⟨l.toNat, by omega⟩
      have er : rel (kS "again") [pp, .int (j : Int), hi] = [pp] := by unfold rel; rw [if_neg (by decide +kernel), if_pos rfl]; rfl
      rw [er] at h hP ⊢
      unfold fmtF at h ⊢
      rw [if_neg (by decide +kernel), if_pos rfl] at h ⊢
      have ea : agC [pp, .int (j : Int), hi] = 32 :: (48 + j) :: 32 :: (hiC hi ++ [41]) := by simp [agC, numC]
      have eo : opn (kS "again") = [40, 97, 103, 97, 105, 110, 32] := by unfold opn; rw [kw_again]; rfl
      have h4 : T.drop a = opn (kS "again") ++ (fmt pp ++ 32 :: (48 + j) :: 32 :: (hiC hi ++ 41 :: R)) := by
        rw [h, eo, ea]; simp
      rw [prs_opn (.inr (.inr (.inr (.inr rfl)))) h4]
      have h5 : T.drop (a + (opn (kS "again")).length) = fmt pp ++ 32 :: (48 + j) :: 32 :: (hiC hi ++ 41 :: R) := drop_at h4 rfl
      have es : ([pp].map mT).sum = mT pp := by simp
      rw [es, hP pp (by simp) T _ _ _ k h5]
      have h6 := drop_at h5 rfl
      obtain ⟨q1, q2⟩ := low_stn (l := j) (by omega) (hiC hi ++ 41 :: R)
      obtain ⟨c, c1, c2, c3, c4⟩ := high_stn (l := j) (hi := hi) (by omega) hh R
      have h7 : T.drop (a + (opn (kS "again")).length + (fmt pp).length + 3) = hiC hi ++ 41 :: R := drop_at (X := [32, 48 + j, 32]) h6 rfl
      rw [clsF, putN, if_pos rfl]
      have e8 : rdNums T (a + (opn (kS "again")).length + (fmt pp).length) = .ok (j, hi, a + (opn (kS "again")).length + (fmt pp).length + 3 + 2) := by
        unfold rdNums
        rw [h6, q1]
        show (match stn (highsL (lowsL.idxOf [32, 48 + j, 32])) (T.drop _) with | none => _ | some h => _) = _
        rw [q2, h7, c1]
        show Except.ok (j, hiD c, _) = _
        rw [c2]
      rw [e8]
      show clsF _ T fs (.tuple (.str (kS "again") :: ([] ++ [pp, .int ((j : Nat) : Int), hi]))) _ = _
      have e9 : a + (opn (kS "again")).length + (fmt pp).length + 3 + 2 = a + ([40, 97, 103, 97, 105, 110, 32] ++ (([pp].map fmt).flatten ++ agC [pp, .int (j : Int), hi])).length := by
        rw [ea, eo]; simp [c4]; omega
      rw [e9]; rfl
    have hw2 : w = kS "row" ∨ w = kS "any" ∨ w = kS "all" ∨ w = kS "not" := by
      rcases hw with z | z | z | z | z | z
      · exact absurd z z1
      · exact .inr (.inr (.inr z))
      · exact absurd z z2
      · exact .inl z
      · exact .inr (.inl z)
      · exact .inr (.inr (.inl z))
    have er : rel w ps = ps := by unfold rel; rw [if_neg z1, if_neg z2]
    rw [er] at h hP ⊢
    unfold fmtF at h ⊢
    rw [if_neg z1, if_neg z2] at h ⊢
    by_cases z3 : w = kS "not"
    · subst z3
      obtain ⟨p, rfl⟩ : ∃ p, ps = [p] := by
        have := h2 rfl
        match ps, this with
        | [p], _ => exact ⟨p, rfl⟩
      have h4 : T.drop a = opn (kS "not") ++ (fmt p ++ 41 :: R) := by rw [h]; simp [opn, partsC]
      rw [prs_opn (.inr (.inr (.inr (.inl rfl)))) h4]
      have h5 := drop_at h4 rfl
      have es : ([p].map mT).sum = mT p := by simp
      rw [es, hP p (by simp) T _ _ _ k h5]
      have h6 := drop_at h5 rfl
      rw [clsF, putN, if_neg (by decide +kernel), h6]
      have em : marksL (kS "not") = [[41]] := by unfold marksL; rw [if_pos rfl]
      have e1 : stn [[41]] (41 :: R) = some [41] := by simp [stn, List.find?]
      rw [em, e1]
      show clsF _ T fs (.tuple (.str (kS "not") :: ([] ++ [p]))) _ = _
      have e9 : a + (opn (kS "not")).length + (fmt p).length + 1 = a + (40 :: ((kS "not").cps.toList ++ (partsC ([p].map fmt) ++ [41]))).length := by simp [opn, partsC]; omega
      rw [e9]; rfl
    have hw3 : w = kS "row" ∨ w = kS "any" ∨ w = kS "all" := by
      rcases hw2 with z | z | z | z
      · exact .inl z
      · exact .inr (.inl z)
      · exact .inr (.inr z)
      · exact absurd z z3
    cases ps with
    | nil =>
      obtain ⟨e1, e2, e3, e4⟩ := stn_none hw3 R
      have h4 : T.drop a = 40 :: (w.cps.toList ++ 41 :: R) := by rw [h]; simp [partsC]
      rw [prs, h4, e1]
      show (if _ = [91] then _ else if _ = some 41 then _ else _) = _
      rw [if_neg e2, if_pos e3, e4]
      rfl
    | cons p ps =>
      have h4 : T.drop a = opn w ++ (fmt p ++ (partsC (ps.map fmt) ++ 41 :: R)) := by rw [h]; simp [opn, partsC]
      rw [prs_opn (by rcases hw3 with z | z | z; exact .inl z; exact .inr (.inl z); exact .inr (.inr (.inl z))) h4]
      have h5 := drop_at h4 rfl
      rw [back_parts hw3 ps p [] R fs _ k hP h5]
      have e9 : a + (opn w).length + (fmt p).length + (partsC (ps.map fmt)).length + 1 = a + (40 :: (w.cps.toList ++ (partsC ((p :: ps).map fmt) ++ [41]))).length := by simp [opn, partsC]; omega
      rw [e9]; rfl
  · intro hF
    have e : mF al d = false := foldD_no _ _ d h
    rw [e] at hF; cases hF
theorem prs_fmt {al : List Nat} (hal : 93 ∉ al) {d : PyData} (hF : mF al d = true) {k : Nat} (hk : mT d ≤ k) : prs al (fmt d) k [] 0 = some (.ok (d, (fmt d).length)) := by
  obtain ⟨j, rfl⟩ : ∃ j, k = j + mT d := ⟨k - mT d, by omega⟩
  rw [back_all hal d hF (fmt d) [] [] 0 j (by simp), Nat.zero_add]
  rfl

end Cs
namespace Cs
open PySem L2
open PyProof.Rows (envOfC)
/-! another reader of notations, by going down: what the law does itself -/
def WD : List (List Nat) := [[114, 111, 119], [97, 110, 121], [97, 108, 108], [110, 111, 116], [97, 103, 97, 105, 110]]
def isBeg (u : List Nat) : Bool := WD.any fun w => decide (w.take u.length = u)
def rdW (R : List Nat) : Nat → Nat → Option (List Nat) × Nat
  | 0, n => (none, n)
  | k + 1, n => if n < R.length then (if isBeg (R.take (n + 1)) = true then (if R.take (n + 1) ∈ WD then (some (R.take (n + 1)), n + 1) else rdW R k (n + 1)) else (none, n)) else (none, n)
/-- what a beginning behind a bracket is, in both ways of reading -/
structure WOk (R : List Nat) (o : Option (List Nat)) (n : Nat) : Prop where
  no : o = none → stn BG (40 :: R) = none ∧ far BG (40 :: R) = 1 + n
  yes : ∀ w, o = some w → w ∈ WD ∧ n = w.length ∧ R.take n = w ∧
    ((R.drop n).head? = some 32 → stn BG (40 :: R) = some (40 :: (w ++ [32]))) ∧
    ((R.drop n).head? = some 41 → w ≠ [110, 111, 116] → w ≠ [97, 103, 97, 105, 110] → stn BG (40 :: R) = some (40 :: (w ++ [41]))) ∧
    ((R.drop n).head? ≠ some 32 → ((R.drop n).head? = some 41 → w = [110, 111, 116] ∨ w = [97, 103, 97, 105, 110]) → stn BG (40 :: R) = none ∧ far BG (40 :: R) = 1 + n)
theorem lcp_nil (c : List Nat) : lcp [] c = 0 := by simp [lcp]
theorem lcp_cons (a b : Nat) (as bs : List Nat) : lcp (a :: as) (b :: bs) = if a = b then lcp as bs + 1 else 0 := by rw [lcp]
theorem word_row (R : List Nat) : WOk (114 :: 111 :: 119 :: R) (some [114, 111, 119]) 3 := by
  refine ⟨fun h => (by cases h), fun w h => ?_⟩
  cases h
  refine ⟨by decide, rfl, rfl, ?_, ?_, ?_⟩
  · intro h
    cases R with
    | nil => simp at h
    | cons c R => simp at h; subst h; simp [stn, BG, List.find?]
  · intro h _ _
    cases R with
    | nil => simp at h
    | cons c R => simp at h; subst h; simp [stn, BG, List.find?]
  · intro h h2
    cases R with
    | nil => exact ⟨by simp [stn, BG, List.find?], by decide⟩
    | cons c R =>
      simp at h h2
      have h3 : c ≠ 41 := h2
      exact ⟨by simp [stn, BG, List.find?, h, h3], by simp [far, BG, lcp, h, h3]⟩
theorem word_any (R : List Nat) : WOk (97 :: 110 :: 121 :: R) (some [97, 110, 121]) 3 := by
  refine ⟨fun h => (by cases h), fun w h => ?_⟩
  cases h
  refine ⟨by decide, rfl, rfl, ?_, ?_, ?_⟩
  · intro h
    cases R with
    | nil => simp at h
    | cons c R => simp at h; subst h; simp [stn, BG, List.find?]
  · intro h _ _
    cases R with
    | nil => simp at h
    | cons c R => simp at h; subst h; simp [stn, BG, List.find?]
  · intro h h2
    cases R with
    | nil => exact ⟨by simp [stn, BG, List.find?], by decide⟩
    | cons c R =>
      simp at h h2
      have h3 : c ≠ 41 := h2
      exact ⟨by simp [stn, BG, List.find?, h, h3], by simp [far, BG, lcp, h, h3]⟩
theorem word_all (R : List Nat) : WOk (97 :: 108 :: 108 :: R) (some [97, 108, 108]) 3 := by
  refine ⟨fun h => (by cases h), fun w h => ?_⟩
  cases h
  refine ⟨by decide, rfl, rfl, ?_, ?_, ?_⟩
  · intro h
    cases R with
    | nil => simp at h
    | cons c R => simp at h; subst h; simp [stn, BG, List.find?]
  · intro h _ _
    cases R with
    | nil => simp at h
    | cons c R => simp at h; subst h; simp [stn, BG, List.find?]
  · intro h h2
    cases R with
    | nil => exact ⟨by simp [stn, BG, List.find?], by decide⟩
    | cons c R =>
      simp at h h2
      have h3 : c ≠ 41 := h2
      exact ⟨by simp [stn, BG, List.find?, h, h3], by simp [far, BG, lcp, h, h3]⟩
theorem word_not (R : List Nat) : WOk (110 :: 111 :: 116 :: R) (some [110, 111, 116]) 3 := by
  refine ⟨fun h => (by cases h), fun w h => ?_⟩
  cases h
  refine ⟨by decide, rfl, rfl, ?_, ?_, ?_⟩
  · intro h
    cases R with
    | nil => simp at h
    | cons c R => simp at h; subst h; simp [stn, BG, List.find?]
  · intro _ h1 h2
    exact absurd rfl h1
  · intro h _
    cases R with
    | nil => exact ⟨by simp [stn, BG, List.find?], by decide⟩
    | cons c R =>
      simp at h
      exact ⟨by simp [stn, BG, List.find?, h], by simp [far, BG, lcp, h]⟩
theorem word_again (R : List Nat) : WOk (97 :: 103 :: 97 :: 105 :: 110 :: R) (some [97, 103, 97, 105, 110]) 5 := by
  refine ⟨fun h => (by cases h), fun w h => ?_⟩
  cases h
  refine ⟨by decide, rfl, rfl, ?_, ?_, ?_⟩
  · intro h
    cases R with
    | nil => simp at h
    | cons c R => simp at h; subst h; simp [stn, BG, List.find?]
  · intro _ h1 h2
    exact absurd rfl h2
  · intro h _
    cases R with
    | nil => exact ⟨by simp [stn, BG, List.find?], by decide⟩
    | cons c R =>
      simp at h
      exact ⟨by simp [stn, BG, List.find?, h], by simp [far, BG, lcp, h]⟩
theorem word_not_one {R : List Nat} {n : Nat} (e1 : stn BG (40 :: R) = none) (e2 : far BG (40 :: R) = 1 + n) : WOk R none n := ⟨fun _ => ⟨e1, e2⟩, fun w h => (by cases h)⟩
theorem rdW_ok (R : List Nat) : WOk R (rdW R 6 0).1 (rdW R 6 0).2 := by
  cases R with
  | nil =>
    have e : rdW [] 6 0 = (none, 0) := by simp [rdW, isBeg, WD]
    rw [e]; exact word_not_one (by decide) (by decide)
  | cons c0 R0 =>
    by_cases h0_0 : c0 = 97
    · subst h0_0
      cases R0 with
      | nil =>
        have e : rdW [97] 6 0 = (none, 1) := by simp [rdW, isBeg, WD]
        rw [e]; exact word_not_one (by decide) (by decide)
      | cons c1 R1 =>
        by_cases h1_0 : c1 = 103
        · subst h1_0
          cases R1 with
          | nil =>
            have e : rdW [97, 103] 6 0 = (none, 2) := by simp [rdW, isBeg, WD]
            rw [e]; exact word_not_one (by decide) (by decide)
          | cons c2 R2 =>
            by_cases h2_0 : c2 = 97
            · subst h2_0
              cases R2 with
              | nil =>
                have e : rdW [97, 103, 97] 6 0 = (none, 3) := by simp [rdW, isBeg, WD]
                rw [e]; exact word_not_one (by decide) (by decide)
              | cons c3 R3 =>
                by_cases h3_0 : c3 = 105
                · subst h3_0
                  cases R3 with
                  | nil =>
                    have e : rdW [97, 103, 97, 105] 6 0 = (none, 4) := by simp [rdW, isBeg, WD]
                    rw [e]; exact word_not_one (by decide) (by decide)
                  | cons c4 R4 =>
                    by_cases h4_0 : c4 = 110
                    · subst h4_0
                      have e : rdW (97 :: 103 :: 97 :: 105 :: 110 :: R4) 6 0 = (some [97, 103, 97, 105, 110], 5) := by simp [rdW, isBeg, WD]
                      rw [e]; exact word_again R4
                    ·
                      have e : rdW (97 :: 103 :: 97 :: 105 :: c4 :: R4) 6 0 = (none, 4) := by simp [rdW, isBeg, WD, h4_0, Ne.symm h4_0]
                      rw [e]; exact word_not_one (by simp [stn, BG, List.find?, h4_0]) (by simp [far, BG, lcp, h4_0])
                ·
                  have e : rdW (97 :: 103 :: 97 :: c3 :: R3) 6 0 = (none, 3) := by simp [rdW, isBeg, WD, h3_0, Ne.symm h3_0]
                  rw [e]; exact word_not_one (by simp [stn, BG, List.find?, h3_0]) (by simp [far, BG, lcp, h3_0])
            ·
              have e : rdW (97 :: 103 :: c2 :: R2) 6 0 = (none, 2) := by simp [rdW, isBeg, WD, h2_0, Ne.symm h2_0]
              rw [e]; exact word_not_one (by simp [stn, BG, List.find?, h2_0]) (by simp [far, BG, lcp, h2_0])
        ·
          by_cases h1_1 : c1 = 108
          · subst h1_1
            cases R1 with
            | nil =>
              have e : rdW [97, 108] 6 0 = (none, 2) := by simp [rdW, isBeg, WD]
              rw [e]; exact word_not_one (by decide) (by decide)
            | cons c2 R2 =>
              by_cases h2_0 : c2 = 108
              · subst h2_0
                have e : rdW (97 :: 108 :: 108 :: R2) 6 0 = (some [97, 108, 108], 3) := by simp [rdW, isBeg, WD]
                rw [e]; exact word_all R2
              ·
                have e : rdW (97 :: 108 :: c2 :: R2) 6 0 = (none, 2) := by simp [rdW, isBeg, WD, h2_0, Ne.symm h2_0]
                rw [e]; exact word_not_one (by simp [stn, BG, List.find?, h2_0]) (by simp [far, BG, lcp, h2_0])
          ·
            by_cases h1_2 : c1 = 110
            · subst h1_2
              cases R1 with
              | nil =>
                have e : rdW [97, 110] 6 0 = (none, 2) := by simp [rdW, isBeg, WD]
                rw [e]; exact word_not_one (by decide) (by decide)
              | cons c2 R2 =>
                by_cases h2_0 : c2 = 121
                · subst h2_0
                  have e : rdW (97 :: 110 :: 121 :: R2) 6 0 = (some [97, 110, 121], 3) := by simp [rdW, isBeg, WD]
                  rw [e]; exact word_any R2
                ·
                  have e : rdW (97 :: 110 :: c2 :: R2) 6 0 = (none, 2) := by simp [rdW, isBeg, WD, h2_0, Ne.symm h2_0]
                  rw [e]; exact word_not_one (by simp [stn, BG, List.find?, h2_0]) (by simp [far, BG, lcp, h2_0])
            ·
              have e : rdW (97 :: c1 :: R1) 6 0 = (none, 1) := by simp [rdW, isBeg, WD, h1_0, h1_1, h1_2, Ne.symm h1_0, Ne.symm h1_1, Ne.symm h1_2]
              rw [e]; exact word_not_one (by simp [stn, BG, List.find?, h1_0, h1_1, h1_2]) (by simp [far, BG, lcp, h1_0, h1_1, h1_2])
    ·
      by_cases h0_1 : c0 = 110
      · subst h0_1
        cases R0 with
        | nil =>
          have e : rdW [110] 6 0 = (none, 1) := by simp [rdW, isBeg, WD]
          rw [e]; exact word_not_one (by decide) (by decide)
        | cons c1 R1 =>
          by_cases h1_0 : c1 = 111
          · subst h1_0
            cases R1 with
            | nil =>
              have e : rdW [110, 111] 6 0 = (none, 2) := by simp [rdW, isBeg, WD]
              rw [e]; exact word_not_one (by decide) (by decide)
            | cons c2 R2 =>
              by_cases h2_0 : c2 = 116
              · subst h2_0
                have e : rdW (110 :: 111 :: 116 :: R2) 6 0 = (some [110, 111, 116], 3) := by simp [rdW, isBeg, WD]
                rw [e]; exact word_not R2
              ·
                have e : rdW (110 :: 111 :: c2 :: R2) 6 0 = (none, 2) := by simp [rdW, isBeg, WD, h2_0, Ne.symm h2_0]
                rw [e]; exact word_not_one (by simp [stn, BG, List.find?, h2_0]) (by simp [far, BG, lcp, h2_0])
          ·
            have e : rdW (110 :: c1 :: R1) 6 0 = (none, 1) := by simp [rdW, isBeg, WD, h1_0, Ne.symm h1_0]
            rw [e]; exact word_not_one (by simp [stn, BG, List.find?, h1_0]) (by simp [far, BG, lcp, h1_0])
      ·
        by_cases h0_2 : c0 = 114
        · subst h0_2
          cases R0 with
          | nil =>
            have e : rdW [114] 6 0 = (none, 1) := by simp [rdW, isBeg, WD]
            rw [e]; exact word_not_one (by decide) (by decide)
          | cons c1 R1 =>
            by_cases h1_0 : c1 = 111
            · subst h1_0
              cases R1 with
              | nil =>
                have e : rdW [114, 111] 6 0 = (none, 2) := by simp [rdW, isBeg, WD]
                rw [e]; exact word_not_one (by decide) (by decide)
              | cons c2 R2 =>
                by_cases h2_0 : c2 = 119
                · subst h2_0
                  have e : rdW (114 :: 111 :: 119 :: R2) 6 0 = (some [114, 111, 119], 3) := by simp [rdW, isBeg, WD]
                  rw [e]; exact word_row R2
                ·
                  have e : rdW (114 :: 111 :: c2 :: R2) 6 0 = (none, 2) := by simp [rdW, isBeg, WD, h2_0, Ne.symm h2_0]
                  rw [e]; exact word_not_one (by simp [stn, BG, List.find?, h2_0]) (by simp [far, BG, lcp, h2_0])
            ·
              have e : rdW (114 :: c1 :: R1) 6 0 = (none, 1) := by simp [rdW, isBeg, WD, h1_0, Ne.symm h1_0]
              rw [e]; exact word_not_one (by simp [stn, BG, List.find?, h1_0]) (by simp [far, BG, lcp, h1_0])
        ·
          have e : rdW (c0 :: R0) 6 0 = (none, 0) := by simp [rdW, isBeg, WD, h0_0, h0_1, h0_2, Ne.symm h0_0, Ne.symm h0_1, Ne.symm h0_2]
          rw [e]; exact word_not_one (by simp [stn, BG, List.find?, h0_0, h0_1, h0_2]) (by simp [far, BG, lcp, h0_0, h0_1, h0_2])

end Cs
namespace Cs
open PySem L2
open PyProof.Rows (envOfC)
/-! the law's own reader: sets, numbers, the whole -/
def hdIn (R cs : List Nat) : Bool := match R with
  | c :: _ => decide (c ∈ cs)
  | [] => false
def D5 : List Nat := [48, 49, 50, 51, 52]
def nmL (R : List Nat) : Option (Nat × PyData) × Nat :=
  if hdIn R [32] = false then (none, 0) else if hdIn (R.drop 1) D5 = false then (none, 1) else if hdIn (R.drop 2) [32] = false then (none, 2)
  else if hdIn (R.drop 3) (42 :: D5.drop ((R.drop 1).headD 0 - 48)) = false then (none, 3) else if hdIn (R.drop 4) [41] = false then (none, 4)
  else (some ((R.drop 1).headD 0 - 48, if (R.drop 3).headD 0 = 42 then .none else .int (((R.drop 3).headD 0 : Nat) - 48 : Int)), 5)
def rdSL (al T : List Nat) (a : Nat) : Option PyData × Nat :=
  if hdIn (T.drop (a + setLen al (T.drop a))) [93] = true then (some (dSet ((T.drop a).take (setLen al (T.drop a)))), a + setLen al (T.drop a) + 1) else (none, a + setLen al (T.drop a))
def rdA (go : Nat → Option PyData × Nat) (T : List Nat) (a : Nat) : Option PyData × Nat :=
  if hdIn (T.drop a) [32] = false then (none, a) else match go (a + 1) with
    | (none, e) => (none, e)
    | (some p, e) => match nmL (T.drop e) with
      | (none, n) => (none, e + n)
      | (some (l, h), n) => (some (.tuple [.str (kS "again"), p, .int (l : Nat), h]), e + n)
def kNot : List Nat := [110, 111, 116]
def kAgn : List Nat := [97, 103, 97, 105, 110]
def rdP (go : Nat → Option PyData × Nat) (T w : List Nat) : Nat → List PyData → Nat → Option PyData × Nat
  | 0, _, a => (none, a)
  | g + 1, ps, a =>
    if hdIn (T.drop a) [32] = true ∧ (w ≠ kNot ∨ ps = []) then match go (a + 1) with
      | (none, e) => (none, e)
      | (some p, e) => rdP go T w g (ps ++ [p]) e
    else if hdIn (T.drop a) [41] = false ∨ (w = kNot ∧ ps = []) then (none, a) else (some (.tuple (.str (S w) :: ps)), a + 1)
def rdE (al T : List Nat) : Nat → Nat → Option PyData × Nat
  | 0, a => (none, a)
  | f + 1, a => if hdIn (T.drop a) [91] = true then rdSL al T (a + 1) else if hdIn (T.drop a) [40] = false then (none, a) else
    match rdW (T.drop (a + 1)) 6 0 with
    | (none, n) => (none, a + 1 + n)
    | (some w, n) => if w = kAgn then rdA (rdE al T f) T (a + 1 + n) else rdP (rdE al T f) T w (T.length + 1) [] (a + 1 + n)
/-! the two readers agree -/
theorem hd_yes {R cs : List Nat} (h : hdIn R cs = true) : ∃ c R', R = c :: R' ∧ c ∈ cs := by
  cases R with
  | nil => cases h
  | cons c R => exact ⟨c, R, rfl, of_decide_eq_true h⟩
theorem hd_one {R : List Nat} {c : Nat} (h : hdIn R [c] = true) : ∃ R', R = c :: R' := by
  obtain ⟨d, R', rfl, hd⟩ := hd_yes h
  rw [List.mem_singleton.mp hd]
  exact ⟨R', rfl⟩
theorem hd_no {R : List Nat} {c : Nat} (h : hdIn R [c] = false) : R.head? ≠ some c := by
  cases R with
  | nil => simp
  | cons d R =>
    have : ¬ d = c := by simpa [hdIn] using h
    simpa using this
def cvS : Except Nat (PyData × Nat) → Option PyData × Nat
  | .ok (d, e) => (some d, e)
  | .error n => (none, n)
theorem rdSL_eq (al T : List Nat) (a : Nat) : cvS (rdSet al T a) = rdSL al T a := by
  unfold rdSet rdSL
  simp only
  generalize setLen al (T.drop a) = n
  generalize hR : T.drop (a + n) = R
  cases R with
  | nil =>
    rfl
  | cons c R =>
    by_cases h : c = 93
    · subst h
      have e1 : stn [[93]] (93 :: R) = some [93] := by simp [stn, List.find?]
      rw [e1]
      have e2 : hdIn (93 :: R) [93] = true := by simp [hdIn]
      rw [if_pos e2]; rfl
    · have e1 : stn [[93]] (c :: R) = none := by simp [stn, List.find?, h]
      have e2 : far [[93]] (c :: R) = 0 := by simp [far, lcp, h]
      have e3 : ¬ hdIn (c :: R) [93] = true := by simp [hdIn, h]
      rw [e1, if_neg e3]
      show (none, a + n + far [[93]] (c :: R)) = _
      rw [e2]; rfl
def cvN (a : Nat) : Option (Nat × PyData) × Nat → Except Nat (Nat × PyData × Nat)
  | (none, n) => .error (a + n)
  | (some (l, h), n) => .ok (l, h, a + n)
/-- the numbers, of what is left of the text -/
def rdNR (R : List Nat) : Option (Nat × PyData) × Nat :=
  match stn lowsL R with
  | none => (none, far lowsL R)
  | some c =>
    match stn (highsL (lowsL.idxOf c)) (R.drop 3) with
    | none => (none, 3 + far (highsL (lowsL.idxOf c)) (R.drop 3))
    | some h => (some (lowsL.idxOf c, hiD h), 5)
theorem rdNums_R (T : List Nat) (a : Nat) : rdNums T a = cvN a (rdNR (T.drop a)) := by
  unfold rdNums rdNR
  rw [List.drop_drop]
  cases h : stn lowsL (T.drop a) with
  | none => rfl
  | some c =>
    show (match stn (highsL (lowsL.idxOf c)) (T.drop (a + 3)) with | none => _ | some h => _) = cvN a (match stn (highsL (lowsL.idxOf c)) (T.drop (a + 3)) with | none => _ | some h => _)
    cases h2 : stn (highsL (lowsL.idxOf c)) (T.drop (a + 3)) with
    | none =>
      show Except.error _ = Except.error _
      rw [Nat.add_assoc]
    | some x => rfl
theorem nh_0 (R : List Nat) : (match stn (highsL 0) R with | none => (none, 3 + far (highsL 0) R) | some h => (some (0, hiD h), 5)) = nmL (32 :: 48 :: 32 :: R) := by
  have eh : highsL 0 = [[42, 41], [48, 41], [49, 41], [50, 41], [51, 41], [52, 41]] := by decide
  rw [eh]
  cases R with
  | nil => rfl
  | cons c3 R3 =>
    by_cases q0 : c3 = 42
    · subst q0
      cases R3 with
      | nil => rfl
      | cons c4 R4 =>
        by_cases h4 : c4 = 41
        · subst h4
          simp [stn, List.find?, nmL, hdIn, D5, hiD]
        · simp [stn, List.find?, far, lcp, nmL, hdIn, D5, h4]
    ·
      by_cases q1 : c3 = 48
      · subst q1
        cases R3 with
        | nil => rfl
        | cons c4 R4 =>
          by_cases h4 : c4 = 41
          · subst h4
            simp [stn, List.find?, nmL, hdIn, D5, hiD]
          · simp [stn, List.find?, far, lcp, nmL, hdIn, D5, h4]
      ·
        by_cases q2 : c3 = 49
        · subst q2
          cases R3 with
          | nil => rfl
          | cons c4 R4 =>
            by_cases h4 : c4 = 41
            · subst h4
              simp [stn, List.find?, nmL, hdIn, D5, hiD]
            · simp [stn, List.find?, far, lcp, nmL, hdIn, D5, h4]
        ·
          by_cases q3 : c3 = 50
          · subst q3
            cases R3 with
            | nil => rfl
            | cons c4 R4 =>
              by_cases h4 : c4 = 41
              · subst h4
                simp [stn, List.find?, nmL, hdIn, D5, hiD]
              · simp [stn, List.find?, far, lcp, nmL, hdIn, D5, h4]
          ·
            by_cases q4 : c3 = 51
            · subst q4
              cases R3 with
              | nil => rfl
              | cons c4 R4 =>
                by_cases h4 : c4 = 41
                · subst h4
                  simp [stn, List.find?, nmL, hdIn, D5, hiD]
                · simp [stn, List.find?, far, lcp, nmL, hdIn, D5, h4]
            ·
              by_cases q5 : c3 = 52
              · subst q5
                cases R3 with
                | nil => rfl
                | cons c4 R4 =>
                  by_cases h4 : c4 = 41
                  · subst h4
                    simp [stn, List.find?, nmL, hdIn, D5, hiD]
                  · simp [stn, List.find?, far, lcp, nmL, hdIn, D5, h4]
              ·
                simp [stn, List.find?, far, lcp, nmL, hdIn, D5, q0, q1, q2, q3, q4, q5, Ne.symm q0, Ne.symm q1, Ne.symm q2, Ne.symm q3, Ne.symm q4, Ne.symm q5]
theorem nh_1 (R : List Nat) : (match stn (highsL 1) R with | none => (none, 3 + far (highsL 1) R) | some h => (some (1, hiD h), 5)) = nmL (32 :: 49 :: 32 :: R) := by
  have eh : highsL 1 = [[42, 41], [49, 41], [50, 41], [51, 41], [52, 41]] := by decide
  rw [eh]
  cases R with
  | nil => rfl
  | cons c3 R3 =>
    by_cases q0 : c3 = 42
    · subst q0
      cases R3 with
      | nil => rfl
      | cons c4 R4 =>
        by_cases h4 : c4 = 41
        · subst h4
          simp [stn, List.find?, nmL, hdIn, D5, hiD]
        · simp [stn, List.find?, far, lcp, nmL, hdIn, D5, h4]
    ·
      by_cases q1 : c3 = 49
      · subst q1
        cases R3 with
        | nil => rfl
        | cons c4 R4 =>
          by_cases h4 : c4 = 41
          · subst h4
            simp [stn, List.find?, nmL, hdIn, D5, hiD]
          · simp [stn, List.find?, far, lcp, nmL, hdIn, D5, h4]
      ·
        by_cases q2 : c3 = 50
        · subst q2
          cases R3 with
          | nil => rfl
          | cons c4 R4 =>
            by_cases h4 : c4 = 41
            · subst h4
              simp [stn, List.find?, nmL, hdIn, D5, hiD]
            · simp [stn, List.find?, far, lcp, nmL, hdIn, D5, h4]
        ·
          by_cases q3 : c3 = 51
          · subst q3
            cases R3 with
            | nil => rfl
            | cons c4 R4 =>
              by_cases h4 : c4 = 41
              · subst h4
                simp [stn, List.find?, nmL, hdIn, D5, hiD]
              · simp [stn, List.find?, far, lcp, nmL, hdIn, D5, h4]
          ·
            by_cases q4 : c3 = 52
            · subst q4
              cases R3 with
              | nil => rfl
              | cons c4 R4 =>
                by_cases h4 : c4 = 41
                · subst h4
                  simp [stn, List.find?, nmL, hdIn, D5, hiD]
                · simp [stn, List.find?, far, lcp, nmL, hdIn, D5, h4]
            ·
              simp [stn, List.find?, far, lcp, nmL, hdIn, D5, q0, q1, q2, q3, q4, Ne.symm q0, Ne.symm q1, Ne.symm q2, Ne.symm q3, Ne.symm q4]
theorem nh_2 (R : List Nat) : (match stn (highsL 2) R with | none => (none, 3 + far (highsL 2) R) | some h => (some (2, hiD h), 5)) = nmL (32 :: 50 :: 32 :: R) := by
  have eh : highsL 2 = [[42, 41], [50, 41], [51, 41], [52, 41]] := by decide
  rw [eh]
  cases R with
  | nil => rfl
  | cons c3 R3 =>
    by_cases q0 : c3 = 42
    · subst q0
      cases R3 with
      | nil => rfl
      | cons c4 R4 =>
        by_cases h4 : c4 = 41
        · subst h4
          simp [stn, List.find?, nmL, hdIn, D5, hiD]
        · simp [stn, List.find?, far, lcp, nmL, hdIn, D5, h4]
    ·
      by_cases q1 : c3 = 50
      · subst q1
        cases R3 with
        | nil => rfl
        | cons c4 R4 =>
          by_cases h4 : c4 = 41
          · subst h4
            simp [stn, List.find?, nmL, hdIn, D5, hiD]
          · simp [stn, List.find?, far, lcp, nmL, hdIn, D5, h4]
      ·
        by_cases q2 : c3 = 51
        · subst q2
          cases R3 with
          | nil => rfl
          | cons c4 R4 =>
            by_cases h4 : c4 = 41
            · subst h4
              simp [stn, List.find?, nmL, hdIn, D5, hiD]
            · simp [stn, List.find?, far, lcp, nmL, hdIn, D5, h4]
        ·
          by_cases q3 : c3 = 52
          · subst q3
            cases R3 with
            | nil => rfl
            | cons c4 R4 =>
              by_cases h4 : c4 = 41
              · subst h4
                simp [stn, List.find?, nmL, hdIn, D5, hiD]
              · simp [stn, List.find?, far, lcp, nmL, hdIn, D5, h4]
          ·
            simp [stn, List.find?, far, lcp, nmL, hdIn, D5, q0, q1, q2, q3, Ne.symm q0, Ne.symm q1, Ne.symm q2, Ne.symm q3]
theorem nh_3 (R : List Nat) : (match stn (highsL 3) R with | none => (none, 3 + far (highsL 3) R) | some h => (some (3, hiD h), 5)) = nmL (32 :: 51 :: 32 :: R) := by
  have eh : highsL 3 = [[42, 41], [51, 41], [52, 41]] := by decide
  rw [eh]
  cases R with
  | nil => rfl
  | cons c3 R3 =>
    by_cases q0 : c3 = 42
    · subst q0
      cases R3 with
      | nil => rfl
      | cons c4 R4 =>
        by_cases h4 : c4 = 41
        · subst h4
          simp [stn, List.find?, nmL, hdIn, D5, hiD]
        · simp [stn, List.find?, far, lcp, nmL, hdIn, D5, h4]
    ·
      by_cases q1 : c3 = 51
      · subst q1
        cases R3 with
        | nil => rfl
        | cons c4 R4 =>
          by_cases h4 : c4 = 41
          · subst h4
            simp [stn, List.find?, nmL, hdIn, D5, hiD]
          · simp [stn, List.find?, far, lcp, nmL, hdIn, D5, h4]
      ·
        by_cases q2 : c3 = 52
        · subst q2
          cases R3 with
          | nil => rfl
          | cons c4 R4 =>
            by_cases h4 : c4 = 41
            · subst h4
              simp [stn, List.find?, nmL, hdIn, D5, hiD]
            · simp [stn, List.find?, far, lcp, nmL, hdIn, D5, h4]
        ·
          simp [stn, List.find?, far, lcp, nmL, hdIn, D5, q0, q1, q2, Ne.symm q0, Ne.symm q1, Ne.symm q2]
theorem nh_4 (R : List Nat) : (match stn (highsL 4) R with | none => (none, 3 + far (highsL 4) R) | some h => (some (4, hiD h), 5)) = nmL (32 :: 52 :: 32 :: R) := by
  have eh : highsL 4 = [[42, 41], [52, 41]] := by decide
  rw [eh]
  cases R with
  | nil => rfl
  | cons c3 R3 =>
    by_cases q0 : c3 = 42
    · subst q0
      cases R3 with
      | nil => rfl
      | cons c4 R4 =>
        by_cases h4 : c4 = 41
        · subst h4
          simp [stn, List.find?, nmL, hdIn, D5, hiD]
        · simp [stn, List.find?, far, lcp, nmL, hdIn, D5, h4]
    ·
      by_cases q1 : c3 = 52
      · subst q1
        cases R3 with
        | nil => rfl
        | cons c4 R4 =>
          by_cases h4 : c4 = 41
          · subst h4
            simp [stn, List.find?, nmL, hdIn, D5, hiD]
          · simp [stn, List.find?, far, lcp, nmL, hdIn, D5, h4]
      ·
        simp [stn, List.find?, far, lcp, nmL, hdIn, D5, q0, q1, Ne.symm q0, Ne.symm q1]
theorem nr_eq (R : List Nat) : rdNR R = nmL R := by
  cases R with
  | nil => rfl
  | cons c0 R0 =>
    by_cases h0 : c0 = 32
    · subst h0
      cases R0 with
      | nil => rfl
      | cons c1 R1 =>
        by_cases g0 : c1 = 48
        · subst g0
          cases R1 with
          | nil => rfl
          | cons c2 R2 =>
            by_cases h2 : c2 = 32
            · subst h2
              have e1 : stn lowsL (32 :: 48 :: 32 :: R2) = some [32, 48, 32] := by simp [stn, lowsL, List.find?]
              have e2 : lowsL.idxOf [32, 48, 32] = 0 := by decide
              have e3 : rdNR (32 :: 48 :: 32 :: R2) = match stn (highsL 0) R2 with | none => (none, 3 + far (highsL 0) R2) | some h => (some (0, hiD h), 5) := by
                unfold rdNR
                rw [e1]
                show (match stn (highsL (lowsL.idxOf [32, 48, 32])) R2 with | none => _ | some h => _) = _
                rw [e2]; rfl
              rw [e3]
              exact nh_0 R2
            · have e1 : stn lowsL (32 :: 48 :: c2 :: R2) = none := by simp [stn, lowsL, List.find?, h2]
              have e2 : far lowsL (32 :: 48 :: c2 :: R2) = 2 := by simp [far, lowsL, lcp, h2]
              unfold rdNR
              rw [e1]
              show (none, far lowsL (32 :: 48 :: c2 :: R2)) = _
              rw [e2]
              simp [nmL, hdIn, D5, h2]
        ·
          by_cases g1 : c1 = 49
          · subst g1
            cases R1 with
            | nil => rfl
            | cons c2 R2 =>
              by_cases h2 : c2 = 32
              · subst h2
                have e1 : stn lowsL (32 :: 49 :: 32 :: R2) = some [32, 49, 32] := by simp [stn, lowsL, List.find?]
                have e2 : lowsL.idxOf [32, 49, 32] = 1 := by decide
                have e3 : rdNR (32 :: 49 :: 32 :: R2) = match stn (highsL 1) R2 with | none => (none, 3 + far (highsL 1) R2) | some h => (some (1, hiD h), 5) := by
                  unfold rdNR
                  rw [e1]
                  show (match stn (highsL (lowsL.idxOf [32, 49, 32])) R2 with | none => _ | some h => _) = _
                  rw [e2]; rfl
                rw [e3]
                exact nh_1 R2
              · have e1 : stn lowsL (32 :: 49 :: c2 :: R2) = none := by simp [stn, lowsL, List.find?, h2]
                have e2 : far lowsL (32 :: 49 :: c2 :: R2) = 2 := by simp [far, lowsL, lcp, h2]
                unfold rdNR
                rw [e1]
                show (none, far lowsL (32 :: 49 :: c2 :: R2)) = _
                rw [e2]
                simp [nmL, hdIn, D5, h2]
          ·
            by_cases g2 : c1 = 50
            · subst g2
              cases R1 with
              | nil => rfl
              | cons c2 R2 =>
                by_cases h2 : c2 = 32
                · subst h2
                  have e1 : stn lowsL (32 :: 50 :: 32 :: R2) = some [32, 50, 32] := by simp [stn, lowsL, List.find?]
                  have e2 : lowsL.idxOf [32, 50, 32] = 2 := by decide
                  have e3 : rdNR (32 :: 50 :: 32 :: R2) = match stn (highsL 2) R2 with | none => (none, 3 + far (highsL 2) R2) | some h => (some (2, hiD h), 5) := by
                    unfold rdNR
                    rw [e1]
                    show (match stn (highsL (lowsL.idxOf [32, 50, 32])) R2 with | none => _ | some h => _) = _
                    rw [e2]; rfl
                  rw [e3]
                  exact nh_2 R2
                · have e1 : stn lowsL (32 :: 50 :: c2 :: R2) = none := by simp [stn, lowsL, List.find?, h2]
                  have e2 : far lowsL (32 :: 50 :: c2 :: R2) = 2 := by simp [far, lowsL, lcp, h2]
                  unfold rdNR
                  rw [e1]
                  show (none, far lowsL (32 :: 50 :: c2 :: R2)) = _
                  rw [e2]
                  simp [nmL, hdIn, D5, h2]
            ·
              by_cases g3 : c1 = 51
              · subst g3
                cases R1 with
                | nil => rfl
                | cons c2 R2 =>
                  by_cases h2 : c2 = 32
                  · subst h2
                    have e1 : stn lowsL (32 :: 51 :: 32 :: R2) = some [32, 51, 32] := by simp [stn, lowsL, List.find?]
                    have e2 : lowsL.idxOf [32, 51, 32] = 3 := by decide
                    have e3 : rdNR (32 :: 51 :: 32 :: R2) = match stn (highsL 3) R2 with | none => (none, 3 + far (highsL 3) R2) | some h => (some (3, hiD h), 5) := by
                      unfold rdNR
                      rw [e1]
                      show (match stn (highsL (lowsL.idxOf [32, 51, 32])) R2 with | none => _ | some h => _) = _
                      rw [e2]; rfl
                    rw [e3]
                    exact nh_3 R2
                  · have e1 : stn lowsL (32 :: 51 :: c2 :: R2) = none := by simp [stn, lowsL, List.find?, h2]
                    have e2 : far lowsL (32 :: 51 :: c2 :: R2) = 2 := by simp [far, lowsL, lcp, h2]
                    unfold rdNR
                    rw [e1]
                    show (none, far lowsL (32 :: 51 :: c2 :: R2)) = _
                    rw [e2]
                    simp [nmL, hdIn, D5, h2]
              ·
                by_cases g4 : c1 = 52
                · subst g4
                  cases R1 with
                  | nil => rfl
                  | cons c2 R2 =>
                    by_cases h2 : c2 = 32
                    · subst h2
                      have e1 : stn lowsL (32 :: 52 :: 32 :: R2) = some [32, 52, 32] := by simp [stn, lowsL, List.find?]
                      have e2 : lowsL.idxOf [32, 52, 32] = 4 := by decide
                      have e3 : rdNR (32 :: 52 :: 32 :: R2) = match stn (highsL 4) R2 with | none => (none, 3 + far (highsL 4) R2) | some h => (some (4, hiD h), 5) := by
                        unfold rdNR
                        rw [e1]
                        show (match stn (highsL (lowsL.idxOf [32, 52, 32])) R2 with | none => _ | some h => _) = _
                        rw [e2]; rfl
                      rw [e3]
                      exact nh_4 R2
                    · have e1 : stn lowsL (32 :: 52 :: c2 :: R2) = none := by simp [stn, lowsL, List.find?, h2]
                      have e2 : far lowsL (32 :: 52 :: c2 :: R2) = 2 := by simp [far, lowsL, lcp, h2]
                      unfold rdNR
                      rw [e1]
                      show (none, far lowsL (32 :: 52 :: c2 :: R2)) = _
                      rw [e2]
                      simp [nmL, hdIn, D5, h2]
                ·
                  have e1 : stn lowsL (32 :: c1 :: R1) = none := by simp [stn, lowsL, List.find?, g0, g1, g2, g3, g4]
                  have e2 : far lowsL (32 :: c1 :: R1) = 1 := by simp [far, lowsL, lcp, g0, g1, g2, g3, g4, Ne.symm g0, Ne.symm g1, Ne.symm g2, Ne.symm g3, Ne.symm g4]
                  unfold rdNR
                  rw [e1]
                  show (none, far lowsL (32 :: c1 :: R1)) = _
                  rw [e2]
                  simp [nmL, hdIn, D5, g0, g1, g2, g3, g4]
    · have e1 : stn lowsL (c0 :: R0) = none := by simp [stn, lowsL, List.find?, h0]
      have e2 : far lowsL (c0 :: R0) = 0 := by simp [far, lowsL, lcp, h0]
      unfold rdNR
      rw [e1]
      show (none, far lowsL (c0 :: R0)) = _
      rw [e2]
      simp [nmL, hdIn, h0]

end Cs
namespace Cs
open PySem L2
open PyProof.Rows (envOfC)
/-! the two readers agree -/
def W4 : List (List Nat) := [[114, 111, 119], [97, 110, 121], [97, 108, 108], [110, 111, 116]]
theorem w4_S : ∀ w ∈ W4, S w ≠ kS "again" ∧ (w = kNot ↔ S w = kS "not") := by decide +kernel
theorem wd_cases {w : List Nat} (h : w ∈ WD) : w = kAgn ∨ w ∈ W4 := by
  simp only [WD, List.mem_cons, List.not_mem_nil, or_false] at h
  rcases h with rfl | rfl | rfl | rfl | rfl
  · exact .inr (by decide)
  · exact .inr (by decide)
  · exact .inr (by decide)
  · exact .inr (by decide)
  · exact .inl rfl
theorem wd_len : ∀ w ∈ WD, 3 ≤ w.length := by decide
theorem rdE_zero {al T : List Nat} {f a : Nat} (h : T.length ≤ a) : rdE al T f a = (none, a) := by
  cases f with
  | zero => rfl
  | succ f =>
    have e : T.drop a = [] := List.drop_eq_nil_of_le h
    rw [rdE, e]; rfl
/-- what one call answers, in the other reader's words -/
def Ans (al T : List Nat) (k : Nat) (fs : List Fr) (r : Option PyData × Nat) : Rz := match r with
  | (some d, e) => clsF (prs al T k) T fs d e
  | (none, e) => some (.error e)
def Sim (al T : List Nat) (f a : Nat) : Prop := ∃ c, ∀ fs k, prs al T (k + c) fs a = Ans al T k fs (rdE al T f a)
/-- a call goes on, and not beyond the text -/
def Fwd (T : List Nat) (a : Nat) (r : Option PyData × Nat) : Prop := ∀ d e, r = (some d, e) → a < e ∧ e ≤ T.length
theorem hd_lt {T cs : List Nat} {a : Nat} (h : hdIn (T.drop a) cs = true) : a < T.length := by
  obtain ⟨c, R, e, _⟩ := hd_yes h
  have := congrArg List.length e
  rw [List.length_drop, List.length_cons] at this
  omega
theorem rdSL_fwd (al T : List Nat) (a : Nat) : Fwd T a (rdSL al T a) := by
  intro d e h
  unfold rdSL at h
  split at h
  · rename_i h1
    have := hd_lt h1
    cases h
    omega
  · cases h
theorem nmL_five {R : List Nat} {x : Nat × PyData} {n : Nat} (h : nmL R = (some x, n)) : n = 5 ∧ hdIn (R.drop 4) [41] = true := by
  cases z : hdIn (R.drop 4) [41] with
  | false =>
    exfalso
    unfold nmL at h
    rw [z] at h
    repeat' split at h
    all_goals first | (injection h with h1 h2; cases h1; done) | contradiction | simp_all
  | true =>
    unfold nmL at h
    rw [z] at h
    repeat' split at h
    all_goals first | (injection h with h1 h2; cases h1; done) | (injection h with h1 h2; exact ⟨h2.symm, rfl⟩)
theorem rdA_fwd {go : Nat → Option PyData × Nat} {T : List Nat} {a : Nat} (hgo : ∀ b, a < b → Fwd T b (go b)) : Fwd T a (rdA go T a) := by
  intro d e h
  unfold rdA at h
  split at h
  · cases h
  · split at h
    · cases h
    · rename_i p e1 hp
      have := hgo (a + 1) (by omega) p e1 hp
      split at h
      · cases h
      · rename_i l h2 n hn
        obtain ⟨rfl, h5⟩ := nmL_five hn
        rw [List.drop_drop] at h5
        have := hd_lt h5
        cases h
        omega
theorem rdP_fwd {go : Nat → Option PyData × Nat} {T w : List Nat} : ∀ (g : Nat) (ps : List PyData) (a : Nat), (∀ b, a < b → Fwd T b (go b)) → Fwd T a (rdP go T w g ps a)
  | 0, ps, a, _ => fun d e h => by cases h
  | g + 1, ps, a, hgo => by
    intro d e h
    rw [rdP] at h
    split at h
    · split at h
      · cases h
      · rename_i p e1 hp
        have h1 := hgo (a + 1) (by omega) p e1 hp
        have := rdP_fwd g (ps ++ [p]) e1 (fun b hb => hgo b (by omega)) d e h
        omega
    · split at h
      · cases h
      · rename_i h1
        have h2 : hdIn (T.drop a) [41] = true := by
          cases z : hdIn (T.drop a) [41] with
          | true => rfl
          | false => exact absurd (.inl z) h1
        have := hd_lt h2
        cases h
        omega
theorem rdE_fwd (al T : List Nat) : ∀ f a, Fwd T a (rdE al T f a)
  | 0, a => fun d e h => by cases h
  | f + 1, a => by
    have ih := rdE_fwd al T f
    intro d e h
    rw [rdE] at h
    split at h
    · have := rdSL_fwd al T (a + 1) d e h; omega
    · split at h
      · cases h
      · split at h
        · cases h
        · split at h
          · have := rdA_fwd (fun b _ => ih b) d e h; omega
          · have := rdP_fwd _ _ _ (fun b _ => ih b) d e h; omega
theorem stn_b1 {R : List Nat} (h : hdIn R [91] = true) : stn BG R = some [91] := by
  obtain ⟨R', rfl⟩ := hd_one h
  simp [stn, BG, List.find?]
theorem stn_b0 {R : List Nat} (h1 : ¬ hdIn R [91] = true) (h2 : hdIn R [40] = false) : stn BG R = none ∧ far BG R = 0 := by
  cases R with
  | nil => decide
  | cons c R =>
    have a1 : ¬ c = 91 := by simpa [hdIn] using h1
    have a2 : ¬ c = 40 := by simpa [hdIn] using h2
    exact ⟨by simp [stn, BG, List.find?, a1, a2], by simp [far, BG, lcp, a1, a2]⟩
theorem marks_hd {w : List Nat} (hw : w ∈ W4) (R : List Nat) :
    (hdIn R [41] = true → stn (marksL (S w)) R = some [41]) ∧ (hdIn R [41] = false → (w = kNot ∨ hdIn R [32] = false) → stn (marksL (S w)) R = none ∧ far (marksL (S w)) R = 0) ∧ (w ≠ kNot → hdIn R [32] = true → stn (marksL (S w)) R = some [32]) := by
  obtain ⟨_, h2⟩ := w4_S w hw
  unfold marksL
  by_cases z : w = kNot
  · rw [if_pos (h2.mp z)]
    refine ⟨fun h => ?_, fun h _ => ?_, fun h => absurd z h⟩
    · obtain ⟨R', rfl⟩ := hd_one h
      simp [stn, List.find?]
    · cases R with
      | nil => decide
      | cons c R =>
        have a1 : ¬ c = 41 := by simpa [hdIn] using h
        exact ⟨by simp [stn, List.find?, a1], by simp [far, lcp, a1]⟩
  · rw [if_neg (fun q => z (h2.mpr q))]
    refine ⟨fun h => ?_, fun h h3 => ?_, fun _ h => ?_⟩
    · obtain ⟨R', rfl⟩ := hd_one h
      simp [stn, List.find?]
    · rcases h3 with h3 | h3
      · exact absurd h3 z
      · cases R with
        | nil => decide
        | cons c R =>
          have a1 : ¬ c = 41 := by simpa [hdIn] using h
          have a2 : ¬ c = 32 := by simpa [hdIn] using h3
          exact ⟨by simp [stn, List.find?, a1, a2], by simp [far, lcp, a1, a2]⟩
    · obtain ⟨R', rfl⟩ := hd_one h
      simp [stn, List.find?]
/-- behind a part: the loop of the one, the frames of the other -/
theorem simP {al T w : List Nat} {f : Nat} (hw : w ∈ W4) : ∀ (g : Nat) (done : List PyData) (p : PyData) (a : Nat), T.length < a + g → (∀ b, a < b → Sim al T f b) →
    ∃ c, ∀ fs k, clsF (prs al T (k + c)) T ((S w, done) :: fs) p a = Ans al T k fs (rdP (rdE al T f) T w g (done ++ [p]) a) := by
  obtain ⟨n2, n3⟩ := w4_S w hw
  intro g
  induction g with
  | zero =>
    intro done p a hg _
    refine ⟨0, fun fs k => ?_⟩
    have e : T.drop a = [] := List.drop_eq_nil_of_le (by omega)
    obtain ⟨_, m2, _⟩ := marks_hd hw (T.drop a)
    obtain ⟨q1, q2⟩ := m2 (by rw [e]; rfl) (.inr (by rw [e]; rfl))
    rw [clsF, putN, if_neg n2, q1, q2]
    rfl
  | succ g ih =>
    intro done p a hg hS
    obtain ⟨m1, m2, m3⟩ := marks_hd hw (T.drop a)
    have hne : done ++ [p] ≠ [] := by simp
    by_cases h41 : hdIn (T.drop a) [41] = true
    · refine ⟨0, fun fs k => ?_⟩
      have h32 : ¬ hdIn (T.drop a) [32] = true := by
        obtain ⟨R', e⟩ := hd_one h41
        rw [e]; simp [hdIn]
      rw [rdP, if_neg (fun z => h32 z.1), if_neg (fun z => by
        rcases z with z | z
        · rw [h41] at z; cases z
        · exact hne z.2)]
      rw [clsF, putN, if_neg n2, m1 h41]
      rfl
    · have h41' : hdIn (T.drop a) [41] = false := by
        cases z : hdIn (T.drop a) [41] with
        | true => exact absurd z h41
        | false => rfl
      by_cases h32 : hdIn (T.drop a) [32] = true ∧ w ≠ kNot
      · obtain ⟨c1, hc1⟩ := hS (a + 1) (by omega)
        cases hr : rdE al T f (a + 1) with
        | mk o e =>
          cases o with
          | none =>
            refine ⟨c1, fun fs k => ?_⟩
            rw [rdP, if_pos ⟨h32.1, .inl h32.2⟩, hr]
            rw [clsF, putN, if_neg n2, m3 h32.2 h32.1]
            show prs al T (k + c1) ((S w, done ++ [p]) :: fs) (a + 1) = _
            rw [hc1, hr]; rfl
          | some q =>
            have hf := rdE_fwd al T f (a + 1) q e hr
            obtain ⟨c2, hc2⟩ := ih (done ++ [p]) q e (by omega) (fun b hb => hS b (by omega))
            refine ⟨c2 + c1, fun fs k => ?_⟩
            rw [rdP, if_pos ⟨h32.1, .inl h32.2⟩, hr]
            rw [clsF, putN, if_neg n2, m3 h32.2 h32.1]
            show prs al T (k + (c2 + c1)) ((S w, done ++ [p]) :: fs) (a + 1) = _
            rw [← Nat.add_assoc, hc1, hr]
            show clsF (prs al T (k + c2)) T ((S w, done ++ [p]) :: fs) q e = _
            rw [hc2]
      · refine ⟨0, fun fs k => ?_⟩
        have hor : w = kNot ∨ hdIn (T.drop a) [32] = false := by
          by_cases z : w = kNot
          · exact .inl z
          · refine .inr ?_
            cases y : hdIn (T.drop a) [32] with
            | true => exact absurd ⟨y, z⟩ h32
            | false => rfl
        obtain ⟨q1, q2⟩ := m2 h41' hor
        rw [rdP, if_neg (fun z => by
          rcases z.2 with y | y
          · exact h32 ⟨z.1, y⟩
          · exact hne y), if_pos (.inl h41')]
        rw [clsF, putN, if_neg n2, q1, q2]
        rfl
theorem sim_all {al T : List Nat} : ∀ f a, T.length < a + 5 * f → Sim al T f a := by
  intro f
  induction f with
  | zero =>
    intro a h
    refine ⟨1, fun fs k => ?_⟩
    have e : T.drop a = [] := List.drop_eq_nil_of_le (by omega)
    rw [prs, e]; rfl
  | succ f ih =>
    intro a h
    by_cases h91 : hdIn (T.drop a) [91] = true
    · refine ⟨1, fun fs k => ?_⟩
      rw [rdE, if_pos h91]
      cases hs : rdSet al T (a + 1) with
      | error n =>
        have e := rdSL_eq al T (a + 1)
        rw [hs] at e
        rw [prs_sno (stn_b1 h91) hs, ← e]; rfl
      | ok x =>
        obtain ⟨d, e'⟩ := x
        have e := rdSL_eq al T (a + 1)
        rw [hs] at e
        rw [prs_set (stn_b1 h91) hs, ← e]; rfl
    · by_cases h40 : hdIn (T.drop a) [40] = false
      · refine ⟨1, fun fs k => ?_⟩
        obtain ⟨q1, q2⟩ := stn_b0 h91 h40
        rw [rdE, if_neg h91, if_pos h40, prs_no q1, q2]; rfl
      · have h40' : hdIn (T.drop a) [40] = true := by
          cases z : hdIn (T.drop a) [40] with
          | true => rfl
          | false => exact absurd z h40
        obtain ⟨R, hR⟩ := hd_one h40'
        have hR1 : T.drop (a + 1) = R := drop_at (X := [40]) hR rfl
        have hok := rdW_ok R
        have hE : rdE al T (f + 1) a = match rdW R 6 0 with
            | (none, n) => (none, a + 1 + n)
            | (some w, n) => if w = kAgn then rdA (rdE al T f) T (a + 1 + n) else rdP (rdE al T f) T w (T.length + 1) [] (a + 1 + n) := by
          rw [rdE, if_neg h91, if_neg h40, hR1]; all_goals rfl
        unfold Sim
        rw [hE]
        cases hw : rdW R 6 0 with
        | mk o n =>
          rw [hw] at hok
          cases o with
          | none =>
            refine ⟨1, fun fs k => ?_⟩
            obtain ⟨q1, q2⟩ := hok.no rfl
            rw [← hR] at q1 q2
            rw [prs_no q1, q2]
            show _ = some (Except.error (a + 1 + n))
            rw [Nat.add_assoc]
          | some w =>
            obtain ⟨w1, rfl, w3, w4, w5, w6⟩ := hok.yes w rfl
            have hwl := wd_len w w1
            have hd2 : T.drop (a + 1 + w.length) = R.drop w.length := by rw [← hR1, List.drop_drop]
            show ∃ c, ∀ fs k, prs al T (k + c) fs a = Ans al T k fs (if w = kAgn then rdA (rdE al T f) T (a + 1 + w.length) else rdP (rdE al T f) T w (T.length + 1) [] (a + 1 + w.length))
            rw [← hd2] at w4 w5 w6
            by_cases h32 : hdIn (T.drop (a + 1 + w.length)) [32] = true
            · obtain ⟨R2, hR2⟩ := hd_one h32
              have q1 := w4 (by rw [hR2]; rfl)
              rw [← hR] at q1
              have q2 : (40 :: (w ++ [32])) ≠ [91] := by simp
              have q3 : ¬ (40 :: (w ++ [32])).getLast? = some 41 := by
                rw [← List.cons_append, List.getLast?_append]; simp
              have q4 : wrd (40 :: (w ++ [32])) = S w := by unfold wrd; simp
              have q5 : (40 :: (w ++ [32])).length = w.length + 2 := by simp
              have hin : ∀ b, a + 1 + w.length < b → Sim al T f b := fun b hb => ih b (by omega)
              have step : ∀ fs k, prs al T (k + 1) fs a = prs al T k ((S w, []) :: fs) (a + 1 + w.length + 1) := fun fs k => by
                rw [prs_op q1 q2 q3, q4, q5]; congr 1; omega
              obtain ⟨c1, hc1⟩ := hin (a + 1 + w.length + 1) (by omega)
              rcases wd_cases w1 with rfl | hw4
              · rw [if_pos rfl, rdA, if_neg (by rw [h32]; simp)]
                cases hr : rdE al T f (a + 1 + kAgn.length + 1) with
                | mk o e =>
                  cases o with
                  | none =>
                    refine ⟨c1 + 1, fun fs k => ?_⟩
                    rw [← Nat.add_assoc, step, hc1, hr]; rfl
                  | some p =>
                    refine ⟨c1 + 1, fun fs k => ?_⟩
                    rw [← Nat.add_assoc, step, hc1, hr]
                    show clsF (prs al T k) T ((S kAgn, []) :: fs) p e = _
                    have ea : S kAgn = kS "again" := by decide +kernel
                    rw [clsF, putN, if_pos ea, rdNums_R, nr_eq]
                    show _ = Ans al T k fs (match nmL (T.drop e) with | (none, n) => (none, e + n) | (some (l, h), n) => (some (.tuple [.str (kS "again"), p, .int (l : Nat), h]), e + n))
                    cases hn : nmL (T.drop e) with
                    | mk o2 n2 =>
                      cases o2 with
                      | none => rfl
                      | some x =>
                        obtain ⟨l, hh⟩ := x
                        show clsF (prs al T k) T fs (.tuple (.str (S kAgn) :: ([] ++ [p, .int (l : Nat), hh]))) (e + n2) = _
                        rw [ea]; rfl
              · have na : w ≠ kAgn := fun z => by subst z; revert hw4; decide
                rw [if_neg na, rdP, if_pos ⟨h32, .inr rfl⟩]
                cases hr : rdE al T f (a + 1 + w.length + 1) with
                | mk o e =>
                  cases o with
                  | none =>
                    refine ⟨c1 + 1, fun fs k => ?_⟩
                    rw [← Nat.add_assoc, step, hc1, hr]; rfl
                  | some p =>
                    have hf := rdE_fwd al T f (a + 1 + w.length + 1) p e hr
                    obtain ⟨c2, hc2⟩ := simP (f := f) hw4 T.length [] p e (by omega) (fun b hb => ih b (by omega))
                    refine ⟨c2 + (c1 + 1), fun fs k => ?_⟩
                    rw [show k + (c2 + (c1 + 1)) = k + c2 + c1 + 1 by omega, step, hc1, hr]
                    show clsF (prs al T (k + c2)) T ((S w, []) :: fs) p e = _
                    rw [hc2]
            · have h32' : (T.drop (a + 1 + w.length)).head? ≠ some 32 := by
                refine hd_no ?_
                cases z : hdIn (T.drop (a + 1 + w.length)) [32] with
                | true => exact absurd z h32
                | false => rfl
              have h32f : hdIn (T.drop (a + 1 + w.length)) [32] = false := by
                cases z : hdIn (T.drop (a + 1 + w.length)) [32] with
                | true => exact absurd z h32
                | false => rfl
              by_cases h41 : hdIn (T.drop (a + 1 + w.length)) [41] = true ∧ w ≠ kNot ∧ w ≠ kAgn
              · obtain ⟨h41, nn, na⟩ := h41
                obtain ⟨R2, hR2⟩ := hd_one h41
                have q1 := w5 (by rw [hR2]; rfl) nn na
                rw [← hR] at q1
                have q2 : (40 :: (w ++ [41])) ≠ [91] := by simp
                have q3 : (40 :: (w ++ [41])).getLast? = some 41 := by
                  rw [← List.cons_append, List.getLast?_append]; simp
                have q4 : wrd (40 :: (w ++ [41])) = S w := by unfold wrd; simp
                have q5 : (40 :: (w ++ [41])).length = w.length + 2 := by simp
                refine ⟨1, fun fs k => ?_⟩
                rw [prs_one q1 q2 q3, q4, q5, if_neg na, rdP, if_neg (fun z => h32 z.1), if_neg (fun z => by
                  rcases z with z | z
                  · rw [h41] at z; cases z
                  · exact nn z.1)]
                show _ = clsF (prs al T k) T fs (.tuple (.str (S w) :: [])) (a + 1 + w.length + 1)
                congr 1; omega
              · have q := w6 h32' (fun z => by
                  have h41t : hdIn (T.drop (a + 1 + w.length)) [41] = true := by
                    cases e : T.drop (a + 1 + w.length) with
                    | nil => rw [e] at z; cases z
                    | cons c R3 => rw [e] at z; simp at z; simp [hdIn, z]
                  by_cases y : w = kNot
                  · exact .inl y
                  · by_cases y2 : w = kAgn
                    · exact .inr y2
                    · exact absurd ⟨h41t, y, y2⟩ h41)
                rw [← hR] at q
                obtain ⟨q1, q2⟩ := q
                refine ⟨1, fun fs k => ?_⟩
                rw [prs_no q1, q2]
                by_cases na : w = kAgn
                · rw [if_pos na, rdA, if_pos h32f]
                  show _ = some (Except.error (a + 1 + w.length))
                  rw [Nat.add_assoc]
                · rw [if_neg na, rdP, if_neg (fun z => h32 z.1), if_pos (by
                    by_cases y : w = kNot
                    · exact .inr ⟨y, rfl⟩
                    · refine .inl ?_
                      cases z : hdIn (T.drop (a + 1 + w.length)) [41] with
                      | true => exact absurd ⟨z, y, na⟩ h41
                      | false => rfl)]
                  show _ = some (Except.error (a + 1 + w.length))
                  rw [Nat.add_assoc]

end Cs
namespace Cs
open PySem L2
open PyProof.Rows (envOfC)
/-! what the law's reader finds is an expression, of few parts, not deep -/
theorem setLen_sub2 : ∀ (R al : List Nat), (R.take (setLen al R)).Sublist al
  | [], al => by simp
  | c :: R, al => by
    unfold setLen
    split
    · rename_i hc
      rw [List.take_succ_cons]
      have ih := setLen_sub2 R (al.drop (al.idxOf c + 1))
      have hi := List.idxOf_lt_length_of_mem hc
      have e : al.drop (al.idxOf c) = c :: al.drop (al.idxOf c + 1) := by
        rw [List.drop_eq_getElem_cons hi]
        congr 1
        exact List.getElem_idxOf hi
      have h1 : (c :: R.take (setLen (al.drop (al.idxOf c + 1)) R)).Sublist (al.drop (al.idxOf c)) := by
        rw [e]; exact ih.cons_cons c
      exact h1.trans (List.drop_sublist _ _)
    · simp
structure Ro (al T : List Nat) (f : Nat) (d : PyData) : Prop where
  F : mF al d = true
  D : mD d ≤ f
  N : mN d ≤ T.length
theorem Ro.mono {al T : List Nat} {f g : Nat} {d : PyData} (h : Ro al T f d) (hg : f ≤ g) : Ro al T g d := ⟨h.F, Nat.le_trans h.D hg, h.N⟩
theorem rdSL_ro {al T : List Nat} (hA : Alp al) {f a e : Nat} {d : PyData} (h : rdSL al T a = (some d, e)) : Ro al T (f + 1) d := by
  unfold rdSL at h
  split at h
  · rename_i h1
    have hl := hd_lt h1
    injection h with h2 h3
    injection h2 with h2
    subst h2
    have hs := setLen_sub2 (T.drop a) al
    refine ⟨(ex_set hA hs).F, ?_, ?_⟩
    · have e0 : ∀ x : Str, rel (kS "set") [PyData.str x] = [] := fun x => by unfold rel; rw [if_pos rfl]
      unfold dSet
      rw [mD_eq, e0]; show 1 + 0 ≤ f + 1; omega
    · have e0 : ∀ x : Str, rel (kS "set") [PyData.str x] = [] := fun x => by unfold rel; rw [if_pos rfl]
      unfold dSet
      rw [mN_eq, e0]; show max 1 0 ≤ T.length; omega
  · cases h
theorem nmL_ok {R : List Nat} {l n : Nat} {hh : PyData} (h : nmL R = (some (l, hh), n)) : l ≤ 4 ∧ (hh = .none ∨ ∃ m : Int, hh = .int m ∧ (l : Int) ≤ m ∧ m ≤ 4) := by
  unfold nmL at h
  by_cases h0 : hdIn R [32] = false
  · rw [if_pos h0] at h; injection h with h1 h2; cases h1
  rw [if_neg h0] at h
  by_cases h1 : hdIn (R.drop 1) D5 = false
  · rw [if_pos h1] at h; injection h with h1 h2; cases h1
  rw [if_neg h1] at h
  by_cases h2 : hdIn (R.drop 2) [32] = false
  · rw [if_pos h2] at h; injection h with h1 h2; cases h1
  rw [if_neg h2] at h
  by_cases h3 : hdIn (R.drop 3) (42 :: D5.drop ((R.drop 1).headD 0 - 48)) = false
  · rw [if_pos h3] at h; injection h with h1 h2; cases h1
  rw [if_neg h3] at h
  by_cases h4 : hdIn (R.drop 4) [41] = false
  · rw [if_pos h4] at h; injection h with h1 h2; cases h1
  rw [if_neg h4] at h
  injection h with ha hb
  injection ha with ha
  injection ha with ha hc
  have h1' : hdIn (R.drop 1) D5 = true := by
    cases z : hdIn (R.drop 1) D5 with
    | true => rfl
    | false => exact absurd z h1
  have h3' : hdIn (R.drop 3) (42 :: D5.drop ((R.drop 1).headD 0 - 48)) = true := by
    cases z : hdIn (R.drop 3) (42 :: D5.drop ((R.drop 1).headD 0 - 48)) with
    | true => rfl
    | false => exact absurd z h3
  obtain ⟨c1, R1, e1, m1⟩ := hd_yes h1'
  obtain ⟨c3, R3, e3, m3⟩ := hd_yes h3'
  rw [e1] at ha m3
  rw [e3] at hc
  have q1 : c1 - 48 = l := ha
  have q3 : (if c3 = 42 then PyData.none else .int ((c3 : Nat) - 48 : Int)) = hh := hc
  have m3' : c3 ∈ 42 :: D5.drop (c1 - 48) := m3
  rw [q1] at m3'
  simp only [D5, List.mem_cons, List.not_mem_nil, or_false] at m1
  have hl : l ≤ 4 := by omega
  refine ⟨hl, ?_⟩
  by_cases z : c3 = 42
  · rw [if_pos z] at q3; exact .inl q3.symm
  · rw [if_neg z] at q3
    refine .inr ⟨_, q3.symm, ?_, ?_⟩
    all_goals
      have hm : c3 ∈ D5.drop l := by
        rcases List.mem_cons.mp m3' with y | y
        · exact absurd y z
        · exact y
      rcases (by omega : l = 0 ∨ l = 1 ∨ l = 2 ∨ l = 3 ∨ l = 4) with rfl | rfl | rfl | rfl | rfl
      all_goals
        simp only [D5, List.drop, List.mem_cons, List.not_mem_nil, or_false] at hm
        omega
theorem rdA_ro {al T : List Nat} {go : Nat → Option PyData × Nat} {f a e : Nat} {d : PyData} (hgo : ∀ b p e, go b = (some p, e) → Ro al T f p) (h : rdA go T a = (some d, e)) : Ro al T (f + 1) d := by
  unfold rdA at h
  split at h
  · cases h
  · split at h
    · cases h
    · rename_i p e1 hp
      have r := hgo _ _ _ hp
      split at h
      · cases h
      · rename_i l h2 n hn
        obtain ⟨rfl, h5⟩ := nmL_five hn
        rw [List.drop_drop] at h5
        have hT := hd_lt h5
        obtain ⟨l4, hh⟩ := nmL_ok hn
        injection h with ha _
        injection ha with ha
        subst ha
        have n1 : kS "again" ≠ kS "set" := by decide +kernel
        have n3 : kS "again" ≠ kS "not" := by decide +kernel
        have er : rel (kS "again") [p, .int (l : Nat), h2] = [p] := by unfold rel; rw [if_neg n1, if_pos rfl]; rfl
        have h3 : mThree [p, .int (l : Nat), h2] = true := by
          rcases hh with rfl | ⟨m, rfl, m0, m4⟩
          · exact AgOk.three (f := (l : Int) + 1) ⟨by omega, by omega, .inl ⟨rfl, rfl⟩⟩
          · exact AgOk.three (f := m1 m) ⟨by omega, by omega, .inr ⟨m, rfl, m0, m4, rfl⟩⟩
        refine ⟨?_, ?_, ?_⟩
        · rw [mF_eq, er, mWF_eq, if_neg n1, if_neg n3, if_pos rfl, h3]
          simp [r.F]
        · rw [mD_eq, er]
          have := r.D
          simp; omega
        · rw [mN_eq, er]
          have := r.N
          simp; omega
theorem rdP_ro {al T w : List Nat} (hw : w ∈ W4) {go : Nat → Option PyData × Nat} {f : Nat} (hgo : ∀ b p e, go b = (some p, e) → Ro al T f p) (hfw : ∀ b, Fwd T b (go b)) : ∀ (g : Nat) (ps : List PyData) (a e : Nat) (d : PyData), (∀ p ∈ ps, Ro al T f p) → ps.length ≤ a → (w = kNot → ps.length ≤ 1) → rdP go T w g ps a = (some d, e) → Ro al T (f + 1) d
  | 0, ps, a, e, d, _, _, _, h => by cases h
  | g + 1, ps, a, e, d, hps, hl, hn, h => by
    rw [rdP] at h
    split at h
    · rename_i hc
      split at h
      · cases h
      · rename_i p e1 hp
        have hf := hfw _ p e1 hp
        refine rdP_ro hw hgo hfw g (ps ++ [p]) e1 e d (fun q hq => ?_) (by rw [List.length_append]; show ps.length + 1 ≤ e1; omega) (fun z => ?_) h
        · rcases List.mem_append.mp hq with hq | hq
          · exact hps q hq
          · rw [List.mem_singleton.mp hq]; exact hgo _ _ _ hp
        · rcases hc.2 with y | y
          · exact absurd z y
          · rw [y]; exact Nat.le_refl _
    · split at h
      · cases h
      · rename_i hc
        have h2 : hdIn (T.drop a) [41] = true := by
          cases z : hdIn (T.drop a) [41] with
          | true => rfl
          | false => exact absurd (.inl z) hc
        have hT := hd_lt h2
        injection h with ha _
        injection ha with ha
        subst ha
        have hww : (S w = kS "row" ∨ S w = kS "any" ∨ S w = kS "all") ∨ (S w = kS "not" ∧ w = kNot) := by
          have hb : ∀ w ∈ W4, (S w = kS "row" ∨ S w = kS "any" ∨ S w = kS "all") ∨ (S w = kS "not" ∧ w = kNot) := by decide +kernel
          exact hb w hw
        have n1 : ¬ S w = kS "set" := by rcases hww with (z | z | z) | ⟨z, _⟩ <;> rw [z] <;> decide +kernel
        have n2 : ¬ S w = kS "again" := by rcases hww with (z | z | z) | ⟨z, _⟩ <;> rw [z] <;> decide +kernel
        have er : rel (S w) ps = ps := by unfold rel; rw [if_neg n1, if_neg n2]
        refine ⟨?_, ?_, ?_⟩
        · rw [mF_eq, er, Bool.and_eq_true, List.all_map, List.all_eq_true]
          refine ⟨?_, fun p hp => (hps p hp).F⟩
          rw [mWF_eq, if_neg n1]
          rcases hww with z | ⟨z, zn⟩
          · have n3 : ¬ S w = kS "not" := by rcases z with z | z | z <;> rw [z] <;> decide +kernel
            rw [if_neg n3, if_neg n2]
            rcases z with z | z | z <;> rw [z] <;> decide +kernel
          · rw [if_pos z]
            have l1 := hn zn
            have l0 : ps ≠ [] := fun y => hc (.inr ⟨zn, y⟩)
            have := List.length_pos_iff.mpr l0
            simp; omega
        · rw [mD_eq, er]
          have : (ps.map mD).foldr max 0 ≤ f := foldr_max_le fun x hx => by
            obtain ⟨p, hp, rfl⟩ := List.mem_map.mp hx
            exact (hps p hp).D
          omega
        · rw [mN_eq, er]
          refine Nat.max_le.mpr ⟨by omega, foldr_max_le fun x hx => ?_⟩
          obtain ⟨p, hp, rfl⟩ := List.mem_map.mp hx
          exact (hps p hp).N
theorem rdE_ro {al T : List Nat} (hA : Alp al) : ∀ (f a e : Nat) (d : PyData), rdE al T f a = (some d, e) → Ro al T f d
  | 0, a, e, d, h => by cases h
  | f + 1, a, e, d, h => by
    have ih : ∀ b p e, rdE al T f b = (some p, e) → Ro al T f p := fun b p e h => rdE_ro hA f b e p h
    rw [rdE] at h
    split at h
    · exact rdSL_ro hA h
    · split at h
      · cases h
      · split at h
        · cases h
        · rename_i w n hw
          have hok := rdW_ok (T.drop (a + 1))
          rw [hw] at hok
          obtain ⟨w1, _⟩ := hok.yes w rfl
          split at h
          · exact rdA_ro ih h
          · rename_i na
            rcases wd_cases w1 with z | z
            · exact absurd z na
            · exact rdP_ro z ih (fun b => rdE_fwd al T f b) _ [] _ e d (by simp) (Nat.zero_le _) (fun _ => Nat.zero_le _) h

end Cs
namespace Cs
open PySem L2
open PyProof.Rows (envOfC)
/-! the law's own reader: words, sets -/
theorem inS (u : List Nat) (L : List (List Nat)) : inV (.str (S u)) (sV L) = decide (u ∈ L) := by
  unfold inV
  rw [List.any_map]
  induction L with
  | nil => rfl
  | cons b l ih =>
    rw [List.any_cons, ih]
    have e : (((fun y => eqV y (V.str (S u))) ∘ fun c => V.str (S c)) b) = decide (u = b) := by
      show (S b == S u) = _
      by_cases h : u = b
      · subst h; simp
      · rw [decide_eq_false h]; exact beq_eq_false_iff_ne.mpr (fun z => h (S_inj z).symm)
    rw [e]
    by_cases h : u = b <;> simp [h]
theorem flat_sV (L : List (List Nat)) : (sV L).all flatV = true := by
  rw [List.all_map]; exact List.all_eq_true.mpr fun _ _ => rfl
theorem isBeg_mem (u : List Nat) : isBeg u = decide (u ∈ WD.map fun w => w.take u.length) := by
  unfold isBeg
  rw [Bool.eq_iff_iff, List.any_eq_true, decide_eq_true_eq, List.mem_map]
  simp only [decide_eq_true_eq]
theorem isBeg_len {u : List Nat} (h : isBeg u = true) (hn : u ∉ WD) : u.length ≤ 4 := by
  unfold isBeg at h
  rw [List.any_eq_true] at h
  obtain ⟨w, hw, h⟩ := h
  have h := of_decide_eq_true h
  have hl : ∀ w ∈ WD, w.length ≤ 5 := by decide
  have h5 := hl w hw
  have hle := congrArg List.length h
  rw [List.length_take] at hle
  by_cases z : u.length = w.length
  · rw [z, List.take_length] at h
    exact absurd (h ▸ hw) hn
  · omega
theorem wd_vals : ([.str (Str.ofString "row"), .str (Str.ofString "any"), .str (Str.ofString "all"), .str (Str.ofString "not"), .str (Str.ofString "again")] : List V) = sV WD := by
  rw [show Str.ofString "row" = S [114, 111, 119] by decide +kernel, show Str.ofString "any" = S [97, 110, 121] by decide +kernel, show Str.ofString "all" = S [97, 108, 108] by decide +kernel, show Str.ofString "not" = S [110, 111, 116] by decide +kernel, show Str.ofString "again" = S [97, 103, 97, 105, 110] by decide +kernel]
  rfl
def wV : Option (List Nat) → V
  | none => .non
  | some w => .str (S w)
def sp_rword : Sp := fun vs H Q _ => ∃ (T : List Nat) (a : Nat), vs = [.str (S T), .int (a : Nat)] ∧ T.length ≤ 90000 ∧ a ≤ T.length ∧ ∀ (t : Addr) (H' : Hp), Same H H' → H' t = some (.tup [wV (rdW (T.drop a) 6 0).1, .int ((a + (rdW (T.drop a) 6 0).2 : Nat) : Int)]) → Q (.ref t) H'
theorem use_rword {T : List Nat} {a : Nat} {H : Hp} {Q : VK} {E : XK} (hT : T.length ≤ 90000) (ha : a ≤ T.length) (k : ∀ (t : Addr) (H' : Hp), Same H H' → H' t = some (.tup [wV (rdW (T.drop a) 6 0).1, .int ((a + (rdW (T.drop a) 6 0).2 : Nat) : Int)]) → Q (.ref t) H') : sp_rword [.str (S T), .int (a : Nat)] H Q E := ⟨T, a, rfl, hT, ha, k⟩
section
variable {P : Program} {w : World} {K : PySem.W.Frag} {mg : Str → Option Value} {base : Heap}
theorem ok_rword (B : Blt mg) (F : At K mg "_law_read_word" s__law_read_word ["_law_text", "_law_at"]) : Cal P w K mg base 1 "_law_read_word" ["_law_text", "_law_at"] sp_rword := by
  refine F.ok (k := 0) sc__law_read_word (fun vs H Q E h => ?_) (fun f cdv A outer s H vs Q E hr h => ?_)
  · obtain ⟨T, a, rfl, _⟩ := h
    rfl
  · obtain ⟨T, a, rfl, hT, ha, k⟩ := h
    have zT : T.length ≤ sizeLine := by rw [PySem.sizeLine_eq]; omega
    refine ⟨_, (pss_cons (ps_set (i := 2) sc__law_read_word.nd rfl (Or.inl rfl) (pe_lst (pa_cons pe_str (pa_cons pe_str (pa_cons pe_str (pa_cons pe_str (pa_cons pe_str pa_nil)))))))
    (pss_cons (ps_set (i := 3) sc__law_read_word.nd rfl (Or.inl rfl) (pv 1))
    (pss_cons (ps_while PassesOwn.never (pt_cmpR op_lt (pv 3) (pe_callB call_len_str (by rfl) B.len PySem.boot_len (pa_cons (pv 0) pa_nil)) (nomark _))
    (pss_cons (ps_set (i := 4) sc__law_read_word.nd rfl (Or.inr rfl) (pe_slice sl_str (pv 0) (po_some (pv 1)) (po_some (pe_op op_add (pv 3) pe_int))))
    (pss_cons (ps_if (pt_cmpR (op_notIn_seqK (K := K) (by rfl)) (pv 4) (pe_lc (own := [("_law_word", 5)]) rfl sc__law_read_word.nd (pi_listK (K := K) (by rfl) (pv 2)) (blkOk_by (N := ["_law_text", "_law_at", "_law_words", "_law_far", "_law_begun", "_law_word"]) (sc := defScope s__law_read_word) (by decide +kernel)) (fun _ _ _ _ _ => (pg_name (i := 5) sc__law_read_word.nd rfl (Or.inl rfl))) (fun _ _ _ _ _ => pts_nil) (fun _ _ _ _ _ => (pe_slice sl_str (pv 5) po_none (po_some (pe_callB call_len_str (by rfl) B.len PySem.boot_len (pa_cons (pv 4) pa_nil)))))) (by first | rfl | decide))
    (pss_one (ps_ret (pe_tup (pa_cons pe_non (pa_cons (pv 3) pa_nil)))))
    pss_nil)
    (pss_cons (ps_set (i := 3) sc__law_read_word.nd rfl (Or.inl rfl) (pe_op op_add (pv 3) pe_int))
    (pss_one (ps_if (pt_cmpR (op_in_seqK (K := K) (by rfl)) (pv 4) (pv 2) (by first | rfl | decide))
    (pss_one (ps_ret (pe_tup (pa_cons (pv 4) (pa_cons (pv 3) pa_nil)))))
    pss_nil))))))
    (pss_one (ps_ret (pe_tup (pa_cons pe_non (pa_cons (pv 3) pa_nil)))))))), ?_⟩
    walk_at "go"
    refine ⟨by show 5 ≤ sizeLine; decide, rd_new fun L H1 hL eL s1 => ?_⟩
    rw [wd_vals] at eL
    walk_at "go"
    generalize hR : T.drop a = R at k
    have lR : R.length = T.length - a := by rw [← hR, List.length_drop]
    refine rd_whileI (m0 := 6) (fun m σ H' => ∃ (n : Nat) (x4 x5 : Option V), σ = [some (.str (S T)), some (.int (a : Nat)), some (.ref L), some (.int ((a + n : Nat) : Int)), x4, x5] ∧ Same H1 H' ∧ m + n = 6 ∧ rdW R m n = rdW R 6 0 ∧ n ≤ R.length ∧ n ≤ 4) ⟨0, _, _, rfl, Same.refl _, rfl, rfl, Nat.zero_le _, by omega⟩ ?_
    rintro m σ H2 ⟨n, x4, x5, rfl, s2, hmn, hrd, hn, hn4⟩
    obtain ⟨j, rfl⟩ : ∃ j, m = j + 1 := ⟨m - 1, by omega⟩
    have eL2 := s2 _ _ eL
    walk_at "go"
    refine ⟨S T, rfl, by rw [S_len]; exact zT, ?_⟩
    rw [S_len]
    walk_at "go"
    refine ite2 (fun z => ?_) (fun z => ?_)
    · have z : n < R.length := by have := of_decide_eq_true z; omega
      refine ⟨_, fun σ' H' y => y, ?_⟩
      walk_at "go"
      refine rd_sls (by rw [S_len]; exact zT) ?_
      rw [show ((a + n : Nat) : Int) + 1 = (a : Int) + ((n + 1 : Nat) : Int) by omega, cutS_at, hR]
      walk_at "go"
      refine ⟨L, rfl, ⟨_, SqL.of eL2⟩, ?_⟩
      intro D hD
      have lu : (R.take (n + 1)).length = n + 1 := by rw [List.length_take]; omega
      refine lc_list (xs := sV WD) (fun i H' => H' D = some (.lst (sV ((WD.take i).map fun w => w.take (R.take (n + 1)).length))) ∧ Same H2 H') ⟨upd_same, Same.lay hD⟩ (fun i H' _ y => L2.Same.seq y.2 (SqL.of eL2)) ?_ ?_
      · rintro i y H' hi ⟨eD, sm⟩
        obtain ⟨c, hc, rfl⟩ := sV_get hi
        have lc : c.length ≤ 5 := by
          have hl : ∀ w ∈ WD, w.length ≤ 5 := by decide
          exact hl c (List.mem_of_getElem? hc)
        walk_at "go"
        refine ⟨rfl, ?_⟩
        walk_at "go"
        refine ⟨S (R.take (n + 1)), rfl, by rw [S_len, lu, PySem.sizeLine_eq]; omega, ?_⟩
        walk_at "go"
        refine rd_sls (by rw [S_len, PySem.sizeLine_eq]; omega) ?_
        have ec : cutS (S c) none (some (((S (R.take (n + 1))).length : Nat) : Int)) = S (c.take (R.take (n + 1)).length) := by
          rw [S_len]
          by_cases q : (R.take (n + 1)).length ≤ c.length
          · exact cutS_take c _ q
          · have e7 : c.take (R.take (n + 1)).length = c := List.take_of_length_le (by omega)
            rw [e7]
            unfold cutS
            rw [HT.sIx_none, HT.sIx_nat, S_len, Nat.min_eq_right (by omega)]
            simp [S]
        rw [ec]
        refine ⟨_, eD, by rw [List.length_map, List.length_map, List.length_take, PySem.sizeLine_eq]; have : WD.length = 5 := rfl; omega, ?_, Same.lay2 sm hD⟩
        rw [upd_same, map_snoc _ hc, sV, sV, List.map_append]; rfl
      · rintro H3 ⟨eD, s3⟩
        have el : (sV WD).length = WD.length := List.length_map _
        rw [el, List.take_length] at eD
        have eL3 := s3 _ _ eL2
        have s13 := L2.Same.trans s2 s3
        rw [rdW, if_pos z] at hrd
        refine rd_in (.inl (SqL.of eD)) rfl (flat_sV _) ?_
        rw [if_pos rfl, inS, ← isBeg_mem]
        walk_at "go"
        cases hb : isBeg (R.take (n + 1)) with
        | false =>
          rw [hb, if_neg (by simp)] at hrd
          refine iteT ?_
          walk_at "go"
          refine ⟨by show 2 ≤ sizeLine; decide, rd_new fun t H4 ht et s4 => ?_⟩
          walk_at "go"
          exact k t H4 (L2.Same.trans s1 (L2.Same.trans s13 s4)) (by rw [et, ← hrd]; rfl)
        | true =>
          rw [hb, if_pos rfl] at hrd
          refine iteF ?_
          walk_at "go"
          refine rd_in (.inl (SqL.of eL3)) rfl (flat_sV _) ?_
          rw [if_neg Bool.false_ne_true, inS]
          walk_at "go"
          have en : ((a + n : Nat) : Int) + 1 = ((a + (n + 1) : Nat) : Int) := by omega
          refine ite2 (fun y => ?_) (fun y => ?_)
          · have y := of_decide_eq_true y
            rw [if_pos y] at hrd
            walk_at "go"
            refine ⟨by show 2 ≤ sizeLine; decide, rd_new fun t H4 ht et s4 => ?_⟩
            walk_at "go"
            exact k t H4 (L2.Same.trans s1 (L2.Same.trans s13 s4)) (by rw [et, ← hrd, en]; rfl)
          · have y : R.take (n + 1) ∉ WD := fun q => y (decide_eq_true q)
            rw [if_neg y] at hrd
            have := isBeg_len hb y
            walk_at "go"
            exact ⟨j, by omega, n + 1, _, _, by rw [en]; rfl, s13, by omega, hrd, by omega, by omega⟩
    · have z : ¬ n < R.length := fun q => z (decide_eq_true (by omega))
      rw [rdW, if_neg z] at hrd
      walk_at "go"
      refine ⟨by show 2 ≤ sizeLine; decide, rd_new fun t H4 ht et s4 => ?_⟩
      walk_at "go"
      exact k t H4 (L2.Same.trans s1 (L2.Same.trans s2 s4)) (by rw [et, ← hrd]; rfl)
end

end Cs
namespace Cs
open PySem L2
open PyProof.Rows (envOfC)
/-! the law's own reader: sets -/
theorem index0_c {al : List Nat} {c : Nat} (h : c ∈ al) : Txt.index0 (S al) (S [c]) = some (al.idxOf c) := by
  have hi := List.idxOf_lt_length_of_mem h
  have p := part_c h
  unfold Txt.partition at p
  unfold Txt.index0
  cases ho : Builtin.Str.occurrences (S al) (S [c]) 0 (S al).length 1 with
  | nil =>
    rw [ho] at p
    exfalso
    injection p with _ p
    injection p with p _
    have := congrArg (fun x : Str => x.cps.size) p
    simp [S, Str.empty] at this
  | cons i tl =>
    rw [ho] at p
    injection p with p _
    have := congrArg (fun x : Str => x.cps.size) p
    simp [S, Builtin.Str.strSub] at this
    simp
    omega
theorem setLen_nd : ∀ (R al : List Nat) (k : Nat), al.Nodup → ∀ c ∈ al.drop k, (al.drop k).drop ((al.drop k).idxOf c + 1) = al.drop (al.idxOf c + 1) := by
  intro R al k hn c hc
  have h0 : al.take k ++ al.drop k = al := List.take_append_drop k al
  have hk : k ≤ al.length := by
    by_cases z : k ≤ al.length
    · exact z
    · rw [List.drop_eq_nil_of_le (by omega)] at hc; simp at hc
  have hnt : c ∉ al.take k := by
    intro z
    rw [← h0] at hn
    exact (List.nodup_append.mp hn).2.2 c z c hc rfl
  have e : al.idxOf c = (al.drop k).idxOf c + k := by
    conv => lhs; rw [← h0]
    rw [List.idxOf_append, if_neg hnt, List.length_take, Nat.min_eq_left hk]
  rw [List.drop_drop, e]
  congr 1; omega
theorem rd_bms {K : PySem.W.Frag} {T : String} {r : St → V → List V → Hp → VK → Prop} {to : TE} {t : TA} {σ : St} {H : Hp} {Q : VK} (h : to σ H fun x H1 => tyV K T x H1 ∧ t σ H1 fun xs H2 => r σ x xs H2 Q) : tBMS K T r to t σ H Q := h
theorem bc_S' : Str.ofString "]" = S [93] := by decide +kernel
def oV (H : Hp) (v : V) : Option PyData → Prop
  | none => v = .non
  | some d => Tp H v d
def sp_rs : Sp := fun vs H Q _ => ∃ (al T : List Nat) (a : Nat), vs = [.str (S al), .str (S T), .int (a : Nat)] ∧ al.Nodup ∧ al.length ≤ 6 ∧ T.length ≤ 90000 ∧ a ≤ T.length ∧ ∀ (t : Addr) (v : V) (H' : Hp), Same H H' → H' t = some (.tup [v, .int ((rdSL al T a).2 : Nat)]) → oV H' v (rdSL al T a).1 → Q (.ref t) H'
theorem use_rs {al T : List Nat} {a : Nat} {H : Hp} {Q : VK} {E : XK} (hn : al.Nodup) (hA : al.length ≤ 6) (hT : T.length ≤ 90000) (ha : a ≤ T.length) (k : ∀ (t : Addr) (v : V) (H' : Hp), Same H H' → H' t = some (.tup [v, .int ((rdSL al T a).2 : Nat)]) → oV H' v (rdSL al T a).1 → Q (.ref t) H') : sp_rs [.str (S al), .str (S T), .int (a : Nat)] H Q E := ⟨al, T, a, rfl, hn, hA, hT, ha, k⟩
section
variable {P : Program} {w : World} {K : PySem.W.Frag} {mg : Str → Option Value} {base : Heap}
theorem ok_rs (B : Blt mg) (F : At K mg "_law_read_set" s__law_read_set ["_law_alphabet_here", "_law_text", "_law_at"]) : Cal P w K mg base 1 "_law_read_set" ["_law_alphabet_here", "_law_text", "_law_at"] sp_rs := by
  refine F.ok (k := 0) sc__law_read_set (fun vs H Q E h => ?_) (fun f cdv A outer s H vs Q E hr h => ?_)
  · obtain ⟨al, T, a, rfl, _⟩ := h
    rfl
  · obtain ⟨al, T, a, rfl, hnd, hA, hT, ha, k⟩ := h
    have zT : T.length ≤ sizeLine := by rw [PySem.sizeLine_eq]; omega
    have zA : al.length ≤ sizeLine := by rw [PySem.sizeLine_eq]; omega
    refine ⟨_, (pss_cons (ps_par (i := 3) (j := 4) (by rfl) sc__law_read_set.nd rfl rfl (by decide) rfl rfl (pa_cons (pv 2) (pa_cons (pe_un un_neg pe_int) pa_nil)) (by rfl))
    (pss_cons (ps_while PassesOwn.never (PW.pt (pw_and (pt_cmpR op_lt (pv 3) (pe_callB call_len_str (by rfl) B.len PySem.boot_len (pa_cons (pv 1) pa_nil)) (nomark _)) (pw_and1 (pt_cmpR op_in_sign (pe_ix ix_str (pv 1) (pv 3) (fun _ _ => rfl)) (pe_slice sl_str (pv 0) (po_some (pe_op op_add (pv 4) pe_int)) po_none) rfl))))
    (pss_cons (ps_set (i := 4) sc__law_read_set.nd rfl (Or.inl rfl) (pe_bmS PySem.F.plainAttrs_str PySem.F.slot_str_index PySem.F.type_str_index (mt_indexX rfl takes0) (pv 0) (pa_cons (pe_ix ix_str (pv 1) (pv 3) (fun _ _ => rfl)) pa_nil)))
    (pss_one (ps_set (i := 3) sc__law_read_set.nd rfl (Or.inl rfl) (pe_op op_add (pv 3) pe_int)))))
    (pss_cons (ps_if (PW.pt (pw_and (pt_cmpR op_lt (pv 3) (pe_callB call_len_str (by rfl) B.len PySem.boot_len (pa_cons (pv 1) pa_nil)) (nomark _)) (pw_and1 (pt_cmpR op_eq (pe_ix ix_str (pv 1) (pv 3) (fun _ _ => rfl)) pe_str (nomark _)))))
    (pss_one (ps_ret (pe_tup (pa_cons (pe_tup (pa_cons pe_str (pa_cons (pe_slice sl_str (pv 1) (po_some (pv 2)) (po_some (pv 3))) pa_nil))) (pa_cons (pe_op op_add (pv 3) pe_int) pa_nil)))))
    pss_nil)
    (pss_one (ps_ret (pe_tup (pa_cons pe_non (pa_cons (pv 3) pa_nil)))))))), ?_⟩
    walk_at "go"
    refine ⟨_, rfl, ?_⟩
    walk_at "go"
    refine rd_cutW (t := tWhile _ _) (fun σ' H' => ∃ (x4 : Option V), σ' = [some (.str (S al)), some (.str (S T)), some (.int (a : Nat)), some (.int ((a + setLen al (T.drop a) : Nat) : Int)), x4] ∧ Same H H') (fun nx fin => ?_) ?_
    · refine rd_whileI (m0 := T.length - a) (fun r σ H' => ∃ (m q : Nat), σ = [some (.str (S al)), some (.str (S T)), some (.int (a : Nat)), some (.int ((a + m : Nat) : Int)), some (.int ((q : Int) - 1))] ∧ Same H H' ∧ a + m ≤ T.length ∧ m + setLen (al.drop q) (T.drop (a + m)) = setLen al (T.drop a) ∧ r = T.length - (a + m)) ⟨0, 0, rfl, Same.refl _, by omega, by simp, rfl⟩ ?_
      rintro r σ H1 ⟨m, q, rfl, sm, hle, hset, rfl⟩
      have done : setLen (al.drop q) (T.drop (a + m)) = 0 → nx [some (.str (S al)), some (.str (S T)), some (.int (a : Nat)), some (.int ((a + m : Nat) : Int)), some (.int ((q : Int) - 1))] H1 := fun z => by
        rw [z, Nat.add_zero] at hset
        exact fin _ _ ⟨_, by rw [hset], sm⟩
      walk_at "go"
      refine ⟨S T, rfl, by rw [S_len]; exact zT, ?_⟩
      rw [S_len]
      walk_at "go"
      refine ite2 (fun z1 => ?_) (fun z1 => ?_)
      · have z1 : a + m < T.length := by have := of_decide_eq_true z1; omega
        have ed := drop_get z1
        walk_at "go"
        refine rd_ixs zT rfl (List.getElem?_eq_getElem z1) ?_
        walk_at "go"
        refine rd_sls (by rw [S_len]; exact zA) ?_
        rw [show (q : Int) - 1 + 1 = (q : Int) by omega, cutS_from]
        walk_at "go"
        refine ⟨T[a + m], S (al.drop q), rfl, rfl, ?_⟩
        walk_at "go"
        refine ite2 (fun z2 => ?_) (fun z2 => ?_)
        · have z2 : T[a + m] ∈ al.drop q := by simpa [S] using z2
          have z3 : T[a + m] ∈ al := List.mem_of_mem_drop z2
          refine ⟨_, fun σ' H' z => z, ?_⟩
          walk_at "go"
          refine rd_bms ?_
          walk_at "go"
          refine ⟨rfl, ?_⟩
          walk_at "go"
          refine rd_ixs zT rfl (List.getElem?_eq_getElem z1) ?_
          walk_at "go"
          refine ⟨S al, S [T[a + m]], rfl, rfl, fun k' hk' => ?_, fun hno => ?_⟩
          · rw [index0_c z3] at hk'
            cases hk'
            walk_at "go"
            refine ⟨T.length - (a + (m + 1)), by omega, m + 1, al.idxOf T[a + m] + 1, ?_, sm, by omega, ?_, rfl⟩
            · have e1 : ((a + m : Nat) : Int) + 1 = ((a + (m + 1) : Nat) : Int) := by omega
              have e2 : ((al.idxOf T[a + m] : Nat) : Int) = ((al.idxOf T[a + m] + 1 : Nat) : Int) - 1 := by omega
              rw [e1, e2]; rfl
            · rw [ed, setLen, if_pos z2, setLen_nd [] al q hnd _ z2] at hset
              rw [show a + (m + 1) = a + m + 1 by omega]; omega
          · rw [index0_c z3] at hno; cases hno
        · have z2 : T[a + m] ∉ al.drop q := fun z => z2 (by simpa [S] using z)
          walk_at "go"
          exact done (by rw [ed, setLen, if_neg z2])
      · have z1 : T.length ≤ a + m := by
          have : ¬ ((a + m : Nat) : Int) < (T.length : Int) := fun z => z1 (decide_eq_true z)
          omega
        refine iteF ?_
        walk_at "go"
        exact done (by rw [List.drop_eq_nil_of_le z1, setLen])
    · rintro σ1 H1 ⟨x4, rfl, sm⟩
      obtain ⟨n, hn'⟩ : ∃ n, n = setLen al (T.drop a) := ⟨_, rfl⟩
      have hn := setLen_le (T.drop a) al
      rw [List.length_drop] at hn
      unfold rdSL at k
      rw [← hn'] at hn k ⊢
      have no : hdIn (T.drop (a + n)) [93] = false → tSeq tNext (tRet (tTup (tCons (tC V.non) (tCons (tVar 3) tNil)))) { nx := fun _ H' => Q V.non H', rt := Q } [some (.str (S al)), some (.str (S T)), some (.int (a : Nat)), some (.int ((a + n : Nat) : Int)), x4] H1 := by
        intro hno
        rw [hno] at k
        walk_at "go"
        refine ⟨by show 2 ≤ sizeLine; decide, rd_new fun t H2 ht et s2 => ?_⟩
        walk_at "go"
        exact k t .non H2 (L2.Same.trans sm s2) (by rw [et]; rfl) rfl
      walk_at "go"
      refine ⟨S T, rfl, by rw [S_len]; exact zT, ?_⟩
      rw [S_len]
      walk_at "go"
      refine ite2 (fun z1 => ?_) (fun z1 => ?_)
      · have z1 : a + n < T.length := by have := of_decide_eq_true z1; omega
        have ed := drop_get z1
        walk_at "go"
        refine rd_ixs zT rfl (List.getElem?_eq_getElem z1) ?_
        walk_at "go"
        rw [bc_S']
        refine ite2 (fun z2 => ?_) (fun z2 => ?_)
        · have z2 : T[a + n] = 93 := by simpa [S] using z2
          have hy : hdIn (T.drop (a + n)) [93] = true := by rw [ed]; simp [hdIn, z2]
          rw [hy, if_pos rfl] at k
          walk_at "go"
          refine rd_sls (by rw [S_len]; exact zT) ?_
          rw [cutS_to _ _ _ (by omega), show a + n - a = n by omega]
          walk_at "go"
          refine ⟨by show 2 ≤ sizeLine; decide, rd_new fun q H2 hq eq s2 => ?_⟩
          walk_at "go"
          refine ⟨by show 2 ≤ sizeLine; decide, rd_new fun t H3 ht et s3 => ?_⟩
          walk_at "go"
          refine k t (.ref q) H3 (L2.Same.trans sm (L2.Same.trans s2 s3)) ?_ (.tup (s3 _ _ eq) (.cons (.str _) (.cons (.str _) .nil)))
          rw [et]
          have : ((a + n : Nat) : Int) + 1 = ((a + n + 1 : Nat) : Int) := by omega
          rw [this]
        · have z2 : T[a + n] ≠ 93 := by
            intro y
            rw [y] at z2; simp at z2
          refine no ?_
          rw [ed]; simp [hdIn, z2]
      · have z1 : T.length ≤ a + n := by
          have : ¬ ((a + n : Nat) : Int) < (T.length : Int) := fun z => z1 (decide_eq_true z)
          omega
        refine iteF ?_
        refine no ?_
        rw [List.drop_eq_nil_of_le z1]; rfl
end

end Cs
namespace Cs
open PySem L2
open PyProof.Rows (envOfC)
/-! the law's own reader: agains -/
theorem hd_take {R : List Nat} {c : Nat} : R.take 1 = [c] ↔ hdIn R [c] = true := by
  cases R with
  | nil => simp [hdIn]
  | cons d R => simp [hdIn]
def sp_rx (r : Nat) : Sp := fun vs H Q _ => ∃ (al T : List Nat) (a : Nat), vs = [.str (S al), .str (S T), .int (a : Nat)] ∧ al.Nodup ∧ al.length ≤ 6 ∧ T.length ≤ 90000 ∧ a ≤ T.length ∧ T.length < a + 5 * r ∧ ∀ (t : Addr) (v : V) (H' : Hp), Same H H' → H' t = some (.tup [v, .int ((rdE al T r a).2 : Nat)]) → oV H' v (rdE al T r a).1 → Q (.ref t) H'
theorem use_rx {al T : List Nat} {a r : Nat} {H : Hp} {Q : VK} {E : XK} (hn : al.Nodup) (hA : al.length ≤ 6) (hT : T.length ≤ 90000) (ha : a ≤ T.length) (hr : T.length < a + 5 * r) (k : ∀ (t : Addr) (v : V) (H' : Hp), Same H H' → H' t = some (.tup [v, .int ((rdE al T r a).2 : Nat)]) → oV H' v (rdE al T r a).1 → Q (.ref t) H') : sp_rx r [.str (S al), .str (S T), .int (a : Nat)] H Q E := ⟨al, T, a, rfl, hn, hA, hT, ha, hr, k⟩
def sp_ra (r : Nat) : Sp := fun vs H Q _ => ∃ (al T : List Nat) (a : Nat), vs = [.str (S al), .str (S T), .int (a : Nat)] ∧ al.Nodup ∧ al.length ≤ 6 ∧ T.length ≤ 90000 ∧ a ≤ T.length ∧ T.length < a + 1 + 5 * r ∧ ∀ (t : Addr) (v : V) (H' : Hp), Same H H' → H' t = some (.tup [v, .int ((rdA (rdE al T r) T a).2 : Nat)]) → oV H' v (rdA (rdE al T r) T a).1 → Q (.ref t) H'
def alw (c1 : Nat) (i : Nat) : List Nat := [[32], D5, [32], 42 :: D5.drop (c1 - 48), [41]].getD i []
theorem nmL_alw (R : List Nat) : nmL R = if hdIn (R.drop 0) (alw ((R.drop 1).headD 0) 0) = false then (none, 0) else if hdIn (R.drop 1) (alw ((R.drop 1).headD 0) 1) = false then (none, 1) else if hdIn (R.drop 2) (alw ((R.drop 1).headD 0) 2) = false then (none, 2)
    else if hdIn (R.drop 3) (alw ((R.drop 1).headD 0) 3) = false then (none, 3) else if hdIn (R.drop 4) (alw ((R.drop 1).headD 0) 4) = false then (none, 4)
    else (some ((R.drop 1).headD 0 - 48, if (R.drop 3).headD 0 = 42 then .none else .int (((R.drop 3).headD 0 : Nat) - 48 : Int)), 5) := rfl
theorem nm_fail {R : List Nat} {i : Nat} (hi : i < 5) (hb : ∀ j, j < i → hdIn (R.drop j) (alw ((R.drop 1).headD 0) j) = true) (h : hdIn (R.drop i) (alw ((R.drop 1).headD 0) i) = false) : nmL R = (none, i) := by
  have g : ∀ j, j < i → ¬ hdIn (R.drop j) (alw ((R.drop 1).headD 0) j) = false := fun j hj z => by rw [hb j hj] at z; cases z
  rw [nmL_alw]
  rcases (by omega : i = 0 ∨ i = 1 ∨ i = 2 ∨ i = 3 ∨ i = 4) with rfl | rfl | rfl | rfl | rfl
  · rw [if_pos h]
  · rw [if_neg (g 0 (by omega)), if_pos h]
  · rw [if_neg (g 0 (by omega)), if_neg (g 1 (by omega)), if_pos h]
  · rw [if_neg (g 0 (by omega)), if_neg (g 1 (by omega)), if_neg (g 2 (by omega)), if_pos h]
  · rw [if_neg (g 0 (by omega)), if_neg (g 1 (by omega)), if_neg (g 2 (by omega)), if_neg (g 3 (by omega)), if_pos h]
theorem nm_good {R : List Nat} (hb : ∀ j, j < 5 → hdIn (R.drop j) (alw ((R.drop 1).headD 0) j) = true) : nmL R = (some ((R.drop 1).headD 0 - 48, if (R.drop 3).headD 0 = 42 then .none else .int (((R.drop 3).headD 0 : Nat) - 48 : Int)), 5) := by
  have g : ∀ j, j < 5 → ¬ hdIn (R.drop j) (alw ((R.drop 1).headD 0) j) = false := fun j hj z => by rw [hb j hj] at z; cases z
  rw [nmL_alw]
  rw [if_neg (g 0 (by omega)), if_neg (g 1 (by omega)), if_neg (g 2 (by omega)), if_neg (g 3 (by omega)), if_neg (g 4 (by omega))]
theorem alw_len {c1 i : Nat} (hi : i < 5) : 1 ≤ (alw c1 i).length ∧ (alw c1 i).length ≤ 6 := by
  rcases (by omega : i = 0 ∨ i = 1 ∨ i = 2 ∨ i = 3 ∨ i = 4) with rfl | rfl | rfl | rfl | rfl
  · show 1 ≤ 1 ∧ 1 ≤ 6; decide
  · show 1 ≤ 5 ∧ 5 ≤ 6; decide
  · show 1 ≤ 1 ∧ 1 ≤ 6; decide
  · have e : alw c1 3 = 42 :: D5.drop (c1 - 48) := rfl
    rw [e, List.length_cons, List.length_drop]
    have : D5.length = 5 := rfl
    omega
  · show 1 ≤ 1 ∧ 1 ≤ 6; decide
def vals5 : List V := [.str (Str.ofString " "), .str (Str.ofString "01234"), .str (Str.ofString " "), .str (Str.ofString "*"), .str (Str.ofString ")")]
theorem vals5_S : vals5 = [.str (S [32]), .str (S D5), .str (S [32]), .str (S [42]), .str (S [41])] := by
  unfold vals5
  rw [show Str.ofString " " = S [32] by decide +kernel, show Str.ofString "01234" = S D5 by decide +kernel, show Str.ofString "*" = S [42] by decide +kernel, show Str.ofString ")" = S [41] by decide +kernel]
theorem dig_S : Str.ofString "01234" = S D5 := by decide +kernel
theorem sta_S : Str.ofString "*" = S [42] := by decide +kernel
theorem emp_S : Str.ofString "" = S [] := by decide +kernel
theorem hd_in {R cs : List Nat} {c : Nat} {R' : List Nat} (e : R = c :: R') : hdIn R cs = decide (c ∈ cs) := by subst e; rfl
def IsTu (d : PyData) : Prop := ∃ ds, d = .tuple ds
theorem rdP_tu {go : Nat → Option PyData × Nat} {T w : List Nat} : ∀ (g : Nat) (ps : List PyData) (a e : Nat) (d : PyData), rdP go T w g ps a = (some d, e) → IsTu d
  | 0, ps, a, e, d, h => by cases h
  | g + 1, ps, a, e, d, h => by
    rw [rdP] at h
    split at h
    · split at h
      · cases h
      · exact rdP_tu g _ _ _ _ h
    · split at h
      · cases h
      · injection h with h _
        injection h with h
        exact ⟨_, h.symm⟩
theorem rdE_tu {al T : List Nat} : ∀ (f a e : Nat) (d : PyData), rdE al T f a = (some d, e) → IsTu d
  | 0, a, e, d, h => by cases h
  | f + 1, a, e, d, h => by
    rw [rdE] at h
    split at h
    · unfold rdSL at h
      split at h
      · injection h with h _
        injection h with h
        exact ⟨_, h.symm⟩
      · cases h
    · split at h
      · cases h
      · split at h
        · cases h
        · split at h
          · unfold rdA at h
            split at h
            · cases h
            · split at h
              · cases h
              · split at h
                · cases h
                · injection h with h _
                  injection h with h
                  exact ⟨_, h.symm⟩
          · exact rdP_tu _ _ _ _ _ h
section
variable {P : Program} {w : World} {K : PySem.W.Frag} {mg : Str → Option Value} {base : Heap}
theorem ok_ra (B : Blt mg) {r k : Nat} (G__law_read_expression : Cal P w K mg base k "_law_read_expression" ["_law_alphabet_here", "_law_text", "_law_at"] (sp_rx r)) (F : At K mg "_law_read_again" s__law_read_again ["_law_alphabet_here", "_law_text", "_law_at"]) :
    Cal P w K mg base (k + 1) "_law_read_again" ["_law_alphabet_here", "_law_text", "_law_at"] (sp_ra r) := by
  refine F.ok (k := k) sc__law_read_again (fun vs H Q E h => ?_) (fun f cdv A outer s H vs Q E hr h => ?_)
  · obtain ⟨al, T, a, rfl, _⟩ := h
    rfl
  · obtain ⟨al, T, a, rfl, hnd, hA, hT, ha, hf, kk⟩ := h
    have zT : T.length ≤ sizeLine := by rw [PySem.sizeLine_eq]; omega
    refine ⟨_, (pss_cons (ps_if (pt_cmpR op_ne (pe_slice sl_str (pv 1) (po_some (pv 2)) (po_some (pe_op op_add (pv 2) pe_int))) pe_str (nomark _))
    (pss_one (ps_ret (pe_tup (pa_cons pe_non (pa_cons (pv 2) pa_nil)))))
    pss_nil)
    (pss_cons (ps_asg (pe_c G__law_read_expression hr (pa_cons (pv 0) (pa_cons (pv 1) (pa_cons (pe_op op_add (pv 2) pe_int) pa_nil)))) (pg_tupK (n := 2) (K := K) (by rfl) (by rfl) (pgs_cons (pg_name (i := 3) sc__law_read_again.nd rfl (Or.inl rfl)) (pgs_cons (pg_name (i := 4) sc__law_read_again.nd rfl (Or.inl rfl)) pgs_nil))))
    (pss_cons (ps_if (pt_cmpR op_isN (pv 3) pe_non (nomark _))
    (pss_one (ps_ret (pe_tup (pa_cons pe_non (pa_cons (pv 4) pa_nil)))))
    pss_nil)
    (pss_cons (ps_asg (pe_tup (pa_cons pe_str (pa_cons pe_str pa_nil))) (pg_tupK (n := 2) (K := K) (by rfl) (by rfl) (pgs_cons (pg_name (i := 5) sc__law_read_again.nd rfl (Or.inl rfl)) (pgs_cons (pg_name (i := 6) sc__law_read_again.nd rfl (Or.inl rfl)) pgs_nil))))
    (pss_cons (ps_for PassesOwn.never rfl (pi_tupK (K := K) (by rfl) (pe_tup (pa_cons pe_str (pa_cons pe_str (pa_cons pe_str (pa_cons pe_str (pa_cons pe_str pa_nil))))))) (pg_name (i := 7) sc__law_read_again.nd rfl (Or.inl rfl))
    (pss_cons (ps_if (pt_cmpR op_eq (pv 7) pe_str (nomark _))
    (pss_one (ps_set (i := 7) sc__law_read_again.nd rfl (Or.inl rfl) (pe_op op_add_str pe_str (pe_slice sl_str pe_str (po_some (pe_callTy call_int_str (by rfl) B.int (by decide +kernel) (pa_cons (pv 5) pa_nil))) po_none))))
    pss_nil)
    (pss_cons (ps_if (PW.pt (pw_or (pt_cmpR op_ge (pv 4) (pe_callB call_len_str (by rfl) B.len PySem.boot_len (pa_cons (pv 1) pa_nil)) (nomark _)) (pw_or1 (pt_cmpR op_notIn_sign (pe_ix ix_str (pv 1) (pv 4) (fun _ _ => rfl)) (pv 7) rfl))))
    (pss_one (ps_ret (pe_tup (pa_cons pe_non (pa_cons (pv 4) pa_nil)))))
    pss_nil)
    (pss_cons (ps_if (pt_cmpR op_eq (pv 7) pe_str (nomark _))
    (pss_one (ps_set (i := 5) sc__law_read_again.nd rfl (Or.inl rfl) (pe_ix ix_str (pv 1) (pv 4) (fun _ _ => rfl))))
    pss_nil)
    (pss_cons (ps_if (pt_cmpR op_eq (pe_ix ix_str (pv 7) pe_int (fun _ _ => rfl)) pe_str (nomark _))
    (pss_one (ps_set (i := 6) sc__law_read_again.nd rfl (Or.inl rfl) (pe_ix ix_str (pv 1) (pv 4) (fun _ _ => rfl))))
    pss_nil)
    (pss_one (ps_set (i := 4) sc__law_read_again.nd rfl (Or.inl rfl) (pe_op op_add (pv 4) pe_int))))))))
    (pss_one (ps_ret (pe_tup (pa_cons (pe_tup (pa_cons pe_str (pa_cons (pv 3) (pa_cons (pe_callTy call_int_str (by rfl) B.int (by decide +kernel) (pa_cons (pv 5) pa_nil)) (pa_cons (pe_ifExp (pt_cmpR op_eq (pv 6) pe_str (nomark _)) pe_non (pe_callTy call_int_str (by rfl) B.int (by decide +kernel) (pa_cons (pv 6) pa_nil))) pa_nil))))) (pa_cons (pv 4) pa_nil)))))))))), ?_⟩
    walk_at "go"
    refine rd_sls (by rw [S_len]; exact zT) ?_
    rw [show (a : Int) + 1 = (a : Int) + ((1 : Nat) : Int) by omega, cutS_at]
    walk_at "go"
    rw [spc_S]
    have hx : decide (V.str (S ((T.drop a).take 1)) = V.str (S [32])) = hdIn (T.drop a) [32] := by
      rw [Bool.eq_iff_iff, decide_eq_true_eq, ← hd_take]
      constructor
      · intro h; injection h with h; exact S_inj h
      · intro h; rw [h]
    rw [hx]
    cases h32 : hdIn (T.drop a) [32] with
    | false =>
      refine iteT ?_
      walk_at "go"
      refine ⟨by show 2 ≤ sizeLine; decide, rd_new fun t H1 ht et s1 => ?_⟩
      walk_at "go"
      have e : rdA (rdE al T r) T a = (none, a) := by rw [rdA, if_pos h32]
      rw [e] at kk
      exact kk t .non H1 s1 et rfl
    | true =>
      refine iteF ?_
      have hal := hd_lt h32
      walk_at "go"
      rw [show (a : Int) + 1 = ((a + 1 : Nat) : Int) by omega]
      refine use_rx hnd hA hT (by omega) hf fun t v H1 s1 et hv => ?_
      obtain ⟨o, e, hoe⟩ : ∃ o e, rdE al T r (a + 1) = (o, e) := ⟨_, _, rfl⟩
      rw [hoe] at et hv
      refine rd_gtup (SqT.of et) rfl ?_
      walk_at "go"
      refine ⟨rfl, ?_⟩
      walk_at "go"
      cases o with
      | none =>
        have hv : v = .non := hv
        subst hv
        have er : rdA (rdE al T r) T a = (none, e) := by rw [rdA, if_neg (by rw [h32]; simp), hoe]
        rw [er] at kk
        refine iteT ?_
        walk_at "go"
        refine ⟨by show 2 ≤ sizeLine; decide, rd_new fun t H2 ht et s2 => ?_⟩
        walk_at "go"
        exact kk t .non H2 (L2.Same.trans s1 s2) et rfl
      | some p =>
        have hv : Tp H1 v p := hv
        have hfw := rdE_fwd al T r (a + 1) p e hoe
        have er : rdA (rdE al T r) T a = match nmL (T.drop e) with | (none, n) => (none, e + n) | (some (l, h), n) => (some (.tuple [.str (kS "again"), p, .int (l : Nat), h]), e + n) := by
          rw [rdA, if_neg (by rw [h32]; simp), hoe]; all_goals rfl
        rw [er] at kk
        obtain ⟨dsp, rfl⟩ := rdE_tu r (a + 1) e p hoe
        obtain ⟨pv, rfl⟩ := hv.tup_ref
        refine iteF ?_
        walk_at "go"
        refine ⟨by show 2 ≤ sizeLine; decide, rd_new fun L0 H0 hL0 eL0 s0 => ?_⟩
        refine rd_gtup (SqT.of eL0) rfl ?_
        walk_at "go"
        refine ⟨by show 5 ≤ sizeLine; decide, rd_new fun L H2 hL eL s2 => ?_⟩
        have eL : H2 L = some (.tup vals5) := eL
        rw [vals5_S] at eL
        walk_at "go"
        refine ⟨L, rfl, ⟨_, SqT.of eL⟩, ?_⟩
        generalize hR : T.drop e = R at kk
        generalize hc1 : (R.drop 1).headD 0 = c1
        have s12 := L2.Same.trans s1 (L2.Same.trans s0 s2)
        have eR : ∀ j, T.drop (e + j) = R.drop j := fun j => by rw [← hR, List.drop_drop]
        refine for_tup (K := K) (a := L) (xs := [.str (S [32]), .str (S D5), .str (S [32]), .str (S [42]), .str (S [41])]) (fun i σ H' => ∃ lo hi xa : Option V, σ = [some (.str (S al)), some (.str (S T)), some (.int (a : Nat)), some (.ref pv), some (.int ((e + i : Nat) : Int)), lo, hi, xa] ∧ Same H2 H' ∧ (∀ j, j < i → hdIn (R.drop j) (alw c1 j) = true) ∧ (2 ≤ i → lo = some (.str (S [c1]))) ∧ (4 ≤ i → hi = some (.str (S [(R.drop 3).headD 0])))) ?_ (fun i σ H' _ h => by obtain ⟨_, _, _, _, s3, _⟩ := h; exact SqT.of (s3 _ _ eL)) ?_ ?_
        · exact ⟨_, _, _, rfl, Same.refl _, fun j hj => by omega, fun h => by omega, fun h => by omega⟩
        · rintro i y σ H3 hi ⟨lo, hh, xa, rfl, s3, hb, hlo, hhi⟩
          have i5 : i < 5 := (List.getElem?_eq_some_iff.mp hi).1
          have c1D : 2 ≤ i → c1 ∈ D5 := fun h2 => by
            obtain ⟨c, R', e1, e2⟩ := hd_yes (hb 1 (by omega))
            have : c = c1 := by rw [← hc1, e1]; rfl
            rw [← this]; exact e2
          with_reducible refine rd_gname ?_
          try dsimp only
          have hy : i ≠ 3 → y = .str (S (alw c1 i)) := fun h3 => by
            rcases (by omega : i = 0 ∨ i = 1 ∨ i = 2 ∨ i = 4) with rfl | rfl | rfl | rfl <;> (cases hi; rfl)
          have hy3 : i = 3 → y = .str (S [42]) := fun h3 => by subst h3; cases hi; rfl
          have alw_ne : i ≠ 3 → ¬ alw c1 i = [42] := fun h3 => by
            rcases (by omega : i = 0 ∨ i = 1 ∨ i = 2 ∨ i = 4) with rfl | rfl | rfl | rfl <;> (simp [alw, D5])
          refine rd_cutV (fun σ' H' => σ' = [some (.str (S al)), some (.str (S T)), some (.int (a : Nat)), some (.ref pv), some (.int ((e + i : Nat) : Int)), lo, hh, some (.str (S (alw c1 i)))] ∧ H' = H3) (fun nx fin => ?_) ?_
          · by_cases h3 : i = 3
            · have hlo' := hlo (by omega)
              have hyy := hy3 h3
              subst hlo' hyy
              have hD := c1D (by omega)
              obtain ⟨l, hl4, hl⟩ : ∃ l, l ≤ 4 ∧ c1 = 48 + l := by
                simp only [D5, List.mem_cons, List.not_mem_nil, or_false] at hD
                exact ⟨c1 - 48, by omega, by omega⟩
              walk_at "go"
              rw [sta_S]
              walk_at "go"
              rw [decide_eq_true rfl]
              refine iteT ?_
              walk_at "go"
              rw [dig_S]
              refine ⟨_, _, rfl, by rw [hl]; exact int_num hl4, by show 1 ≤ 640; decide, ?_⟩
              walk_at "go"
              refine rd_sls (by show 5 ≤ sizeLine; decide) ?_
              rw [cutS_from]
              walk_at "go"
              refine ⟨_, _, rfl, rfl, by rw [S_len, S_len, List.length_drop, PySem.sizeLine_eq]; show 1 + (5 - l) ≤ _; omega, ?_⟩
              walk_at "go"
              refine fin _ _ ⟨?_, rfl⟩
              have ea : S [42] ++ S (D5.drop l) = S (alw c1 i) := by
                subst h3
                have : alw c1 3 = 42 :: D5.drop (c1 - 48) := rfl
                rw [this, show c1 - 48 = l by omega]
                show Str.mk (#[42] ++ (D5.drop l).toArray) = _
                simp [S]
              rw [ea]; rfl
            · have hyy := hy h3
              subst hyy
              walk_at "go"
              rw [sta_S]
              refine ite2 (fun z => ?_) (fun z => ?_)
              · exfalso
                have z : alw c1 i = [42] := by simpa [S] using z
                exact alw_ne h3 z
              · walk_at "go"
                exact fin _ _ ⟨rfl, rfl⟩
          rintro σ4 H4 ⟨rfl, rfl⟩
          obtain ⟨aw1, aw6⟩ := alw_len (c1 := c1) i5
          have lim : ∀ j, e + j < T.length → ∃ h : e + j < T.length, R.drop j = T[e + j] :: R.drop (j + 1) := fun j h => ⟨h, by
            rw [← eR j, drop_get h, ← eR (j + 1)]; rfl⟩
          have fail : hdIn (R.drop i) (alw c1 i) = false → Q = Q → ∀ (t : Addr) (H5 : Hp), Same H4 H5 → H5 t = some (.tup [.non, .int ((e + i : Nat) : Int)]) → Q (.ref t) H5 := by
            intro hf _ t H5 s5 et5
            have hn := nm_fail (R := R) i5 (by rw [hc1]; exact hb) (by rw [hc1]; exact hf)
            rw [hn] at kk
            exact kk t .non H5 (L2.Same.trans s12 (L2.Same.trans s3 s5)) et5 rfl
          try dsimp only
          refine rd_cutV (fun σ' H' => σ' = [some (.str (S al)), some (.str (S T)), some (.int (a : Nat)), some (.ref pv), some (.int ((e + i : Nat) : Int)), lo, hh, some (.str (S (alw c1 i)))] ∧ H' = H4 ∧ hdIn (R.drop i) (alw c1 i) = true) (fun nx fin => ?_) ?_
          · walk_at "go"
            refine ⟨S T, rfl, by rw [S_len]; exact zT, ?_⟩
            rw [S_len]
            walk_at "go"
            refine ite2 (fun z => ?_) (fun z => ?_)
            · have z : T.length ≤ e + i := by have := of_decide_eq_true z; omega
              have hf : hdIn (R.drop i) (alw c1 i) = false := by rw [← eR, List.drop_eq_nil_of_le z]; rfl
              refine iteT ?_
              walk_at "go"
              refine ⟨by show 2 ≤ sizeLine; decide, rd_new fun t H5 ht et s5 => ?_⟩
              walk_at "go"
              exact fail hf rfl t H5 s5 et
            · have z : e + i < T.length := by
                have : ¬ ((T.length : Nat) : Int) ≤ ((e + i : Nat) : Int) := fun q => z (decide_eq_true q)
                omega
              obtain ⟨_, er⟩ := lim i z
              walk_at "go"
              refine rd_ixs zT rfl (List.getElem?_eq_getElem z) ?_
              walk_at "go"
              refine ⟨T[e + i], S (alw c1 i), rfl, rfl, ?_⟩
              walk_at "go"
              refine ite2 (fun y => ?_) (fun y => ?_)
              · have hf : hdIn (R.drop i) (alw c1 i) = false := by
                  rw [hd_in er]
                  have y : T[e + i] ∉ alw c1 i := by simpa [S] using y
                  simp [y]
                walk_at "go"
                refine ⟨by show 2 ≤ sizeLine; decide, rd_new fun t H5 ht et s5 => ?_⟩
                walk_at "go"
                exact fail hf rfl t H5 s5 et
              · have hf : hdIn (R.drop i) (alw c1 i) = true := by
                  rw [hd_in er]
                  have y : T[e + i] ∈ alw c1 i := by simpa [S] using y
                  simp [y]
                walk_at "go"
                exact fin _ _ ⟨rfl, rfl, hf⟩
          rintro σ5 H5 ⟨rfl, rfl, hgood⟩
          have hlt : e + i < T.length := by
            have := hd_lt (T := R) hgood
            rw [← hR, List.length_drop] at this
            omega
          obtain ⟨_, er⟩ := lim i hlt
          have hhd : ∀ j, j = i → (R.drop j).headD 0 = T[e + i] := fun j hj => by subst hj; rw [er]; rfl
          try dsimp only
          refine rd_cutV (fun σ' H' => ∃ lo' : Option V, σ' = [some (.str (S al)), some (.str (S T)), some (.int (a : Nat)), some (.ref pv), some (.int ((e + i : Nat) : Int)), lo', hh, some (.str (S (alw c1 i)))] ∧ H' = H5 ∧ (2 ≤ i + 1 → lo' = some (.str (S [c1])))) (fun nx fin => ?_) ?_
          · walk_at "go"
            rw [dig_S]
            refine ite2 (fun z => ?_) (fun z => ?_)
            · have z : alw c1 i = D5 := by simpa [S] using z
              have i1 : i = 1 := by
                rcases (by omega : i = 0 ∨ i = 1 ∨ i = 2 ∨ i = 3 ∨ i = 4) with rfl | rfl | rfl | rfl | rfl <;> first | rfl | (exfalso; revert z; simp [alw, D5])
              walk_at "go"
              refine rd_ixs zT rfl (List.getElem?_eq_getElem hlt) ?_
              walk_at "go"
              refine fin _ _ ⟨_, rfl, rfl, fun _ => ?_⟩
              have : T[e + i] = c1 := by rw [← hc1, ← i1, hhd i rfl]
              rw [this]
            · have i1 : i ≠ 1 := fun q => by
                subst q
                apply z
                exact decide_eq_true rfl
              walk_at "go"
              exact fin _ _ ⟨lo, rfl, rfl, fun h => hlo (by omega)⟩
          rintro σ6 H6 ⟨lo', rfl, rfl, hlo'⟩
          try dsimp only
          refine rd_cutV (fun σ' H' => ∃ hi' : Option V, σ' = [some (.str (S al)), some (.str (S T)), some (.int (a : Nat)), some (.ref pv), some (.int ((e + i : Nat) : Int)), lo', hi', some (.str (S (alw c1 i)))] ∧ H' = H6 ∧ (4 ≤ i + 1 → hi' = some (.str (S [(R.drop 3).headD 0])))) (fun nx fin => ?_) ?_
          · walk_at "go"
            refine rd_ixs (by rw [PySem.sizeLine_eq]; omega) (j := 0) rfl (List.getElem?_eq_getElem (by omega)) ?_
            walk_at "go"
            rw [sta_S]
            refine ite2 (fun z => ?_) (fun z => ?_)
            · have z : (alw c1 i)[0] = 42 := by simpa [S] using z
              have i3 : i = 3 := by
                rcases (by omega : i = 0 ∨ i = 1 ∨ i = 2 ∨ i = 3 ∨ i = 4) with rfl | rfl | rfl | rfl | rfl <;> first | rfl | (exfalso; revert z; simp [alw, D5])
              walk_at "go"
              refine rd_ixs zT rfl (List.getElem?_eq_getElem hlt) ?_
              walk_at "go"
              refine fin _ _ ⟨_, rfl, rfl, fun _ => ?_⟩
              have : (R.drop 3).headD 0 = T[e + i] := hhd 3 i3.symm
              rw [this]
            · have i3 : i ≠ 3 := fun q => by
                subst q
                apply z
                exact decide_eq_true rfl
              walk_at "go"
              exact fin _ _ ⟨hh, rfl, rfl, fun h => hhi (by omega)⟩
          rintro σ7 H7 ⟨hi', rfl, rfl, hhi'⟩
          walk_at "go"
          refine ⟨lo', hi', some (.str (S (alw c1 i))), ?_, s3, fun j hj => ?_, hlo', hhi'⟩
          · have : ((e + i : Nat) : Int) + 1 = ((e + (i + 1) : Nat) : Int) := by omega
            rw [this]; rfl
          · by_cases q : j = i
            · subst q; exact hgood
            · exact hb j (by omega)
        · rintro σ H3 ⟨lo, hi, xa, rfl, s3, hb, hlo, hhi⟩
          have h5 : ([.str (S [32]), .str (S D5), .str (S [32]), .str (S [42]), .str (S [41])] : List V).length = 5 := rfl
          rw [h5] at hb hlo hhi ⊢
          have hlo := hlo (by omega)
          have hhi := hhi (by omega)
          subst hlo hhi
          have hgood := nm_good (R := R) (by rw [hc1]; exact hb)
          rw [hgood, hc1] at kk
          have hD : c1 ∈ D5 := by
            obtain ⟨c, R', e1, e2⟩ := hd_yes (hb 1 (by omega))
            have : c = c1 := by rw [← hc1, e1]; rfl
            rw [← this]; exact e2
          obtain ⟨l, hl4, hl⟩ : ∃ l, l ≤ 4 ∧ c1 = 48 + l := by
            simp only [D5, List.mem_cons, List.not_mem_nil, or_false] at hD
            exact ⟨c1 - 48, by omega, by omega⟩
          have hl' : c1 - 48 = l := by omega
          rw [hl'] at kk
          obtain ⟨c3, hc3⟩ : ∃ c3, c3 = (R.drop 3).headD 0 := ⟨_, rfl⟩
          rw [← hc3] at kk ⊢
          have hc3m : c3 = 42 ∨ ∃ m, m ≤ 4 ∧ c3 = 48 + m := by
            obtain ⟨c, R', e1, e2⟩ := hd_yes (hb 3 (by omega))
            have e3 : c = c3 := by rw [hc3, e1]; rfl
            rw [e3] at e2
            have e2 : c3 ∈ 42 :: D5.drop (c1 - 48) := e2
            rcases List.mem_cons.mp e2 with y | y
            · exact .inl y
            · have y := List.mem_of_mem_drop y
              simp only [D5, List.mem_cons, List.not_mem_nil, or_false] at y
              exact .inr ⟨c3 - 48, by omega, by omega⟩
          have s13 := L2.Same.trans s12 s3
          have hv3 : Tp H3 (.ref pv) (.tuple dsp) := hv.ts (TS.same (L2.Same.trans s0 (L2.Same.trans s2 s3)))
          walk_at "go"
          refine ⟨_, _, rfl, by rw [hl]; exact int_num hl4, by show 1 ≤ 640; decide, ?_⟩
          walk_at "go"
          rw [sta_S]
          have fin : ∀ (u : V), (∀ H, Tp H u (if c3 = 42 then .none else .int ((c3 : Nat) - 48 : Int))) → ∀ (q : Addr) (H4 : Hp), H4 q = some (.tup [.str (Str.ofString "again"), .ref pv, .int (l : Nat), u]) → Same H3 H4 → ∀ (t : Addr) (H5 : Hp), H5 t = some (.tup [.ref q, .int ((e + 5 : Nat) : Int)]) → Same H4 H5 → Q (.ref t) H5 := by
            intro u hu q H4 eq s4 t H5 et s5
            refine kk t (.ref q) H5 (L2.Same.trans s13 (L2.Same.trans s4 s5)) et (.tup (s5 _ _ eq) ?_)
            exact .cons (.str _) (.cons (hv3.ts (TS.same (L2.Same.trans s4 s5))) (.cons (.int _) (.cons (hu _) .nil)))
          rcases hc3m with hq | ⟨m, hm4, hq⟩
          · subst hq
            rw [decide_eq_true rfl]
            walk_at "go"
            refine ⟨by show 4 ≤ sizeLine; decide, rd_new fun q H4 hq4 eq s4 => ?_⟩
            walk_at "go"
            refine ⟨by show 2 ≤ sizeLine; decide, rd_new fun t H5 ht et s5 => ?_⟩
            walk_at "go"
            exact fin .non (fun H => by rw [if_pos rfl]; exact .non) q H4 eq s4 t H5 et s5
          · have nq : c3 ≠ 42 := by omega
            have : decide (V.str (S [c3]) = V.str (S [42])) = false := by
              rw [decide_eq_false_iff_not]
              intro z
              injection z with z
              have := S_inj z
              simp at this
              exact nq this
            rw [this]
            refine iteF ?_
            walk_at "go"
            refine ⟨_, _, rfl, by rw [hq]; exact int_num hm4, by show 1 ≤ 640; decide, ?_⟩
            walk_at "go"
            refine ⟨by show 4 ≤ sizeLine; decide, rd_new fun q H4 hq4 eq s4 => ?_⟩
            walk_at "go"
            refine ⟨by show 2 ≤ sizeLine; decide, rd_new fun t H5 ht et s5 => ?_⟩
            walk_at "go"
            refine fin _ (fun H => ?_) q H4 eq s4 t H5 et s5
            rw [if_neg nq]
            have : ((c3 : Nat) : Int) - 48 = (m : Int) := by omega
            rw [this]; exact .int _
end

end Cs
namespace Cs
open PySem L2
open PyProof.Rows (envOfC)
/-! the law's own reader: the parts -/
/-- a list asked whether it is empty, by its length -/
theorem op_eqLen {X : Cx} (hu : X.A.units + 64 < cLine) : OpR X (compareOp .Eq) (fun x y H Q => ∃ (a b : Addr) (xs : List V), x = .ref a ∧ y = .ref b ∧ H a = some (.lst xs) ∧ H b = some (.lst []) ∧ Q (.bl xs.isEmpty) H) := by
  rintro pins s σ H x y v u Q I rx ry ⟨a, b, xs, rfl, rfl, ea, eb, q⟩
  cases rx
  cases ry
  cases xs with
  | nil => exact op_eqD hu pins s σ H (.ref a) (.ref b) _ _ Q I (by exact rfl) (by exact rfl) ⟨.list [], .list [], .lst (SqL.of ea) .nil, .lst (SqL.of eb) .nil, rfl, rfl, q⟩
  | cons z zs =>
    obtain ⟨_, its, n, vs, g⟩ : ObjOk X.prog X.w H s.heap a (.lst (z :: zs)) := I.hok a _ ea
    obtain ⟨_, its2, n2, vs2, g2⟩ : ObjOk X.prog X.w H s.heap b (.lst []) := I.hok b _ eb
    cases vs2
    have hl := vs.length
    refine PySem.P.eq_list_lengths g g2 ?_ (by omega) ⟨.bl false, H, I, rfl, q⟩
    have e1 : its.toArray.size = its.length := by simp
    rw [e1, ← hl]
    rfl
theorem rd_cutT {c : TT} {σ : St} {H : Hp} {R : Bool → Hp → Prop} (C : Bool → Hp → Prop) (h : ∀ R' : Bool → Hp → Prop, (∀ b H, C b H → R' b H) → c σ H R') (rest : ∀ b H, C b H → R b H) : c σ H R := h R rest
theorem rdP_un {go : Nat → Option PyData × Nat} {T w : List Nat} {g : Nat} {ps : List PyData} {a : Nat} (h : T.length < a + g) : rdP go T w g ps a = if hdIn (T.drop a) [32] = true ∧ (w ≠ kNot ∨ ps = []) then match go (a + 1) with
      | (none, e) => (none, e)
      | (some p, e) => rdP go T w (g - 1) (ps ++ [p]) e
    else if hdIn (T.drop a) [41] = false ∨ (w = kNot ∧ ps = []) then (none, a) else (some (.tuple (.str (S w) :: ps)), a + 1) := by
  cases g with
  | zero =>
    have e : T.drop a = [] := List.drop_eq_nil_of_le (by omega)
    rw [e, rdP]; rfl
  | succ g => rw [rdP]; rfl
def sp_rp (r : Nat) : Sp := fun vs H Q _ => ∃ (al T w : List Nat) (a : Nat), vs = [.str (S al), .str (S T), .int (a : Nat), .str (S w)] ∧ w ∈ W4 ∧ al.Nodup ∧ al.length ≤ 6 ∧ T.length ≤ 90000 ∧ a ≤ T.length ∧ T.length < a + 1 + 5 * r ∧ ∀ (t : Addr) (v : V) (H' : Hp), Same H H' → H' t = some (.tup [v, .int ((rdP (rdE al T r) T w (T.length + 1) [] a).2 : Nat)]) → oV H' v (rdP (rdE al T r) T w (T.length + 1) [] a).1 → Q (.ref t) H'
theorem not_S : Str.ofString "not" = S kNot := by decide +kernel
theorem slice1 (T : List Nat) (a c : Nat) : decide (V.str (cutS (S T) (some (a : Int)) (some ((a : Int) + 1))) = V.str (S [c])) = hdIn (T.drop a) [c] := by
  rw [show (a : Int) + 1 = (a : Int) + ((1 : Nat) : Int) by omega, cutS_at]
  rw [Bool.eq_iff_iff, decide_eq_true_eq, ← hd_take]
  constructor
  · intro h; injection h with h; exact S_inj h
  · intro h; rw [h]
section
variable {P : Program} {w : World} {K : PySem.W.Frag} {mg : Str → Option Value} {base : Heap}
theorem ok_rp (B : Blt mg) {r k : Nat} (G__law_read_expression : Cal P w K mg base k "_law_read_expression" ["_law_alphabet_here", "_law_text", "_law_at"] (sp_rx r)) (F : At K mg "_law_read_parts" s__law_read_parts ["_law_alphabet_here", "_law_text", "_law_at", "_law_word"]) :
    Cal P w K mg base (k + 1) "_law_read_parts" ["_law_alphabet_here", "_law_text", "_law_at", "_law_word"] (sp_rp r) := by
  refine F.ok (k := k) sc__law_read_parts (fun vs H Q E h => ?_) (fun f cdv A outer s H vs Q E hr h => ?_)
  · obtain ⟨al, T, w', a, rfl, _⟩ := h
    rfl
  · obtain ⟨al, T, w', a, rfl, hw4, hnd, hA, hT, ha, hf, kk⟩ := h
    have zT : T.length ≤ sizeLine := by rw [PySem.sizeLine_eq]; omega
    refine ⟨_, (pss_cons (ps_par (i := 4) (j := 5) (by rfl) sc__law_read_parts.nd rfl rfl (by decide) rfl rfl (pa_cons (pe_lst pa_nil) (pa_cons (pv 2) pa_nil)) (by rfl))
    (pss_cons (ps_while PassesOwn.never (PW.pt (pw_and (pt_cmpR op_eq (pe_slice sl_str (pv 1) (po_some (pv 5)) (po_some (pe_op op_add (pv 5) pe_int))) pe_str (nomark _)) (pw_and1 (PW.pt (pw_or (pt_cmpR op_ne (pv 3) pe_str (nomark _)) (pw_or1 (pt_cmpR (op_eqLen hr.units) (pv 4) (pe_lst pa_nil) (nomark _))))))))
    (pss_cons (ps_asg (pe_c G__law_read_expression hr (pa_cons (pv 0) (pa_cons (pv 1) (pa_cons (pe_op op_add (pv 5) pe_int) pa_nil)))) (pg_tupK (n := 2) (K := K) (by rfl) (by rfl) (pgs_cons (pg_name (i := 6) sc__law_read_parts.nd rfl (Or.inl rfl)) (pgs_cons (pg_name (i := 5) sc__law_read_parts.nd rfl (Or.inl rfl)) pgs_nil))))
    (pss_cons (ps_if (pt_cmpR op_isN (pv 6) pe_non (nomark _))
    (pss_one (ps_ret (pe_tup (pa_cons pe_non (pa_cons (pv 5) pa_nil)))))
    pss_nil)
    (pss_one (ps_expr (pe_bmK (K := K) (by rfl) PySem.F.plainAttrs_list PySem.F.slot_list_append PySem.F.type_list_append mt_append (pv 4) (pa_cons (pv 6) pa_nil)))))))
    (pss_cons (ps_if (PW.pt (pw_or (pt_cmpR op_ne (pe_slice sl_str (pv 1) (po_some (pv 5)) (po_some (pe_op op_add (pv 5) pe_int))) pe_str (nomark _)) (pw_or1 (PW.pt (pw_and (pt_cmpR op_eq (pv 3) pe_str (nomark _)) (pw_and1 (pt_cmpR (op_eqLen hr.units) (pv 4) (pe_lst pa_nil) (nomark _))))))))
    (pss_one (ps_ret (pe_tup (pa_cons pe_non (pa_cons (pv 5) pa_nil)))))
    pss_nil)
    (pss_one (ps_ret (pe_tup (pa_cons (pe_op (op_catTK (K := K) (by rfl)) (pe_tup (pa_cons (pv 3) pa_nil)) (pe_callTy (call_tuple_ofK (K := K) (by rfl)) (by rfl) B.tuple (by decide +kernel) (pa_cons (pv 4) pa_nil))) (pa_cons (pe_op op_add (pv 5) pe_int) pa_nil)))))))), ?_⟩
    walk_at "go"
    refine ⟨by show 0 ≤ sizeLine; decide, rd_new fun D H1 hD eD s1 => ?_⟩
    walk_at "go"
    generalize hres : rdP (rdE al T r) T w' (T.length + 1) [] a = res at kk
    have wn : decide (V.str (S w') = V.str (S kNot)) = decide (w' = kNot) := by
      rw [Bool.eq_iff_iff, decide_eq_true_eq, decide_eq_true_eq]
      constructor
      · intro h; injection h with h; exact S_inj h
      · intro h; rw [h]
    refine rd_cutW (t := tWhile _ _) (fun σ' H' => ∃ (b : Nat) (vs : List V) (ps : List PyData) (x6 : Option V), σ' = [some (.str (S al)), some (.str (S T)), some (.int (a : Nat)), some (.str (S w')), some (.ref D), some (.int (b : Nat)), x6] ∧ Same H H' ∧ H' D = some (.lst vs) ∧ TpAll H' vs ps ∧ vs.length ≤ b ∧ b ≤ T.length ∧
        res = (if hdIn (T.drop b) [41] = false ∨ (w' = kNot ∧ ps = []) then (none, b) else (some (.tuple (.str (S w') :: ps)), b + 1))) (fun nx fin => ?_) ?_
    · refine rd_whileI (m0 := T.length + 1) (fun g σ H' => ∃ (b : Nat) (vs : List V) (ps : List PyData) (x6 : Option V), σ = [some (.str (S al)), some (.str (S T)), some (.int (a : Nat)), some (.str (S w')), some (.ref D), some (.int (b : Nat)), x6] ∧ Same H H' ∧ H' D = some (.lst vs) ∧ TpAll H' vs ps ∧ vs.length ≤ b ∧ a ≤ b ∧ b ≤ T.length ∧ T.length < b + g ∧ rdP (rdE al T r) T w' g ps b = res) ⟨a, [], [], _, rfl, s1, eD, .nil, Nat.zero_le _, Nat.le_refl _, ha, by omega, hres⟩ ?_
      rintro g σ H2 ⟨b, vs, ps, x6, rfl, s2, eD2, hv2, lv, hab, hb, hg, hr2⟩
      rw [rdP_un hg] at hr2
      have lps : vs.length = ps.length := hv2.length
      refine rd_cutT (fun c H3 => Same H2 H3 ∧ c = (hdIn (T.drop b) [32] && (!decide (w' = kNot) || vs.isEmpty))) (fun R fin2 => ?_) ?_
      · walk_at "go"
        refine rd_sls (by rw [S_len]; exact zT) ?_
        walk_at "go"
        rw [spc_S, slice1]
        cases h32 : hdIn (T.drop b) [32] with
        | false =>
          refine iteF ?_
          exact fin2 _ _ ⟨Same.refl _, by rw [h32]; rfl⟩
        | true =>
          refine iteT ?_
          walk_at "go"
          rw [not_S, wn]
          refine ite2 (fun z => ?_) (fun z => ?_)
          · exact fin2 _ _ ⟨Same.refl _, by rw [h32, z]; rfl⟩
          · have z : (!decide (w' = kNot)) = false := by simpa using z
            walk_at "go"
            refine ⟨by show 0 ≤ sizeLine; decide, rd_new fun L H3 hL eL s3 => ?_⟩
            refine ⟨D, L, vs, rfl, rfl, s3 _ _ eD2, eL, ?_⟩
            walk_at "go"
            exact fin2 _ _ ⟨s3, by rw [h32, z]; rfl⟩
      · rintro c H3 ⟨s3, rfl⟩
        have hcond : (hdIn (T.drop b) [32] && (!decide (w' = kNot) || vs.isEmpty)) = true ↔ hdIn (T.drop b) [32] = true ∧ (w' ≠ kNot ∨ ps = []) := by
          have hve : vs.isEmpty = true ↔ ps = [] := by
            rw [List.isEmpty_iff]
            constructor
            · intro y; rw [y] at lps; exact List.length_eq_zero_iff.mp lps.symm
            · intro y; rw [y] at lps; exact List.length_eq_zero_iff.mp lps
          simp [hve]
        refine ite2 (fun z => ?_) (fun z => ?_)
        · have hc := hcond.mp z
          have hbl := hd_lt hc.1
          rw [if_pos hc] at hr2
          refine ⟨_, fun σ' H' y => y, ?_⟩
          walk_at "go"
          rw [show (b : Int) + 1 = ((b + 1 : Nat) : Int) by omega]
          refine use_rx hnd hA hT (by omega) (by omega) fun t v H4 s4 et hv => ?_
          obtain ⟨o, e, hoe⟩ : ∃ o e, rdE al T r (b + 1) = (o, e) := ⟨_, _, rfl⟩
          rw [hoe] at et hv hr2
          refine rd_gtup (SqT.of et) rfl ?_
          walk_at "go"
          refine ⟨rfl, ?_⟩
          walk_at "go"
          have s24 := L2.Same.trans s3 s4
          cases o with
          | none =>
            have hv : v = .non := hv
            subst hv
            refine iteT ?_
            walk_at "go"
            refine ⟨by show 2 ≤ sizeLine; decide, rd_new fun t H5 ht et s5 => ?_⟩
            walk_at "go"
            have hr2 : ((none : Option PyData), e) = res := hr2
            exact kk t .non H5 (L2.Same.trans s2 (L2.Same.trans s24 s5)) (by rw [← hr2]; exact et) (by rw [← hr2]; rfl)
          | some p =>
            have hv : Tp H4 v p := hv
            obtain ⟨dsp, rfl⟩ := rdE_tu r (b + 1) e p hoe
            obtain ⟨pv, rfl⟩ := hv.tup_ref
            have hfw := rdE_fwd al T r (b + 1) _ e hoe
            have eD4 := s24 _ _ eD2
            refine iteF ?_
            walk_at "go"
            refine ⟨.inl ⟨rfl, _, SqL.of eD4⟩, ?_⟩
            walk_at "go"
            refine ⟨D, vs, .ref pv, rfl, rfl, eD4, by rw [PySem.sizeLine_eq]; omega, ?_⟩
            walk_at "go"
            have tS : TS H4 (upd H4 D (.lst (vs ++ [.ref pv]))) := TS.set eD4
            have smD : Same H (upd H4 D (.lst (vs ++ [.ref pv]))) := Same.lay2 (L2.Same.trans s2 s24) hD
            have hr2 : rdP (rdE al T r) T w' (g - 1) (ps ++ [.tuple dsp]) e = res := hr2
            refine ⟨g - 1, by omega, e, vs ++ [.ref pv], ps ++ [.tuple dsp], _, rfl, smD, upd_same, (hv2.ts ((TS.same s24).trans tS)).app (.cons (hv.ts tS) .nil), by rw [List.length_append]; show vs.length + 1 ≤ e; omega, by omega, hfw.2, by omega, hr2⟩
        · have hc : ¬ (hdIn (T.drop b) [32] = true ∧ (w' ≠ kNot ∨ ps = [])) := fun q => z (hcond.mpr q)
          rw [if_neg hc] at hr2
          exact fin _ _ ⟨b, vs, ps, _, rfl, L2.Same.trans s2 s3, s3 _ _ eD2, hv2.ts (TS.same s3), lv, hb, hr2.symm⟩
    · rintro σ2 H2 ⟨b, vs, ps, x6, rfl, s2, eD2, hv2, lv, hb, hr2⟩
      have lps : vs.length = ps.length := hv2.length
      have hve : vs.isEmpty = true ↔ ps = [] := by
        rw [List.isEmpty_iff]
        constructor
        · intro y; rw [y] at lps; exact List.length_eq_zero_iff.mp lps.symm
        · intro y; rw [y] at lps; exact List.length_eq_zero_iff.mp lps
      try dsimp only
      refine rd_cutV (fun σ' H' => ∃ x6 : Option V, σ' = [some (.str (S al)), some (.str (S T)), some (.int (a : Nat)), some (.str (S w')), some (.ref D), some (.int (b : Nat)), x6] ∧ Same H2 H' ∧ res = (some (.tuple (.str (S w') :: ps)), b + 1)) (fun nx fin => ?_) ?_
      · with_reducible refine rd_ifs ?_
        refine rd_cutT (fun c H3 => Same H2 H3 ∧ c = (!hdIn (T.drop b) [41] || (decide (w' = kNot) && vs.isEmpty))) (fun R fin2 => ?_) ?_
        · walk_at "go"
          refine rd_sls (by rw [S_len]; exact zT) ?_
          walk_at "go"
          rw [par_S, slice1]
          cases h41 : hdIn (T.drop b) [41] with
          | false =>
            refine iteT ?_
            exact fin2 _ _ ⟨Same.refl _, by rw [h41]; rfl⟩
          | true =>
            refine iteF ?_
            walk_at "go"
            rw [not_S, wn]
            refine ite2 (fun z => ?_) (fun z => ?_)
            · walk_at "go"
              refine ⟨by show 0 ≤ sizeLine; decide, rd_new fun L H3 hL eL s3 => ?_⟩
              refine ⟨D, L, vs, rfl, rfl, s3 _ _ eD2, eL, ?_⟩
              walk_at "go"
              exact fin2 _ _ ⟨s3, by rw [h41, z]; rfl⟩
            · have z : decide (w' = kNot) = false := by simpa using z
              exact fin2 _ _ ⟨Same.refl _, by rw [h41, z]; rfl⟩
        · rintro c H3 ⟨s3, rfl⟩
          have hcond : (!hdIn (T.drop b) [41] || (decide (w' = kNot) && vs.isEmpty)) = true ↔ (hdIn (T.drop b) [41] = false ∨ (w' = kNot ∧ ps = [])) := by simp [hve]
          refine ite2 (fun z => ?_) (fun z => ?_)
          · rw [if_pos (hcond.mp z)] at hr2
            walk_at "go"
            refine ⟨by show 2 ≤ sizeLine; decide, rd_new fun t H5 ht et s5 => ?_⟩
            walk_at "go"
            exact kk t .non H5 (L2.Same.trans s2 (L2.Same.trans s3 s5)) (by rw [hr2]; exact et) (by rw [hr2]; rfl)
          · rw [if_neg (fun q => z (hcond.mpr q))] at hr2
            walk_at "go"
            exact fin _ _ ⟨_, rfl, s3, hr2⟩
      rintro σ3 H3 ⟨x6, rfl, s3, hr3⟩
      walk_at "go"
      refine ⟨by show 1 ≤ sizeLine; decide, rd_new fun g1 H4 hg1 eg1 s4 => ?_⟩
      walk_at "go"
      have eD4 := s4 _ _ (s3 _ _ eD2)
      refine rd_tupl (SqL.of eD4) (rd_new fun g2 H5 hg2 eg2 s5 => ?_)
      have hv5 : TpAll H5 vs ps := hv2.ts (TS.same (L2.Same.trans s3 (L2.Same.trans s4 s5)))
      have s25 := L2.Same.trans s3 (L2.Same.trans s4 s5)
      have eb1 : (b : Int) + 1 = ((b + 1 : Nat) : Int) := by omega
      refine rd_catT (SqT.of (s5 _ _ eg1)) (SqT.of eg2) (by simp) (by rw [PySem.sizeLine_eq]; show 1 + vs.length ≤ _; omega) (fun z => ?_) (fun z => rd_new fun g3 H6 hg3 eg3 s6 => ?_)
      · subst z
        have : ps = [] := List.length_eq_zero_iff.mp lps.symm
        subst this
        walk_at "go"
        refine ⟨by show 2 ≤ sizeLine; decide, rd_new fun t H7 ht et s7 => ?_⟩
        walk_at "go"
        rw [eb1] at et
        exact kk t (.ref g1) H7 (L2.Same.trans s2 (L2.Same.trans s25 s7)) (by rw [hr3]; exact et) (by rw [hr3]; exact .tup (s7 _ _ (s5 _ _ eg1)) (.cons (.str _) .nil))
      · walk_at "go"
        refine ⟨by show 2 ≤ sizeLine; decide, rd_new fun t H7 ht et s7 => ?_⟩
        walk_at "go"
        rw [eb1] at et
        exact kk t (.ref g3) H7 (L2.Same.trans s2 (L2.Same.trans s25 (L2.Same.trans s6 s7))) (by rw [hr3]; exact et) (by rw [hr3]; exact .tup (s7 _ _ eg3) (.cons (.str _) (hv5.ts (TS.same (L2.Same.trans s6 s7)))))
end

end Cs
namespace Cs
open PySem L2
open PyProof.Rows (envOfC)
/-! a notation is written -/
theorem S_app (x y : List Nat) : S x ++ S y = S (x ++ y) := by
  show Str.mk (x.toArray ++ y.toArray) = _
  simp
theorem joinL_sp : ∀ (u : List Nat) (vs : List (List Nat)), TL.joinL [32] (u :: vs) = u ++ partsC vs
  | u, [] => by show u = u ++ []; simp
  | u, v :: vs => by
    show u ++ ([32] ++ TL.joinL [32] (v :: vs)) = u ++ partsC (v :: vs)
    rw [joinL_sp v vs]
    simp [partsC]
theorem join_sp (u : List Nat) (vs : List (List Nat)) : Txt.join (S [32]) ((u :: vs).map S) = S (u ++ partsC vs) := by
  have e := TL.tl_join (S [32]) ((u :: vs).map S)
  rw [map_tl_S] at e
  have e2 : TL.tl (Txt.join (S [32]) ((u :: vs).map S)) = TL.tl (S (TL.joinL [32] (u :: vs))) := (congrArg TL.tl (TL.join_eq (S [32]) ((u :: vs).map S))).trans e
  exact (TL.ext_tl e2).trans (by rw [joinL_sp])
theorem partsC_len (vs : List (List Nat)) : (partsC vs).length = (vs.map fun v => v.length + 1).sum := by
  unfold partsC
  induction vs with
  | nil => rfl
  | cons v vs ih => simp [ih]; omega
theorem fmt_len {al : List Nat} : ∀ d, mF al d = true → (fmt d).length + 1 ≤ mT d * (al.length + 20) := by
  refine by_parts (fun w ps ih => ?_) (fun d h => ?_)
  · intro hF
    rw [mF_eq, Bool.and_eq_true, List.all_map, List.all_eq_true] at hF
    obtain ⟨hW, hP⟩ := hF
    obtain ⟨_, _, e0, hw, h1, h2, h3⟩ := mWF_form hW
    injection e0 with e0
    injection e0 with e1 e2
    injection e1 with e1
    subst e1 e2
    rw [mT_eq, fmt_eq, Nat.add_mul, Nat.one_mul]
    have hs : ((rel w ps).map fun p => (fmt p).length + 1).sum ≤ ((rel w ps).map mT).sum * (al.length + 20) := by
      have : ∀ l : List PyData, (∀ p ∈ l, p ∈ rel w ps) → (l.map fun p => (fmt p).length + 1).sum ≤ (l.map mT).sum * (al.length + 20) := by
        intro l
        induction l with
        | nil => intro _; simp
        | cons p l il =>
          intro hl
          have a := ih p (hl p (by simp)) (hP p (hl p (by simp)))
          have b := il fun q hq => hl q (by simp [hq])
          rw [List.map_cons, List.sum_cons, List.map_cons, List.sum_cons, Nat.add_mul]
          omega
      exact this _ fun p hp => hp
    unfold fmtF
    by_cases z1 : w = kS "set"
    · rw [if_pos z1]
      obtain ⟨cs, rfl, hc⟩ := mOne_form (h1 z1)
      have := hc.length_le
      have e : (91 :: (setC [PyData.str (S cs)] ++ [93])).length = cs.length + 2 := by simp [setC]
      rw [e]; omega
    rw [if_neg z1]
    by_cases z2 : w = kS "again"
    · rw [if_pos z2]
      obtain ⟨pp, l, hi, rfl, l0, l4, hh⟩ := mThree_form (h3 z2)
      have er : rel w [pp, .int l, hi] = [pp] := by unfold rel; rw [if_neg z1, if_pos z2]; rfl
      rw [er] at hs ⊢
      have e1 : (hiC hi).length = 1 := by rcases hh with rfl | ⟨m, rfl, _, _⟩ <;> rfl
      have e : ([40, 97, 103, 97, 105, 110, 32] ++ (([pp].map fmt).flatten ++ agC [pp, .int l, hi])).length = (fmt pp).length + 12 := by simp [agC, numC, e1]
      rw [e]
      simp at hs ⊢
      omega
    rw [if_neg z2]
    have lw : w.cps.toList.length ≤ 3 := by
      rcases hw with rfl | rfl | rfl | rfl | rfl | rfl
      · exact absurd rfl z1
      · rw [kw_not]; decide
      · exact absurd rfl z2
      · rw [kw_row]; decide
      · rw [kw_any]; decide
      · rw [kw_all]; decide
    have e : (40 :: (w.cps.toList ++ (partsC ((rel w ps).map fmt) ++ [41]))).length = w.cps.toList.length + (partsC ((rel w ps).map fmt)).length + 2 := by simp; omega
    rw [e, partsC_len, List.map_map]
    have hs2 : ((rel w ps).map ((fun v : List Nat => v.length + 1) ∘ fmt)).sum ≤ ((rel w ps).map mT).sum * (al.length + 20) := hs
    omega
  · intro hF
    have e : mF al d = false := foldD_no _ _ d h
    rw [e] at hF; cases hF
def sp_fmt (n : Nat) : Sp := fun vs H Q _ => ∃ (al : List Nat) (v : V) (d : PyData), vs = [v] ∧ Tp H v d ∧ mF al d = true ∧ mD d ≤ n ∧ mT d * (al.length + 20) ≤ 80000 ∧ ∀ H', Same H H' → Q (.str (S (fmt d))) H'
theorem use_fmt {al : List Nat} {n : Nat} {v : V} {d : PyData} {H : Hp} {Q : VK} {E : XK} (h : Tp H v d) (hF : mF al d = true) (hD : mD d ≤ n) (hT : mT d * (al.length + 20) ≤ 80000) (k : ∀ H', Same H H' → Q (.str (S (fmt d))) H') : sp_fmt n [v] H Q E := ⟨al, v, d, rfl, h, hF, hD, hT, k⟩
theorem ag_S : Str.ofString "(again" = S [40, 97, 103, 97, 105, 110] := by decide +kernel
theorem ags_S : Str.ofString "(again " = S [40, 97, 103, 97, 105, 110, 32] := by decide +kernel
theorem po_S : Str.ofString "(" = S [40] := by decide +kernel
theorem bc_S : Str.ofString "]" = S [93] := by decide +kernel
theorem st_S : Str.ofString "*" = S [42] := by decide +kernel
theorem TpAll.get {H : Hp} : ∀ {vs : List V} {ds : List PyData} {i : Nat} {v : V}, TpAll H vs ds → vs[i]? = some v → ∃ d, ds[i]? = some d ∧ Tp H v d
  | _, _, _, _, .nil, e => by simp at e
  | _, _, 0, _, .cons h _, e => by simp at e; subst e; exact ⟨_, rfl, h⟩
  | _, _, i + 1, _, .cons _ t, e => by
    obtain ⟨d, e1, h⟩ := TpAll.get (i := i) t (by simpa using e)
    exact ⟨d, by simpa using e1, h⟩
theorem mT_rel {al : List Nat} {w : Str} {ps : List PyData} {p : PyData} {C N : Nat} (h : p ∈ rel w ps) (hT : mT (.tuple (.str w :: ps)) * C ≤ N) : mT p * C ≤ N := Nat.le_trans (Nat.mul_le_mul_right C (Nat.le_of_lt (mT_part h))) hT
theorem fmt_le {al : List Nat} {d : PyData} (hF : mF al d = true) (hT : mT d * (al.length + 20) ≤ 80000) : (fmt d).length ≤ 79999 := by have := fmt_len d hF; omega
theorem sum_lenS (vs : List (List Nat)) : ((vs.map S).map (·.length)).sum = (vs.map List.length).sum := by
  rw [List.map_map]
  exact congrArg List.sum (List.map_congr_left fun x _ => S_len x)
theorem parts_ge (vs : List (List Nat)) : (vs.map List.length).sum + vs.length = (partsC vs).length := by
  rw [partsC_len]
  induction vs with
  | nil => rfl
  | cons v vs ih => rw [List.map_cons, List.sum_cons, List.map_cons, List.sum_cons, List.length_cons]; omega

end Cs
namespace Cs
open PySem L2
open PyProof.Rows (envOfC)
/-! the law's own reader: an expression -/
section
variable {P : Program} {w : World} {K : PySem.W.Frag} {mg : Str → Option Value} {base : Heap}
abbrev pX : List Str := ["_law_alphabet_here", "_law_text", "_law_at"]
theorem again_S : Str.ofString "again" = S kAgn := by decide +kernel
theorem ok_rx (B : Blt mg) {r k : Nat} (G__law_read_set : Cal P w K mg base 1 "_law_read_set" pX sp_rs) (G__law_read_word : Cal P w K mg base 1 "_law_read_word" ["_law_text", "_law_at"] sp_rword) (G__law_read_again : Cal P w K mg base (k + 1) "_law_read_again" pX (sp_ra r)) (G__law_read_parts : Cal P w K mg base (k + 1) "_law_read_parts" ["_law_alphabet_here", "_law_text", "_law_at", "_law_word"] (sp_rp r))
    (F : At K mg "_law_read_expression" s__law_read_expression pX) : Cal P w K mg base (k + 2) "_law_read_expression" pX (sp_rx (r + 1)) := by
  refine F.ok (k := k + 1) sc__law_read_expression (fun vs H Q E h => ?_) (fun f cdv A outer s H vs Q E hr h => ?_)
  · obtain ⟨al, T, a, rfl, _⟩ := h
    rfl
  · obtain ⟨al, T, a, rfl, hnd, hA, hT, ha, hf, kk⟩ := h
    have zT : T.length ≤ sizeLine := by rw [PySem.sizeLine_eq]; omega
    refine ⟨_, (pss_cons (ps_if (pt_cmpR op_eq (pe_slice sl_str (pv 1) (po_some (pv 2)) (po_some (pe_op op_add (pv 2) pe_int))) pe_str (nomark _))
    (pss_one (ps_ret (pe_c G__law_read_set (hr.mono (by first | decide | omega)) (pa_cons (pv 0) (pa_cons (pv 1) (pa_cons (pe_op op_add (pv 2) pe_int) pa_nil))))))
    pss_nil)
    (pss_cons (ps_if (pt_cmpR op_ne (pe_slice sl_str (pv 1) (po_some (pv 2)) (po_some (pe_op op_add (pv 2) pe_int))) pe_str (nomark _))
    (pss_one (ps_ret (pe_tup (pa_cons pe_non (pa_cons (pv 2) pa_nil)))))
    pss_nil)
    (pss_cons (ps_asg (pe_c G__law_read_word (hr.mono (by first | decide | omega)) (pa_cons (pv 1) (pa_cons (pe_op op_add (pv 2) pe_int) pa_nil))) (pg_tupK (n := 2) (K := K) (by rfl) (by rfl) (pgs_cons (pg_name (i := 3) sc__law_read_expression.nd rfl (Or.inl rfl)) (pgs_cons (pg_name (i := 4) sc__law_read_expression.nd rfl (Or.inl rfl)) pgs_nil))))
    (pss_cons (ps_if (pt_cmpR op_isN (pv 3) pe_non (nomark _))
    (pss_one (ps_ret (pe_tup (pa_cons pe_non (pa_cons (pv 4) pa_nil)))))
    pss_nil)
    (pss_cons (ps_if (pt_cmpR op_eq (pv 3) pe_str (nomark _))
    (pss_one (ps_ret (pe_c G__law_read_again (hr.mono (by first | decide | omega)) (pa_cons (pv 0) (pa_cons (pv 1) (pa_cons (pv 4) pa_nil))))))
    pss_nil)
    (pss_one (ps_ret (pe_c G__law_read_parts (hr.mono (by first | decide | omega)) (pa_cons (pv 0) (pa_cons (pv 1) (pa_cons (pv 4) (pa_cons (pv 3) pa_nil)))))))))))), ?_⟩
    have e1 : (a : Int) + 1 = ((a + 1 : Nat) : Int) := by omega
    walk_at "go"
    refine rd_sls (by rw [S_len]; exact zT) ?_
    walk_at "go"
    rw [brk_S, slice1]
    cases h91 : hdIn (T.drop a) [91] with
    | true =>
      have er : rdE al T (r + 1) a = rdSL al T (a + 1) := by rw [rdE, if_pos h91]
      rw [er] at kk
      have := hd_lt h91
      refine iteT ?_
      walk_at "go"
      rw [e1]
      exact use_rs hnd hA hT (by omega) kk
    | false =>
      refine iteF ?_
      walk_at "go"
      refine rd_sls (by rw [S_len]; exact zT) ?_
      walk_at "go"
      rw [po_S, slice1]
      cases h40 : hdIn (T.drop a) [40] with
      | false =>
        have er : rdE al T (r + 1) a = (none, a) := by rw [rdE, if_neg (by rw [h91]; simp), if_pos h40]
        rw [er] at kk
        refine iteT ?_
        walk_at "go"
        refine ⟨by show 2 ≤ sizeLine; decide, rd_new fun t H1 ht et s1 => ?_⟩
        walk_at "go"
        exact kk t .non H1 s1 et rfl
      | true =>
        have hal := hd_lt h40
        have hok := rdW_ok (T.drop (a + 1))
        refine iteF ?_
        walk_at "go"
        rw [e1]
        refine use_rword hT (by omega) fun t H1 s1 et => ?_
        have er : rdE al T (r + 1) a = match rdW (T.drop (a + 1)) 6 0 with
            | (none, n) => (none, a + 1 + n)
            | (some w, n) => if w = kAgn then rdA (rdE al T r) T (a + 1 + n) else rdP (rdE al T r) T w (T.length + 1) [] (a + 1 + n) := by
          rw [rdE, if_neg (by rw [h91]; simp), if_neg (by rw [h40]; simp)]; all_goals rfl
        rw [er] at kk
        obtain ⟨o, n, hon⟩ : ∃ o n, rdW (T.drop (a + 1)) 6 0 = (o, n) := ⟨_, _, rfl⟩
        rw [hon] at kk et hok
        refine rd_gtup (SqT.of et) rfl ?_
        walk_at "go"
        cases o with
        | none =>
          refine ⟨rfl, ?_⟩
          walk_at "go"
          refine iteT ?_
          walk_at "go"
          refine ⟨by show 2 ≤ sizeLine; decide, rd_new fun t H2 ht et2 s2 => ?_⟩
          walk_at "go"
          exact kk t .non H2 (L2.Same.trans s1 s2) et2 rfl
        | some w' =>
          obtain ⟨w1, rfl, w3, _⟩ := hok.yes w' rfl
          have hwl := wd_len w' w1
          have hle : a + 1 + w'.length ≤ T.length := by
            have := congrArg List.length w3
            rw [List.length_take, List.length_drop] at this
            omega
          refine ⟨rfl, ?_⟩
          walk_at "go"
          refine iteF ?_
          walk_at "go"
          rw [again_S]
          have kk : ∀ (t : Addr) (v : V) (H' : Hp), Same H H' → H' t = some (.tup [v, .int (((if w' = kAgn then rdA (rdE al T r) T (a + 1 + w'.length) else rdP (rdE al T r) T w' (T.length + 1) [] (a + 1 + w'.length)).2 : Nat) : Int)]) → oV H' v (if w' = kAgn then rdA (rdE al T r) T (a + 1 + w'.length) else rdP (rdE al T r) T w' (T.length + 1) [] (a + 1 + w'.length)).1 → Q (.ref t) H' := kk
          refine ite2 (fun z => ?_) (fun z => ?_)
          · have z : w' = kAgn := S_inj (by
              have z := of_decide_eq_true z
              injection z)
            rw [if_pos z] at kk
            walk_at "go"
            exact ⟨al, T, a + 1 + w'.length, rfl, hnd, hA, hT, hle, by omega, fun t v H2 s2 et2 hv => kk t v H2 (L2.Same.trans s1 s2) et2 hv⟩
          · have z : w' ≠ kAgn := fun q => by
              apply z
              show decide (V.str (S w') = V.str (S kAgn)) = true
              rw [q]; exact decide_eq_true rfl
            rw [if_neg z] at kk
            have hw4 : w' ∈ W4 := by
              rcases wd_cases w1 with q | q
              · exact absurd q z
              · exact q
            walk_at "go"
            exact ⟨al, T, w', a + 1 + w'.length, rfl, hw4, hnd, hA, hT, hle, by omega, fun t v H2 s2 et2 hv => kk t v H2 (L2.Same.trans s1 s2) et2 hv⟩
theorem rx_tower (B : Blt mg) (Gs : Cal P w K mg base 1 "_law_read_set" pX sp_rs) (Gw : Cal P w K mg base 1 "_law_read_word" ["_law_text", "_law_at"] sp_rword) (Fa : At K mg "_law_read_again" s__law_read_again pX) (Fp : At K mg "_law_read_parts" s__law_read_parts ["_law_alphabet_here", "_law_text", "_law_at", "_law_word"])
    (F : At K mg "_law_read_expression" s__law_read_expression pX) : ∀ r, Cal P w K mg base (2 * r + 2) "_law_read_expression" pX (sp_rx r)
  | 0 => F.ok (k := 1) sc__law_read_expression (fun vs H Q E h => by obtain ⟨al, T, a, rfl, _⟩ := h; rfl) (fun f cdv A outer s H vs Q E hr h => by obtain ⟨al, T, a, rfl, _, _, _, _, hf, _⟩ := h; omega)
  | r + 1 => by
    have ih := rx_tower B Gs Gw Fa Fp F r
    exact ok_rx (r := r) (k := 2 * r + 2) B Gs Gw (ok_ra B ih Fa) (ok_rp B ih Fp) F
end

end Cs
namespace Cs
open PySem L2
open PyProof.Rows (envOfC)
/-! the parts of an expression are its tuples -/
theorem filter_all {α : Type} {p : α → Bool} {l : List α} (h : ∀ x ∈ l, p x = true) : l.filter p = l := List.filter_eq_self.mpr h
theorem rel_filter {al : List Nat} {w : Str} {ps : List PyData} (ns : w ≠ kS "set") (hP : ∀ p ∈ rel w ps, mF al p = true) (h3 : w = kS "again" → mThree ps = true) : ps.filter isTup = rel w ps := by
  have tp : ∀ p ∈ rel w ps, isTup p = true := fun p hp => by
    obtain ⟨_, _, rfl, _⟩ := mF_form (hP p hp)
    rfl
  by_cases ha : w = kS "again"
  · obtain ⟨p, l, hi, rfl, _, _, hh⟩ := mThree_form (h3 ha)
    have er : rel w [p, .int l, hi] = [p] := by unfold rel; rw [if_neg ns, if_pos ha]; rfl
    rw [er] at tp ⊢
    have t1 := tp p (by simp)
    have t2 : isTup hi = false := by rcases hh with rfl | ⟨m, rfl, _⟩ <;> rfl
    rw [List.filter_cons, if_pos t1, List.filter_cons, if_neg (by show ¬ false = true; simp), List.filter_cons, if_neg (by rw [t2]; simp)]; rfl
  · have er : rel w ps = ps := by unfold rel; rw [if_neg ns, if_neg ha]
    rw [er] at tp ⊢
    exact filter_all tp

end Cs
namespace Cs
open PySem L2
open PyProof.Rows (envOfC)
/-! what is counted of an expression: width, tuples, plain, right -/
def mvals (d : PyData) : List V := [.int (mW d), .int (mT d), .bl (mP d), .bl (mR d)]
inductive MsAll (H : Hp) : List V → List PyData → Prop
  | nil : MsAll H [] []
  | cons {p : Addr} {d : PyData} {vs : List V} {ds : List PyData} : H p = some (.tup (mvals d)) → MsAll H vs ds → MsAll H (.ref p :: vs) (d :: ds)
theorem MsAll.ts {H H' : Hp} (s : TS H H') : ∀ {vs : List V} {ds : List PyData}, MsAll H vs ds → MsAll H' vs ds
  | _, _, .nil => .nil
  | _, _, .cons e h => .cons (s _ _ e) (MsAll.ts s h)
theorem MsAll.snoc {H : Hp} {p : Addr} {d : PyData} (e : H p = some (.tup (mvals d))) : ∀ {vs : List V} {ds : List PyData}, MsAll H vs ds → MsAll H (vs ++ [.ref p]) (ds ++ [d])
  | _, _, .nil => .cons e .nil
  | _, _, .cons e' h => .cons e' (MsAll.snoc e h)
theorem MsAll.length {H : Hp} : ∀ {vs : List V} {ds : List PyData}, MsAll H vs ds → vs.length = ds.length
  | _, _, .nil => rfl
  | _, _, .cons _ h => by rw [List.length_cons, List.length_cons, MsAll.length h]
theorem MsAll.get {H : Hp} : ∀ {vs : List V} {ds : List PyData} {i : Nat} {v : V}, MsAll H vs ds → vs[i]? = some v → ∃ d p, ds[i]? = some d ∧ v = .ref p ∧ H p = some (.tup (mvals d))
  | _, _, _, _, .nil, e => by simp at e
  | _, _, 0, _, .cons h _, e => by
    simp at e; subst e; exact ⟨_, _, rfl, rfl, h⟩
  | _, _, i + 1, v, .cons _ t, e => by
    obtain ⟨d, p, a, b⟩ := MsAll.get (i := i) (v := v) t (by simpa using e)
    exact ⟨d, p, by simpa using a, b⟩
/-- [one[j] for one in found] -/
theorem lc_fields {K : PySem.W.Frag} {x0 x1 x2 x3 x4 x5 x6 x7 : Option V} {F D : Addr} {vs : List V} {ds : List PyData} {j : Int} {f : PyData → V} {H : Hp} {Qd : Hp → Prop} (e : H F = some (.lst vs)) (h : MsAll H vs ds) (hl : ds.length ≤ 100000) (hj : ∀ d, atI (mvals d) j = some (f d))
    (hD : H D = none) (k : ∀ H' : Hp, Same H H' → H' D = some (.lst (ds.map f)) → Qd H') :
    ∃ W : Nat → Nat → Hp → Prop, (∃ m, W 0 m (upd H D (.lst []))) ∧ ∀ i m H, W i m H →
      ((Itl K F).stop i H ∧ Qd H) ∨ ((Itl K F).go i H ∧ ∃ Nx : Hp → Prop, (∀ H', Nx H' → ∃ m', m' < m ∧ W (i + 1) m' H') ∧ ∀ y H', (Itl K F).yld i H y H' → gName 7 y (wipe [x0, x1, x2, x3, x4, x5, x6, x7] [7]) H' fun σ2 H2 => wipe σ2 [7] = wipe [x0, x1, x2, x3, x4, x5, x6, x7] [7] ∧ tYes σ2 H2 fun b H3 =>
        if b = true then tOp (rIxT K) (tVar 7) (tC (.int j)) σ2 H3 fun y H4 => ∃ acc, H4 D = some (.lst acc) ∧ acc.length < sizeLine ∧ Nx (upd H4 D (.lst (acc ++ [y]))) else Nx H3) := by
  refine lc_list (xs := vs) (fun i H' => H' D = some (.lst ((ds.take i).map f)) ∧ Same H H') ⟨upd_same, Same.lay hD⟩ (fun i H' _ z => SqL.of (z.2 _ _ e)) ?_ ?_
  · rintro i y H' hi ⟨eD, sm⟩
    obtain ⟨d, p, hd, rfl, ep⟩ := MsAll.get h hi
    walk_at "go"
    refine ⟨rfl, ?_⟩
    walk_at "go"
    refine rd_ixt (SqT.of (sm _ _ ep)) (hj d) ?_
    refine ⟨_, eD, by rw [List.length_map, List.length_take, PySem.sizeLine_eq]; omega, ?_, Same.lay2 sm hD⟩
    rw [upd_same, map_snoc f hd]
  · rintro H' ⟨eD, sm⟩
    rw [h.length, List.take_length] at eD
    exact k H' sm eD
theorem dp_tup {K : PySem.W.Frag} {H : Hp} {v : V} {ds : List PyData} (h : Dp K H v (.tuple ds)) : ∃ a ys, v = .ref a ∧ SqT K H a ys ∧ DpAll K H ys ds := by
  cases h with
  | tup e h => exact ⟨_, _, rfl, e, h⟩
/-- a statement by itself, with what is known behind it -/
theorem rd_cut {t : L2.TS} {D : Ends} {σ : St} {H : Hp} (C : St → Hp → Prop) (rest : ∀ σ H, C σ H → D.nx σ H) (h : ∀ D' : Ends, (∀ σ H, C σ H → D'.nx σ H) → t D' σ H) : t D σ H := h D rest
def sp_measures (K : PySem.W.Frag) (al : List Nat) (n : Nat) : Sp := fun vs H Q _ => ∃ (v : V) (d : PyData), vs = [v] ∧ Dp K H v d ∧ mF al d = true ∧ mD d ≤ n ∧ mN d ≤ 100000 ∧ ∀ (p : Addr) (H' : Hp), Same H H' → H' p = some (.tup (mvals d)) → Q (.ref p) H'
theorem use_measures {K : PySem.W.Frag} {al : List Nat} {n : Nat} {v : V} {d : PyData} {H : Hp} {Q : VK} {E : XK} (h : Dp K H v d) (hF : mF al d = true) (hD : mD d ≤ n) (hN : mN d ≤ 100000) (k : ∀ (p : Addr) (H' : Hp), Same H H' → H' p = some (.tup (mvals d)) → Q (.ref p) H') : sp_measures K al n [v] H Q E := ⟨v, d, rfl, h, hF, hD, hN, k⟩
theorem cast_sum (f : PyData → Nat) : ∀ l : List PyData, ((l.map fun d => ((f d : Nat) : Int)).sum : Int) = ((l.map f).sum : Nat)
  | [] => rfl
  | d :: l => by
    rw [List.map_cons, List.map_cons, List.sum_cons, List.sum_cons, cast_sum f l]; omega
theorem in_plain {w : Str} (hw : w = kS "set" ∨ w = kS "not" ∨ w = kS "again" ∨ w = kS "row" ∨ w = kS "any" ∨ w = kS "all") (ns : w ≠ kS "set") : inV (.str w) [V.str (kS "row"), .str (kS "any"), .str (kS "again")] = !isBar w := by
  rcases hw with rfl | rfl | rfl | rfl | rfl | rfl
  · exact absurd rfl ns
  all_goals decide +kernel
theorem in_row {w : Str} (hw : w = kS "set" ∨ w = kS "not" ∨ w = kS "again" ∨ w = kS "row" ∨ w = kS "any" ∨ w = kS "all") : inV (.str w) [V.str (kS "row"), .str (kS "again")] = isRow w := by
  rcases hw with rfl | rfl | rfl | rfl | rfl | rfl <;> decide +kernel
section
variable {P : Program} {w : World} {K : PySem.W.Frag} {mg : Str → Option Value} {base : Heap}
theorem ok_measures (B : Blt mg) (F : At K mg "_law_measures" s__law_measures ["_law_value"]) (al : List Nat) : ∀ n : Nat, Cal P w K mg base (n + 1) "_law_measures" ["_law_value"] (sp_measures K al n) := by
  intro n
  induction n with
  | zero =>
    refine F.ok (k := 0) sc__law_measures (fun vs H Q E h => ?_) (fun f cdv A outer s H vs Q E hr h => ?_)
    · obtain ⟨v, d, rfl, _⟩ := h
      rfl
    · obtain ⟨v, d, rfl, _, hF, hD, _⟩ := h
      obtain ⟨w', ps, rfl, _⟩ := mF_form hF
      rw [mD_eq] at hD
      omega
  | succ n G__law_measures =>
    refine F.ok (k := n + 1) sc__law_measures (fun vs H Q E h => ?_) (fun f cdv A outer s H vs Q E hr h => ?_)
    · obtain ⟨v, d, rfl, _⟩ := h
      rfl
    · obtain ⟨v, d, rfl, hd, hF, hD, hN, k⟩ := h
      obtain ⟨w', ps, rfl, hW, hP⟩ := mF_form hF
      obtain ⟨_, _, e0, hw, _, _, h3⟩ := mWF_form hW
      injection e0 with e0
      injection e0 with e1 e2
      injection e1 with e1
      subst e1 e2
      refine ⟨_, (pss_cons (ps_set (i := 1) sc__law_measures.nd rfl (Or.inl rfl) (pe_ix (ix_tupK (K := K) (by rfl)) (pv 0) pe_int (fun _ _ => rfl)))
    (pss_cons (ps_if (pt_cmpR op_eq (pv 1) pe_str (nomark _))
    (pss_one (ps_ret (pe_tup (pa_cons pe_int (pa_cons pe_int (pa_cons pe_bl (pa_cons pe_bl pa_nil)))))))
    pss_nil)
    (pss_cons (ps_setLc (i := 2) (own := [("_law_part", 6)]) rfl sc__law_measures.nd rfl rfl (sw_true rfl rfl rfl (by decide +kernel)) (pi_tupK (K := K) (by rfl) (pe_slice (sl_tupAK (K := K) (by rfl)) (pv 0) (po_some pe_int) po_none)) (blkOk_by (N := ["_law_value", "_law_word", "_law_found", "_law_wide", "_law_plain_here", "_law_right", "_law_part", "_law_one"]) (sc := defScope s__law_measures) (by decide +kernel)) (fun _ _ _ _ _ => (pg_name (i := 6) sc__law_measures.nd rfl (Or.inl rfl))) (fun _ _ _ _ _ => (pts_one (pt_val (pe_callB (call_isiK' (K := K) (by rfl)) (by rfl) B.isinstance (by decide +kernel) (pa_cons (pv 6) (pa_cons (pe_ty (T := "tuple") B.tuple (by decide +kernel)) pa_nil)))))) (fun _ _ _ _ _ => (pe_c G__law_measures (hr.mono (by first | decide | omega)) (pa_cons (pv 6) pa_nil))))
    (pss_cons (ps_set (i := 3) sc__law_measures.nd rfl (Or.inl rfl) (pe_callB (call_max2 rfl) (by rfl) B.max (by decide +kernel) (pa_cons pe_int (pa_cons (pe_callB (cr_sumK (K := K) (by rfl) rfl) (by rfl) B.sum (by decide +kernel) (pa_cons (pe_lc (own := [("_law_one", 7)]) rfl sc__law_measures.nd (pi_listK (K := K) (by rfl) (pv 2)) (blkOk_by (N := ["_law_value", "_law_word", "_law_found", "_law_wide", "_law_plain_here", "_law_right", "_law_part", "_law_one"]) (sc := defScope s__law_measures) (by decide +kernel)) (fun _ _ _ _ _ => (pg_name (i := 7) sc__law_measures.nd rfl (Or.inl rfl))) (fun _ _ _ _ _ => pts_nil) (fun _ _ _ _ _ => (pe_ix (ix_tupK (K := K) (by rfl)) (pv 7) pe_int (fun _ _ => rfl)))) pa_nil)) pa_nil))))
    (pss_cons (ps_if (pt_cmpR op_eq (pv 1) pe_str (nomark _))
    (pss_one (ps_set (i := 3) sc__law_measures.nd rfl (Or.inl rfl) (pe_op op_mul (pv 3) (pe_callB (call_max2 rfl) (by rfl) B.max (by decide +kernel) (pa_cons pe_int (pa_cons (pe_ifExp (pt_cmpR op_isN (pe_ix (ix_tupK (K := K) (by rfl)) (pv 0) pe_int (fun _ _ => rfl)) pe_non (nomark _)) (pe_op op_add (pe_ix (ix_tupK (K := K) (by rfl)) (pv 0) pe_int (fun _ _ => rfl)) pe_int) (pe_ix (ix_tupK (K := K) (by rfl)) (pv 0) pe_int (fun _ _ => rfl))) pa_nil))))))
    pss_nil)
    (pss_cons (ps_set (i := 4) sc__law_measures.nd rfl (Or.inl rfl) (pe_and (pe_cmpR (op_in_seqK (K := K) (by rfl)) (pv 1) (pe_tup (pa_cons pe_str (pa_cons pe_str (pa_cons pe_str pa_nil)))) (by first | rfl | decide)) (pe_one (pe_callB (cr_allK (K := K) (by rfl) rfl) (by rfl) B.all (by decide +kernel) (pa_cons (pe_lc (own := [("_law_one", 7)]) rfl sc__law_measures.nd (pi_listK (K := K) (by rfl) (pv 2)) (blkOk_by (N := ["_law_value", "_law_word", "_law_found", "_law_wide", "_law_plain_here", "_law_right", "_law_part", "_law_one"]) (sc := defScope s__law_measures) (by decide +kernel)) (fun _ _ _ _ _ => (pg_name (i := 7) sc__law_measures.nd rfl (Or.inl rfl))) (fun _ _ _ _ _ => pts_nil) (fun _ _ _ _ _ => (pe_ix (ix_tupK (K := K) (by rfl)) (pv 7) pe_int (fun _ _ => rfl)))) pa_nil)))))
    (pss_cons (ps_set (i := 5) sc__law_measures.nd rfl (Or.inl rfl) (pe_ifExp (pt_cmpR (op_in_seqK (K := K) (by rfl)) (pv 1) (pe_tup (pa_cons pe_str (pa_cons pe_str pa_nil))) (by first | rfl | decide)) (pv 4) (pe_callB (cr_allK (K := K) (by rfl) rfl) (by rfl) B.all (by decide +kernel) (pa_cons (pe_lc (own := [("_law_one", 7)]) rfl sc__law_measures.nd (pi_listK (K := K) (by rfl) (pv 2)) (blkOk_by (N := ["_law_value", "_law_word", "_law_found", "_law_wide", "_law_plain_here", "_law_right", "_law_part", "_law_one"]) (sc := defScope s__law_measures) (by decide +kernel)) (fun _ _ _ _ _ => (pg_name (i := 7) sc__law_measures.nd rfl (Or.inl rfl))) (fun _ _ _ _ _ => pts_nil) (fun _ _ _ _ _ => (pe_ix (ix_tupK (K := K) (by rfl)) (pv 7) pe_int (fun _ _ => rfl)))) pa_nil))))
    (pss_one (ps_ret (pe_tup (pa_cons (pv 3) (pa_cons (pe_op op_add pe_int (pe_callB (cr_sumK (K := K) (by rfl) rfl) (by rfl) B.sum (by decide +kernel) (pa_cons (pe_lc (own := [("_law_one", 7)]) rfl sc__law_measures.nd (pi_listK (K := K) (by rfl) (pv 2)) (blkOk_by (N := ["_law_value", "_law_word", "_law_found", "_law_wide", "_law_plain_here", "_law_right", "_law_part", "_law_one"]) (sc := defScope s__law_measures) (by decide +kernel)) (fun _ _ _ _ _ => (pg_name (i := 7) sc__law_measures.nd rfl (Or.inl rfl))) (fun _ _ _ _ _ => pts_nil) (fun _ _ _ _ _ => (pe_ix (ix_tupK (K := K) (by rfl)) (pv 7) pe_int (fun _ _ => rfl)))) pa_nil))) (pa_cons (pv 4) (pa_cons (pv 5) pa_nil)))))))))))))), ?_⟩
      obtain ⟨a, ys, rfl, hs, hy⟩ := dp_tup hd
      cases hy with
      | @cons v0 xs _ _ h0 hx =>
        cases h0
        walk_at "go"
        refine rd_ixt hs (at_of (j := 0) rfl rfl) ?_
        walk_at "go"
        rw [dec_S]
        refine ite2 (fun h1 => ?_) (fun h1 => ?_)
        · have n1 : w' = kS "set" := by simpa using h1
          walk_at "go"
          refine ⟨by show 4 ≤ sizeLine; decide, rd_new fun p H' hp e sm => ?_⟩
          walk_at "go"
          have er : rel w' ps = [] := by unfold rel; rw [if_pos n1]
          refine k p H' sm (e.trans ?_)
          unfold mvals
          rw [mW_eq, mT_eq, mP_eq, mR_eq, er, n1]
          rfl
        · have n1 : w' ≠ kS "set" := by simpa using h1
          have rf := rel_filter n1 hP h3
          walk_at "go"
          refine rd_sla hs (fun z => ?_) (fun _ => ?_)
          · exfalso
            have z1 := z.1
            have e : HT.sIx (V.str w' :: xs).length 0 (some 1) = 1 := by
              show HT.sIx (V.str w' :: xs).length 0 (some ((1 : Nat) : Int)) = 1
              rw [HT.sIx_nat, List.length_cons]; omega
            omega
          rw [cut1]
          refine rd_new fun T H1 hT eT sm1 => ?_
          walk_at "go"
          refine ⟨T, rfl, ⟨_, SqT.of eT⟩, ?_⟩
          intro D hD
          have hlen : (rel w' ps).length ≤ 100000 := Nat.le_trans mN_len hN
          refine lc_tup (xs := xs) (fun i H' => ∃ vs, H' D = some (.lst vs) ∧ MsAll H' vs ((ps.take i).filter isTup) ∧ Same H1 H') ⟨[], upd_same, .nil, Same.lay hD⟩ (fun i H' _ z => by obtain ⟨_, _, _, z⟩ := z; exact SqT.of (z _ _ eT)) ?_ ?_
          · rintro i y H' hi ⟨vs, eD, hm, sm⟩
            obtain ⟨dp, hdp, hy⟩ := DpAll.get hx hi
            have hy' := Dp.mono (L2.Same.trans sm1 sm) hy
            walk_at "go"
            refine ⟨rfl, ?_⟩
            walk_at "go"
            refine rd_isTup hy' ?_
            walk_at "go"
            refine ite2 (fun h2 => ?_) (fun h2 => ?_)
            · have hmem : dp ∈ rel w' ps := by
                rw [← rf]
                exact List.mem_filter.mpr ⟨List.mem_of_getElem? hdp, h2⟩
              walk_at "go"
              refine use_measures hy' (hP dp hmem) (by have := mD_part hmem; omega) (Nat.le_trans (mN_part hmem) hN) fun p H2 sm2 ep => ?_
              have eD2 := sm2 _ _ eD
              have t2 : TS H2 (upd H2 D (.lst (vs ++ [.ref p]))) := TS.set eD2
              have lv : vs.length ≤ 100000 := by
                rw [hm.length]
                refine Nat.le_trans ?_ hlen
                rw [← rf]
                exact (List.Sublist.filter isTup (List.take_sublist i ps)).length_le
              refine ⟨vs, eD2, by rw [PySem.sizeLine_eq]; omega, vs ++ [.ref p], upd_same, ?_, Same.lay2 (L2.Same.trans sm sm2) hD⟩
              rw [filter_snoc hdp, if_pos h2]
              exact ((hm.ts (TS.same sm2)).snoc ep).ts t2
            · refine ⟨vs, eD, ?_, sm⟩
              rw [filter_snoc hdp, if_neg h2, List.append_nil]; exact hm
          · rintro H3 ⟨vs, eD, hm, sm⟩
            rw [DpAll.length hx, List.take_length, rf] at hm
            have smA : Same H H3 := L2.Same.trans sm1 sm
            walk_at "go"
            refine ⟨D, rfl, ⟨_, SqL.of eD⟩, ?_⟩
            intro D1 hD1
            refine lc_fields (f := fun d => .int (mW d)) eD hm hlen (fun _ => rfl) hD1 fun H4 sm4 e4 => ?_
            have eD4 := sm4 _ _ eD
            have hm4 := hm.ts (TS.same sm4)
            walk_at "go"
            refine rd_sum (ns := (rel w' ps).map mW) (SqL.of (by rw [e4, List.map_map]; rfl)) ?_
            walk_at "go"
            refine ⟨_, _, rfl, ?_⟩
            obtain ⟨wd, hwd⟩ : ∃ wd : Int, wd = m1 ((rel w' ps).map mW).sum := ⟨_, rfl⟩
            rw [show (if ((rel w' ps).map mW).sum > 1 then ((rel w' ps).map mW).sum else 1) = wd from hwd.symm]
            have sm04 : Same H H4 := L2.Same.trans smA sm4
            have fT : 1 + ((rel w' ps).map mT).sum = mT (.tuple (.str w' :: ps)) := (mT_eq w' ps).symm
            have fP : (!isBar w' && ((rel w' ps).map mP).all id) = mP (.tuple (.str w' :: ps)) := (mP_eq w' ps).symm
            have fR : (if isRow w' then (rel w' ps).all mP else (rel w' ps).all mR) = mR (.tuple (.str w' :: ps)) := (mR_eq w' ps).symm
            have fW : ∀ u, u = (if w' = kS "again" then wd * mFac ps else wd) → u = mW (.tuple (.str w' :: ps)) := fun u e => by
              rw [e, mW_eq, hwd]
            have ip := in_plain hw n1
            have ir := in_row hw
            have hW0 : mThree ps = true ∨ w' ≠ kS "again" := by
              by_cases z : w' = kS "again"
              · exact .inl (h3 z)
              · exact .inr z
            have hs4 := Same.seqT sm04 hs
            clear rf
            revert k fT fP fR fW hm4 hlen
            generalize rel w' ps = rs
            generalize hd0 : PyData.tuple (.str w' :: ps) = d
            intro k hlen hm4 fT fP fR fW
            with_reducible refine rd_gname ?_
            with_reducible refine rd_seq ?_
            refine rd_cut (t := tIfS _ _ _) (fun σ' H' => ∃ u : Int, u = mW d ∧ σ' = [some (.ref a), some (.str w'), some (.ref D), some (.int u), none, none, none, none] ∧ H' D = some (.lst vs) ∧ MsAll H' vs rs ∧ Same H H') ?rest ?here
            case here =>
              intro D' fin
              walk_at "go"
              rw [dec_S]
              refine ite2 (fun h5 => ?_) (fun h5 => ?_)
              · have w1 : w' = kS "again" := by simpa using h5
                obtain ⟨pp, l, hi, rfl, l0, l4, hh⟩ := mThree_form (h3 w1)
                obtain ⟨v1, v2, v3, d1, d2, d3, rfl, e3, a1, a2, a3⟩ := dpAll3 hx (DpAll.length hx)
                injection e3 with e3 e5
                injection e5 with e5 e6
                injection e6 with e6 _
                subst e3 e5 e6
                cases a2
                walk_at "go"
                refine rd_ixt hs4 (at_of (j := 3) rfl rfl) ?_
                walk_at "go"
                rcases hh with rfl | ⟨m, rfl, m0, m4⟩
                · cases a3
                  refine ⟨rfl, ?_⟩
                  walk_at "go"
                  refine iteT ?_
                  walk_at "go"
                  refine rd_ixt hs4 (at_of (j := 2) rfl rfl) ?_
                  walk_at "go"
                  refine ⟨_, _, rfl, ?_⟩
                  have hl : (if l + 1 > 1 then l + 1 else 1) = l + 1 := by split <;> omega
                  rw [hl]
                  refine rd_i (C := CMul) (a := wd) (b := l + 1) (.inr ⟨by omega, by omega⟩) ?_
                  exact fin _ _ ⟨_, fW _ (by rw [if_pos w1]; rfl), rfl, eD4, hm4, sm04⟩
                · cases a3
                  refine ⟨rfl, ?_⟩
                  walk_at "go"
                  refine iteF ?_
                  walk_at "go"
                  refine rd_ixt hs4 (at_of (j := 3) rfl rfl) ?_
                  walk_at "go"
                  refine ⟨_, _, rfl, ?_⟩
                  obtain ⟨mm, hmm⟩ : ∃ mm : Int, mm = m1 m := ⟨_, rfl⟩
                  rw [show (if m > 1 then m else 1) = mm from hmm.symm]
                  have hb : 1 ≤ mm ∧ mm ≤ 4 := by rw [hmm]; unfold m1; split <;> omega
                  refine rd_i (C := CMul) (a := wd) (b := mm) (.inr ⟨by omega, by omega⟩) ?_
                  exact fin _ _ ⟨_, fW _ (by rw [if_pos w1, hmm]; rfl), rfl, eD4, hm4, sm04⟩
              · have n2 : ¬ w' = kS "again" := by simpa using h5
                walk_at "go"
                exact fin _ _ ⟨_, fW _ (by rw [if_neg n2]), rfl, eD4, hm4, sm04⟩
            case rest =>
              rintro σ5 H5 ⟨u, hu, rfl, eD5, hm5, sm05⟩
              with_reducible refine rd_seq ?_
              refine rd_cut (t := tAsg _ _) (fun σ' H' => σ' = [some (.ref a), some (.str w'), some (.ref D), some (.int u), some (.bl (mP d)), none, none, none] ∧ H' D = some (.lst vs) ∧ MsAll H' vs rs ∧ Same H H') ?rest ?here
              case here =>
                intro D' fin
                walk_at "go"
                refine ⟨by show 3 ≤ sizeLine; decide, rd_new fun T2 H6 hT2 eT2 sm6 => ?_⟩
                walk_at "go"
                refine rd_in (.inr (SqT.of eT2)) rfl rfl ?_
                rw [if_neg Bool.false_ne_true, ip]
                have sm06 := L2.Same.trans sm05 sm6
                have eD6 := sm6 _ _ eD5
                have hm6 := hm5.ts (TS.same sm6)
                walk_at "go"
                refine ite2 (fun hb => ?_) (fun hb => ?_)
                · walk_at "go"
                  refine ⟨D, rfl, ⟨_, SqL.of eD6⟩, ?_⟩
                  intro D7 hD7
                  refine lc_fields (f := fun d => .bl (mP d)) eD6 hm6 hlen (fun _ => rfl) hD7 fun H7 sm7 e7 => ?_
                  walk_at "go"
                  refine rd_all (ns := rs.map mP) (SqL.of (by rw [e7, List.map_map]; rfl)) ?_
                  have hP2 : (rs.map mP).all id = mP d := by rw [← fP, hb]; simp
                  rw [hP2]
                  exact fin _ _ ⟨rfl, sm7 _ _ eD6, hm6.ts (TS.same sm7), L2.Same.trans sm06 sm7⟩
                · have hb' : isBar w' = true := by
                    cases z : isBar w' with
                    | true => rfl
                    | false => rw [z] at hb; exact absurd rfl hb
                  have hP2 : false = mP d := by rw [← fP, hb']; rfl
                  walk_at "go"
                  rw [hP2]
                  exact fin _ _ ⟨rfl, eD6, hm6, sm06⟩
              case rest =>
                rintro σ6 H6 ⟨rfl, eD6, hm6, sm06⟩
                with_reducible refine rd_seq ?_
                refine rd_cut (t := tAsg _ _) (fun σ' H' => σ' = [some (.ref a), some (.str w'), some (.ref D), some (.int u), some (.bl (mP d)), some (.bl (mR d)), none, none] ∧ H' D = some (.lst vs) ∧ MsAll H' vs rs ∧ Same H H') ?rest ?here
                case here =>
                  intro D' fin
                  walk_at "go"
                  refine ⟨by show 2 ≤ sizeLine; decide, rd_new fun T2 H7 hT2 eT2 sm7 => ?_⟩
                  walk_at "go"
                  refine rd_in (.inr (SqT.of eT2)) rfl rfl ?_
                  rw [if_neg Bool.false_ne_true, ir]
                  have sm07 := L2.Same.trans sm06 sm7
                  have eD7 := sm7 _ _ eD6
                  have hm7 := hm6.ts (TS.same sm7)
                  walk_at "go"
                  refine ite2 (fun hb => ?_) (fun hb => ?_)
                  · walk_at "go"
                    have hR2 : mP d = mR d := by
                      rw [← fR, if_pos hb, ← fP]
                      have : isBar w' = false := by
                        rcases hw with rfl | rfl | rfl | rfl | rfl | rfl <;> first | (revert hb; decide +kernel) | decide +kernel
                      rw [this, List.all_map]; rfl
                    rw [hR2]
                    exact fin _ _ ⟨by rw [hR2]; rfl, eD7, hm7, sm07⟩
                  · walk_at "go"
                    refine ⟨D, rfl, ⟨_, SqL.of eD7⟩, ?_⟩
                    intro D8 hD8
                    refine lc_fields (f := fun d => .bl (mR d)) eD7 hm7 hlen (fun _ => rfl) hD8 fun H8 sm8 e8 => ?_
                    walk_at "go"
                    refine rd_all (ns := rs.map mR) (SqL.of (by rw [e8, List.map_map]; rfl)) ?_
                    have hR2 : (rs.map mR).all id = mR d := by rw [← fR, if_neg hb, List.all_map]; rfl
                    rw [hR2]
                    exact fin _ _ ⟨rfl, sm8 _ _ eD7, hm7.ts (TS.same sm8), L2.Same.trans sm07 sm8⟩
                case rest =>
                  rintro σ7 H7 ⟨rfl, eD7, hm7, sm07⟩
                  walk_at "go"
                  refine ⟨D, rfl, ⟨_, SqL.of eD7⟩, ?_⟩
                  intro D8 hD8
                  refine lc_fields (f := fun d => .int (mT d)) eD7 hm7 hlen (fun _ => rfl) hD8 fun H8 sm8 e8 => ?_
                  walk_at "go"
                  refine rd_sum (ns := rs.map fun d => ((mT d : Nat) : Int)) (SqL.of (by rw [e8, List.map_map]; rfl)) ?_
                  walk_at "go"
                  refine ⟨by show 4 ≤ sizeLine; decide, rd_new fun p H9 hp eP sm9 => ?_⟩
                  walk_at "go"
                  refine k p H9 (L2.Same.trans sm07 (L2.Same.trans sm8 sm9)) ?_
                  rw [eP]
                  unfold mvals
                  have hT2 : (1 : Int) + (rs.map fun d => ((mT d : Nat) : Int)).sum = ((mT d : Nat) : Int) := by rw [cast_sum, ← fT]; omega
                  rw [hT2, hu]
end

end Cs
namespace Cs
open PySem L2
open PyProof.Rows (envOfC)
/-! the law's own word on an expression -/
def sp_ispat (n : Nat) : Sp := fun vs H Q _ => ∃ (al : List Nat) (v : V) (d : PyData), vs = [v] ∧ Tp H v d ∧ mF al d = true ∧ mD d ≤ n ∧ mN d ≤ 100000 ∧ ∀ H', Same H H' → Q (.bl (mPat al d)) H'
theorem use_ispat {al : List Nat} {n : Nat} {v : V} {d : PyData} {H : Hp} {Q : VK} {E : XK} (h : Tp H v d) (hF : mF al d = true) (hD : mD d ≤ n) (hN : mN d ≤ 100000) (k : ∀ H', Same H H' → Q (.bl (mPat al d)) H') : sp_ispat n [v] H Q E := ⟨al, v, d, rfl, h, hF, hD, hN, k⟩
section
variable {P : Program} {w : World} {K : PySem.W.Frag} {mg : Str → Option Value} {base : Heap}
theorem ok_ispat {n k : Nat} (Gm : ∀ al, Cal P w K mg base k "_law_measures" ["_law_value"] (sp_measures K al n)) (F : At K mg "_law_is_pattern" s__law_is_pattern ["_law_expression"]) : Cal P w K mg base (k + 1) "_law_is_pattern" ["_law_expression"] (sp_ispat n) := by
  refine F.ok (k := k) sc__law_is_pattern (fun vs H Q E h => ?_) (fun f cdv A outer s H vs Q E hr h => ?_)
  · obtain ⟨al, v, d, rfl, _⟩ := h
    rfl
  · obtain ⟨al, v, d, rfl, hd, hF, hD, hN, kk⟩ := h
    have G__law_measures := Gm al
    refine ⟨_, (pss_cons (ps_asg (pe_c G__law_measures hr (pa_cons (pv 0) pa_nil)) (pg_tupK (n := 4) (K := K) (by rfl) (by rfl) (pgs_cons (pg_name (i := 1) sc__law_is_pattern.nd rfl (Or.inl rfl)) (pgs_cons (pg_name (i := 2) sc__law_is_pattern.nd rfl (Or.inl rfl)) (pgs_cons (pg_name (i := 3) sc__law_is_pattern.nd rfl (Or.inl rfl)) (pgs_cons (pg_name (i := 4) sc__law_is_pattern.nd rfl (Or.inl rfl)) pgs_nil))))))
    (pss_one (ps_ret (pe_and (pe_cmpR op_le (pv 1) pe_int (nomark _)) (pe_and (pe_cmpR op_le (pv 2) pe_int (nomark _)) (pe_one (pv 4))))))), ?_⟩
    walk_at "go"
    refine use_measures hd.dp hF hD hN fun p H1 s1 ep => ?_
    unfold mvals at ep
    refine rd_gtup (SqT.of ep) rfl ?_
    walk_at "go"
    have hm : mPat al d = (decide (mW d ≤ 10) && (decide ((mT d : Int) ≤ 20) && mR d)) := by
      rw [Bool.eq_iff_iff, mPat_iff]
      simp only [Bool.and_eq_true, decide_eq_true_eq]
      constructor
      · rintro ⟨_, b, c, e⟩; exact ⟨e, by omega, b⟩
      · rintro ⟨e, c, b⟩; exact ⟨hF, b, by omega, e⟩
    have kk := kk H1 s1
    rw [hm] at kk
    cases h1 : decide (mW d ≤ 10) with
    | false =>
      rw [h1] at kk
      walk_at "go"
      exact kk
    | true =>
      rw [h1] at kk
      walk_at "go"
      cases h2 : decide ((mT d : Int) ≤ 20) with
      | false =>
        rw [h2] at kk
        walk_at "go"
        exact kk
      | true =>
        rw [h2] at kk
        walk_at "go"
        exact kk
end

end Cs
namespace Cs
open PySem L2
open PyProof.Rows (envOfC)
/-! the law's own reader: a pattern -/
def finR (al T : List Nat) : Option PyData × Nat := match rdE al T 80 0 with
  | (some d, e) => if e < T.length ∨ mPat al d = false then (none, e) else (some d, e)
  | (none, e) => (none, e)
def sp_rpat : Sp := fun vs H Q _ => ∃ (al T : List Nat), vs = [.str (S al), .str (S T)] ∧ Alp al ∧ T.length < 400 ∧ ∀ (t : Addr) (v : V) (H' : Hp), Same H H' → H' t = some (.tup [v, .int ((finR al T).2 : Nat)]) → oV H' v (finR al T).1 → Q (.ref t) H'
section
variable {P : Program} {w : World} {K : PySem.W.Frag} {mg : Str → Option Value} {base : Heap}
theorem ok_rpat (B : Blt mg) {k : Nat} (G__law_read_expression : Cal P w K mg base k "_law_read_expression" pX (sp_rx 80)) (G__law_is_pattern : Cal P w K mg base k "_law_is_pattern" ["_law_expression"] (sp_ispat 81)) (F : At K mg "_law_read_pattern" s__law_read_pattern ["_law_alphabet_here", "_law_text"]) :
    Cal P w K mg base (k + 1) "_law_read_pattern" ["_law_alphabet_here", "_law_text"] sp_rpat := by
  refine F.ok (k := k) sc__law_read_pattern (fun vs H Q E h => ?_) (fun f cdv A outer s H vs Q E hr h => ?_)
  · obtain ⟨al, T, rfl, _⟩ := h
    rfl
  · obtain ⟨al, T, rfl, hA, hT, kk⟩ := h
    have zT : T.length ≤ sizeLine := by rw [PySem.sizeLine_eq]; omega
    refine ⟨_, (pss_cons (ps_asg (pe_c G__law_read_expression hr (pa_cons (pv 0) (pa_cons (pv 1) (pa_cons pe_int pa_nil)))) (pg_tupK (n := 2) (K := K) (by rfl) (by rfl) (pgs_cons (pg_name (i := 2) sc__law_read_pattern.nd rfl (Or.inl rfl)) (pgs_cons (pg_name (i := 3) sc__law_read_pattern.nd rfl (Or.inl rfl)) pgs_nil))))
    (pss_cons (ps_if (PW.pt (pw_and (pt_cmpR op_notN (pv 2) pe_non (nomark _)) (pw_and1 (PW.pt (pw_or (pt_cmpR op_lt (pv 3) (pe_callB call_len_str (by rfl) B.len PySem.boot_len (pa_cons (pv 1) pa_nil)) (nomark _)) (pw_or1 (pt_not (pt_val (pe_c G__law_is_pattern hr (pa_cons (pv 2) pa_nil))))))))))
    (pss_one (ps_set (i := 2) sc__law_read_pattern.nd rfl (Or.inl rfl) pe_non))
    pss_nil)
    (pss_one (ps_ret (pe_tup (pa_cons (pv 2) (pa_cons (pv 3) pa_nil))))))), ?_⟩
    walk_at "go"
    refine use_rx (a := 0) (r := 80) hA.nd hA.hi (by omega) (Nat.zero_le _) (by omega) fun t v H1 s1 et hv => ?_
    unfold finR at kk
    obtain ⟨o, e, hoe⟩ : ∃ o e, rdE al T 80 0 = (o, e) := ⟨_, _, rfl⟩
    rw [hoe] at et hv kk
    refine rd_gtup (SqT.of et) rfl ?_
    walk_at "go"
    refine ⟨rfl, ?_⟩
    walk_at "go"
    cases o with
    | none =>
      have hv : v = .non := hv
      subst hv
      refine iteF ?_
      walk_at "go"
      refine ⟨by show 2 ≤ sizeLine; decide, rd_new fun t H2 ht et2 s2 => ?_⟩
      walk_at "go"
      exact kk t .non H2 (L2.Same.trans s1 s2) et2 rfl
    | some d =>
      have hv : Tp H1 v d := hv
      have ro := rdE_ro hA 80 0 e d hoe
      obtain ⟨ds, rfl⟩ := rdE_tu 80 0 e d hoe
      obtain ⟨pv, rfl⟩ := hv.tup_ref
      have kk : ∀ (t : Addr) (v : V) (H' : Hp), Same H H' → H' t = some (.tup [v, .int (((if e < T.length ∨ mPat al (.tuple ds) = false then ((none : Option PyData), e) else (some (.tuple ds), e)).2 : Nat) : Int)]) → oV H' v (if e < T.length ∨ mPat al (.tuple ds) = false then ((none : Option PyData), e) else (some (.tuple ds), e)).1 → Q (.ref t) H' := kk
      refine iteT ?_
      walk_at "go"
      refine ⟨S T, rfl, by rw [S_len]; exact zT, ?_⟩
      rw [S_len]
      walk_at "go"
      refine ite2 (fun z => ?_) (fun z => ?_)
      · have z : e < T.length := by have := of_decide_eq_true z; omega
        rw [if_pos (.inl z)] at kk
        refine iteT ?_
        walk_at "go"
        refine ⟨by show 2 ≤ sizeLine; decide, rd_new fun t H2 ht et2 s2 => ?_⟩
        walk_at "go"
        exact kk t .non H2 (L2.Same.trans s1 s2) et2 rfl
      · have z : ¬ e < T.length := fun q => z (decide_eq_true (by omega))
        walk_at "go"
        refine use_ispat hv ro.F (by have := ro.D; omega) (by have := ro.N; omega) fun H2 s2 => ?_
        walk_at "go"
        cases hm : mPat al (.tuple ds) with
        | true =>
          rw [if_neg (fun q => by
            rcases q with q | q
            · exact z q
            · rw [hm] at q; cases q)] at kk
          refine iteF ?_
          walk_at "go"
          refine ⟨by show 2 ≤ sizeLine; decide, rd_new fun t H3 ht et2 s3 => ?_⟩
          walk_at "go"
          exact kk t (.ref pv) H3 (L2.Same.trans s1 (L2.Same.trans s2 s3)) et2 (hv.ts (TS.same (L2.Same.trans s2 s3)))
        | false =>
          rw [if_pos (.inr hm)] at kk
          refine iteT ?_
          walk_at "go"
          refine ⟨by show 2 ≤ sizeLine; decide, rd_new fun t H3 ht et2 s3 => ?_⟩
          walk_at "go"
          exact kk t .non H3 (L2.Same.trans s1 (L2.Same.trans s2 s3)) et2 rfl
end

end Cs
namespace Cs
open PySem L2
open PyProof.Rows (envOfC)
/-! the caught error: isinstance, a field -/
/-- isinstance of the caught error, with fields -/
def rIsX (K : PySem.W.Frag) (a : Addr) (cls : Value) (d : Option Addr) : List V → Hp → VK → Prop := fun xs H Q => ∃ (D dd : Addr) (fs : List (Str × V)) (c : V) (cv : Value) (b : Bool), xs = [.ref a, c] ∧ cls = .ref D ∧ d = some dd ∧ H dd = some (.xd fs) ∧ ExcC K D ∧ (∀ u, RelV c u → u = cv) ∧ PySem.W.kitOne K (.ref D) cv = some b ∧ Q (.bl b) H
theorem call_isX {X : Cx} {a : Addr} {oe : Obj} {cls : Value} {d : Option Addr} {pn : List (Addr × Obj)} (hz : Zc cls d oe) (hf : ∃ vs, oe.data = .fields vs) : CallR (X.suite a ((a, oe) :: pn)) (.builtin "isinstance") (rIsX X.K a cls d) := by
  intro pins s σ H xs us Q I r h
  obtain ⟨D, dd, fs, c, cv, b, rfl, rfl, rfl, ed, C, hcv, e, q⟩ := h
  cases r with
  | cons rx rr =>
    cases rr with
    | cons rt rr =>
      cases rr
      cases rx
      have ec := hcv _ rt
      subst ec
      obtain ⟨hget, _⟩ := I.pin (a, oe) (List.mem_append.mpr (.inl List.mem_cons_self))
      obtain ⟨vs, hd⟩ := hf
      have hx : ObjOk X.prog X.w H s.heap dd (.xd fs) := I.hok dd _ ed
      obtain ⟨mA, hns, hr⟩ := hx
      obtain ⟨od, ho, hl⟩ := lookIn_ns hns
      have J : PySem.W.InstAt s.heap a oe D (some od) := ⟨hget, hz.1, by unfold PySem.W.notCls; rw [hd] <;> rfl, by rw [hz.2]; exact ho⟩
      have cls : (PySem.W.clsIn X.K D).isSome = true := by
        obtain ⟨cd, hc, _⟩ := PySem.W.any_some C.hd
        rw [hc]; rfl
      exact PySem.W.kia_one (PySem.W.kitx_exc cls C.hg C.hk C.hs C.ha C.hn C.ht C.hm) I.kIn J e (fun z => nomatch z) fun tk => ⟨.bl b, H, I.kept (t' := tk) fun _ _ z => z, rfl, q⟩
theorem rd_xf {a : Addr} {cls : Value} {d : Option Addr} {C : Addr} {f : Str} {te : TE} {σ : St} {H : Hp} {Q : VK} (h : te σ H fun x H1 => x = .ref a ∧ cls = .ref C ∧ ∃ (dd : Addr) (fs : List (Str × V)) (v : V), d = some dd ∧ H1 dd = some (.xd fs) ∧ fs.lookup f = some v ∧ Q v H1) : tXf a cls d C f te σ H Q := h

end Cs
namespace Cs
open PySem L2
open PyProof.Rows (envOfC)
/-! what the program answers, or with what it refuses -/
structure INotX (K : PySem.W.Frag) (mg : Str → Option Value) (CN root : Addr) : Prop where
  gI : mg "InvalidNotation" = some (.ref CN)
  c_CutError : ∃ u, mg "CutError" = some u ∧ RelV (.ref root) u
  BV : mg "ValueError" = none
  exm : PySem.W.exmOne K (.ref CN) (.ref CN) = some true
  ex : ExcC K CN
  xf : XfC K CN
  no : PySem.W.findIn K (.ref CN) "index" = some none
  kR : PySem.W.kitOne K (.ref CN) (.ref root) = some true
  kV : PySem.W.kitOne K (.ref CN) (.type "ValueError") = some true
theorem lk_hereT {f : Str} {v : V} {l : List (Str × V)} : ((f, v) :: l).lookup f = some v := by simp [List.lookup]
theorem sc_told : FnScope ["_law_alphabet_here", "_law_text", "_law_found", "e", "_law_right"] ["_law_alphabet_here", "_law_text"] (defScope s__law_told) := ⟨rfl, rfl, rfl, by decide +kernel, rfl, by decide +kernel, by decide +kernel⟩
/-- the two readers, to the end -/
theorem fin_prs {al T : List Nat} (hT : T.length < 400) : ∃ k0 res, prs al T k0 [] 0 = some res ∧ (∀ d e, res = .ok (d, e) → rdE al T 80 0 = (some d, e)) ∧ (∀ d, res = .ok (d, T.length) → mPat al d = true → finR al T = (some d, T.length)) ∧ ∀ n, PErr al T res n → finR al T = (none, n) := by
  obtain ⟨c, hc⟩ := sim_all (al := al) (T := T) 80 0 (by omega)
  have h0 := hc [] 0
  cases hr : rdE al T 80 0 with
  | mk o e =>
    rw [hr] at h0
    have hfin : finR al T = match (o, e) with
      | (some d, e) => if e < T.length ∨ mPat al d = false then (none, e) else (some d, e)
      | (none, e) => (none, e) := by unfold finR; rw [hr]; all_goals rfl
    cases o with
    | none =>
      refine ⟨0 + c, .error e, h0, fun d n h => (by cases h), fun d h => (by cases h), fun n h => ?_⟩
      rw [hfin]
      rcases h with h | ⟨d, e', h, _⟩ | ⟨d, h, _⟩
      · cases h; rfl
      · cases h
      · cases h
    | some d =>
      have hf := rdE_fwd al T 80 0 d e hr
      refine ⟨0 + c, .ok (d, e), h0, fun d' n h => (by cases h; rfl), fun d' h hp => ?_, fun n h => ?_⟩
      · injection h with h
        injection h with h1 h2
        subst h1 h2
        rw [hfin]
        show (if _ ∨ _ then _ else _) = _
        rw [if_neg (fun q => by
          rcases q with q | q
          · omega
          · rw [hp] at q; cases q)]
      · rw [hfin]
        show (if _ ∨ _ then _ else _) = _
        rcases h with h | ⟨d', e', h, hl, hn⟩ | ⟨d', h, hp, hn⟩
        · cases h
        · injection h with h
          injection h with h1 h2
          subst h1 h2 hn
          rw [if_pos (.inl hl)]
        · injection h with h
          injection h with h1 h2
          subst h1 h2 hn
          rw [if_pos (.inr hp)]
def sp_told : Sp := fun vs H Q _ => ∃ (al T : List Nat), vs = [.str (S al), .str (S T)] ∧ Alp al ∧ T.length < 400 ∧ ∀ (t : Addr) (v : V) (H' : Hp), Same H H' → H' t = some (.tup [v, .int ((finR al T).2 : Nat)]) → oV H' v (finR al T).1 → Q (.ref t) H'
section
variable {P : Program} {w : World} {K : PySem.W.Frag} {mg : Str → Option Value} {base : Heap}
theorem ok_told (B : Blt mg) {CN root : Addr} (T : INotX K mg CN root) (G_parse_pattern : CalX P w K mg base 24 "parse_pattern" ["alphabet", "text"] (sp_parse CN)) (F : At K mg "_law_told" s__law_told ["_law_alphabet_here", "_law_text"]) :
    Cal P w K mg base 25 "_law_told" ["_law_alphabet_here", "_law_text"] sp_told := by
  refine F.ok (k := 24) sc_told (fun vs H Q E h => ?_) (fun f cdv A outer s H vs Q E hr h => ?_)
  · obtain ⟨al, Tx, rfl, _⟩ := h
    rfl
  · obtain ⟨al, Tx, rfl, hA, hT, k⟩ := h
    obtain ⟨k0, res, hres, hok, hgood, hbad⟩ := fin_prs (al := al) hT
    refine ⟨_, pss_cons (ps_set (i := 2) sc_told.nd rfl (Or.inl rfl) pe_non)
      (pss_cons (ps_try_as (i := 3) (Wout := fun _ _ _ _ => False) rfl rfl sc_told.nd rfl rfl ⟨rfl, by decide, .inl T.gI⟩ takes0
        (fun W pn xe tk _ => pss_one (ps_set (i := 2) sc_told.nd rfl (Or.inl rfl) (pe_tup (pa_cons (pe_cX G_parse_pattern hr tk (pa_cons (pv 0) (pa_cons (pv 1) pa_nil))) (pa_cons (pe_callB call_len_str (by rfl) B.len PySem.boot_len (pa_cons (pv 1) pa_nil)) pa_nil)))))
        (fun a oe cls d pn hz hf => pss_cons (ps_set (i := 4) sc_told.nd rfl (Or.inl rfl) (pe_and (pe_callB (call_isX hz hf) (by rfl) B.isinstance (by decide +kernel) (pa_cons (pv 3) (pa_cons (pe_k T.c_CutError) pa_nil)))
            (pe_one (pe_callB (call_isX hz hf) (by rfl) B.isinstance (by decide +kernel) (pa_cons (pv 3) (pa_cons (pe_ty (T := "ValueError") T.BV (by decide +kernel)) pa_nil))))))
          (pss_one (ps_set (i := 2) sc_told.nd rfl (Or.inl rfl) (pe_tup (pa_cons pe_non (pa_cons (pe_ifExp (pt_val (pv 4)) (pe_xf T.xf T.no hz hf (pv 3)) (pe_un un_neg pe_int)) pa_nil)))))))
      (pss_one (ps_ret (pv 2)))), ?_⟩
    walk_at "go"
    refine rd_callS ?_
    walk_at "go"
    refine use_parse (by have := hA.hi; omega) (by omega) hres (fun d e h => by have := (rdE_ro hA 80 0 e d (hok d e h)).N; omega) (fun d hd hp v H1 s1 hv => ?_) (fun n hb d H1 nd s1 ed => ?_)
    · have hf := hgood d hd hp
      rw [hf] at k
      walk_at "go"
      refine ⟨S Tx, rfl, by rw [S_len, PySem.sizeLine_eq]; omega, ?_⟩
      rw [S_len]
      walk_at "go"
      refine ⟨by show 2 ≤ sizeLine; decide, rd_new fun t H2 ht et s2 => ?_⟩
      walk_at "go"
      exact k t v H2 (L2.Same.trans s1 s2) et (hv.ts (TS.same s2))
    · have hf := hbad n hb
      rw [hf] at k
      refine ⟨true, T.exm, fun _ a ha => ?_, fun z => nomatch z⟩
      walk_at "go"
      refine ⟨CN, d, _, _, _, true, rfl, rfl, rfl, ed, T.ex, fun u r => r, T.kR, ?_⟩
      walk_at "go"
      refine ⟨CN, d, _, _, _, true, rfl, rfl, rfl, ed, T.ex, fun u r => r, T.kV, ?_⟩
      walk_at "go"
      refine rd_xf ?_
      walk_at "go"
      refine ⟨rfl, rfl, d, _, _, rfl, ed, lk_hereT, ?_⟩
      walk_at "go"
      refine ⟨by show 2 ≤ sizeLine; decide, rd_new fun t H2 ht et s2 => ?_⟩
      walk_at "go"
      exact k t .non H2 (L2.Same.trans s1 s2) et rfl
end

end Cs
namespace Cs
open PySem L2
open PyProof.Rows (envOfC)
/-! lists of ints as data -/
theorem dpInts {K : PySem.W.Frag} {H : Hp} {p : Addr} {ns : List Int} (e : H p = some (.lst (ns.map V.int))) : Dp K H (.ref p) (.list (ns.map PyData.int)) := by
  refine .lst (SqL.of e) ?_
  clear e
  induction ns with
  | nil => exact .nil
  | cons a l ih => exact .cons (.int a) ih
theorem eqvInts : ∀ l m : List Int, (PyData.list (l.map PyData.int)).eqv (.list (m.map .int)) = decide (l = m)
  | [], [] => by simp [PyData.eqv, PyData.eqvAll]
  | [], b :: m => by simp [PyData.eqv, PyData.eqvAll]
  | a :: l, [] => by simp [PyData.eqv, PyData.eqvAll]
  | a :: l, b :: m => by
    have ih := eqvInts l m
    simp only [PyData.eqv] at ih
    simp only [List.map_cons, PyData.eqv, PyData.eqvAll, ih]
    by_cases h : a = b <;> simp [h]
theorem inInts (a : Int) (l : List Int) : inV (.int a) (l.map V.int) = decide (a ∈ l) := by
  unfold inV
  rw [List.any_map]
  induction l with
  | nil => rfl
  | cons b l ih =>
    rw [List.any_cons, ih]
    have e : (((fun y => eqV y (V.int a)) ∘ V.int) b) = decide (a = b) := by
      show (b == a) = _
      by_cases h : a = b
      · subst h; simp
      · rw [decide_eq_false h]; exact beq_eq_false_iff_ne.mpr (Ne.symm h)
    rw [e]
    by_cases h : a = b <;> simp [h]
/-- a statement by itself, with what is known behind it -/
theorem rd_cutR {t : L2.TS} {D : Ends} {σ : St} {H : Hp} (C : St → Hp → Prop) (rest : ∀ σ H, C σ H → D.nx σ H) (h : ∀ nx' : St → Hp → Prop, (∀ σ H, C σ H → nx' σ H) → t { D with nx := nx' } σ H) : t D σ H := h D.nx rest

end Cs
namespace Cs
open PySem L2
open PyProof.Rows (envOfC)
/-! lists of ints may be compared -/
theorem shaped_ints (ns : List Int) : SeqAt.shaped (.list (ns.map PyData.int)) = true := by
  have h : PyData.canLayAll0 (ns.map PyData.int) = true ∧ PyData.depthAll (ns.map PyData.int) = 0 := by
    induction ns with
    | nil => exact ⟨rfl, by simp [PyData.depthAll]⟩
    | cons a l ih =>
      refine ⟨by rw [List.map_cons, PyData.canLayAll0, ih.1]; rfl, ?_⟩
      rw [List.map_cons, PyData.depthAll, ih.2]
      simp [PyData.depth]
  unfold SeqAt.shaped
  rw [PyData.canLay0, PyData.depth, h.1, h.2]; rfl

end Cs
namespace Cs
open PySem L2
open PyProof.Rows (envOfC)
/-! a text with one change -/
theorem cut_len (z : Str) (lo hi : Option Int) : (cutS z lo hi).length ≤ z.length := by
  unfold cutS Str.length
  simp only [List.size_toArray, List.length_take, List.length_drop, Array.length_toList]
  omega
theorem app_len (x y : Str) : (x ++ y).length = x.length + y.length := by
  show (x.cps ++ y.cps).size = _
  rw [Array.size_append]; rfl
def sp_spoilt : Sp := fun vs H Q _ => ∃ (a : Addr) (al T : List Nat) (n : Nat), vs = [.ref a, .str (S al), .str (S T)] ∧ al.length ≤ 6 ∧ T.length ≤ 80000 ∧ Src a (n + 6) H ∧ ∀ (U : List Nat) (H' : Hp), U.length ≤ 3 * T.length + 10 → Src a n H' → Kp a H H' → Q (.str (S U)) H'
theorem use_spoilt {a : Addr} {al T : List Nat} {n : Nat} {H : Hp} {Q : VK} {E : XK} (hA : al.length ≤ 6) (hT : T.length ≤ 80000) (hS : Src a (n + 6) H) (k : ∀ (U : List Nat) (H' : Hp), U.length ≤ 3 * T.length + 10 → Src a n H' → Kp a H H' → Q (.str (S U)) H') : sp_spoilt [.ref a, .str (S al), .str (S T)] H Q E := ⟨a, al, T, n, rfl, hA, hT, hS, k⟩
theorem sign_at {z : Str} {i : Int} (h0 : 0 ≤ i) (h1 : i < (z.length : Int)) : ∃ c, atI z.cps.toList i = some c := by
  obtain ⟨j, rfl⟩ : ∃ j : Nat, i = (j : Int) := ⟨i.toNat, by omega⟩
  have hj : j < z.cps.toList.length := by
    rw [Array.length_toList]
    have : z.length = z.cps.size := rfl
    omega
  exact ⟨z.cps.toList[j], atI_nat (List.getElem?_eq_getElem hj)⟩
section
variable {P : Program} {w : World} {K : PySem.W.Frag} {mg : Str → Option Value} {base : Heap}
theorem ok_spoilt (B : Blt mg) (G__law_draw : Cal P w K mg base 1 "_law_draw" ["_law_source_here", "_law_many"] sp_draw) (F : At K mg "_law_spoilt" s__law_spoilt ["_law_source_here", "_law_alphabet_here", "_law_text"]) :
    Cal P w K mg base 2 "_law_spoilt" ["_law_source_here", "_law_alphabet_here", "_law_text"] sp_spoilt := by
  refine F.ok (k := 1) sc__law_spoilt (fun vs H Q E h => ?_) (fun f cdv A outer s H vs Q E hr h => ?_)
  · obtain ⟨a, al, T, n, rfl, _⟩ := h
    rfl
  · obtain ⟨a, al, T, n, rfl, hA, hT, hS, k⟩ := h
    have lT : (S T).length = T.length := S_len T
    have zT : (S T).length ≤ sizeLine := by rw [lT, PySem.sizeLine_eq]; omega
    have fin : ∀ (z : Str) (H' : Hp), z.length ≤ 3 * T.length + 10 → Src a n H' → Kp a H H' → Q (.str z) H' := fun z H' hz hS' hk => by
      rw [← S_cps z]
      exact k _ H' (by rw [Array.length_toList]; exact hz) hS' hk
    refine ⟨_, (pss_cons (ps_set (i := 3) sc__law_spoilt.nd rfl (Or.inl rfl) (pe_c G__law_draw (hr.mono (by first | decide | omega)) (pa_cons (pv 0) (pa_cons pe_int pa_nil))))
    (pss_cons (ps_set (i := 4) sc__law_spoilt.nd rfl (Or.inl rfl) (pe_c G__law_draw (hr.mono (by first | decide | omega)) (pa_cons (pv 0) (pa_cons (pe_op op_add (pe_callB call_len_str (by rfl) B.len PySem.boot_len (pa_cons (pv 2) pa_nil)) pe_int) pa_nil))))
    (pss_cons (ps_set (i := 5) sc__law_spoilt.nd rfl (Or.inl rfl) (pe_callB (call_min2 rfl) (by rfl) B.min (by decide +kernel) (pa_cons (pe_callB call_len_str (by rfl) B.len PySem.boot_len (pa_cons (pv 2) pa_nil)) (pa_cons (pe_op op_add (pe_op op_add (pv 4) pe_int) (pe_c G__law_draw (hr.mono (by first | decide | omega)) (pa_cons (pv 0) (pa_cons pe_int pa_nil)))) pa_nil))))
    (pss_cons (ps_set (i := 6) sc__law_spoilt.nd rfl (Or.inl rfl) (pe_op op_add_str (pe_op op_add_str pe_str (pv 1)) pe_str))
    (pss_cons (ps_set (i := 7) sc__law_spoilt.nd rfl (Or.inl rfl) (pe_ix ix_str (pv 6) (pe_c G__law_draw (hr.mono (by first | decide | omega)) (pa_cons (pv 0) (pa_cons (pe_callB call_len_str (by rfl) B.len PySem.boot_len (pa_cons (pv 6) pa_nil)) pa_nil))) (fun _ _ => rfl)))
    (pss_cons (ps_if (pt_cmpR op_eq (pv 3) pe_int (nomark _))
    (pss_one (ps_ret (pe_op op_add_str (pe_slice sl_str (pv 2) po_none (po_some (pv 4))) (pe_slice sl_str (pv 2) (po_some (pe_op op_add (pv 4) pe_int)) po_none))))
    pss_nil)
    (pss_cons (ps_if (pt_cmpR op_eq (pv 3) pe_int (nomark _))
    (pss_one (ps_ret (pe_op op_add_str (pe_op op_add_str (pe_slice sl_str (pv 2) po_none (po_some (pv 4))) (pe_slice sl_str (pv 2) (po_some (pv 4)) (po_some (pe_op op_add (pv 4) pe_int)))) (pe_slice sl_str (pv 2) (po_some (pv 4)) po_none))))
    pss_nil)
    (pss_cons (ps_if (pt_cmpR op_eq (pv 3) pe_int (nomark _))
    (pss_one (ps_ret (pe_op op_add_str (pe_slice sl_str (pv 2) po_none (po_some (pv 4))) (pe_slice sl_str (pv 2) (po_some (pv 5)) po_none))))
    pss_nil)
    (pss_cons (ps_if (pt_cmpR op_eq (pv 3) pe_int (nomark _))
    (pss_one (ps_ret (pe_op op_add_str (pe_op op_add_str (pe_slice sl_str (pv 2) po_none (po_some (pv 4))) (pe_slice sl_str (pv 2) (po_some (pv 4)) (po_some (pv 5)))) (pe_slice sl_str (pv 2) (po_some (pv 4)) po_none))))
    pss_nil)
    (pss_cons (ps_if (pt_cmpR op_eq (pv 3) pe_int (nomark _))
    (pss_cons (ps_set (i := 2) sc__law_spoilt.nd rfl (Or.inr rfl) (pe_op op_add_str (pv 2) pe_str))
    (pss_cons (ps_set (i := 8) sc__law_spoilt.nd rfl (Or.inl rfl) (pe_ifExp (pt_cmpR op_lt (pe_op op_add (pv 4) pe_int) (pe_callB call_len_str (by rfl) B.len PySem.boot_len (pa_cons (pv 2) pa_nil)) (nomark _)) (pe_op op_add_str (pe_ix ix_str (pv 2) (pe_op op_add (pv 4) pe_int) (fun _ _ => rfl)) (pe_ix ix_str (pv 2) (pv 4) (fun _ _ => rfl))) pe_str))
    (pss_one (ps_ret (pe_op op_add_str (pe_op op_add_str (pe_slice sl_str (pv 2) po_none (po_some (pv 4))) (pv 8)) (pe_slice sl_str (pv 2) (po_some (pe_op op_add (pv 4) pe_int)) po_none))))))
    pss_nil)
    (pss_cons (ps_if (pt_cmpR op_eq (pv 3) pe_int (nomark _))
    (pss_one (ps_ret (pe_op op_add_str (pe_op op_add_str (pe_slice sl_str (pv 2) po_none (po_some (pv 4))) (pv 7)) (pe_slice sl_str (pv 2) (po_some (pv 4)) po_none))))
    pss_nil)
    (pss_cons (ps_setLc (i := 9) (own := [("_law_k", 10)]) rfl sc__law_spoilt.nd rfl rfl (sw_true rfl rfl rfl (by decide +kernel)) (pi_range1 (by rfl) B.range (pa_cons (pe_callB call_len_str (by rfl) B.len PySem.boot_len (pa_cons (pv 2) pa_nil)) pa_nil)) (blkOk_by (N := ["_law_source_here", "_law_alphabet_here", "_law_text", "_law_way", "_law_at", "_law_to", "_law_signs", "_law_sign", "_law_pair", "_law_places", "_law_k"]) (sc := defScope s__law_spoilt) (by decide +kernel)) (fun _ _ _ _ _ => (pg_name (i := 10) sc__law_spoilt.nd rfl (Or.inl rfl))) (fun _ _ _ _ _ => (pts_one (pt_cmpR op_in_sign (pe_ix ix_str (pv 2) (pv 10) (fun _ _ => rfl)) pe_str rfl))) (fun _ _ _ _ _ => (pv 10)))
    (pss_cons (ps_if (PW.pt (pw_and (pt_cmpR op_eq (pv 3) pe_int (nomark _)) (pw_and1 (pt_cmpR (op_neDK (K := K) (by rfl) hr.units) (pv 9) (pe_lst pa_nil) (nomark _)))))
    (pss_cons (ps_set (i := 4) sc__law_spoilt.nd rfl (Or.inl rfl) (pe_ix (ix_listK (K := K) (by rfl)) (pv 9) (pe_c G__law_draw (hr.mono (by first | decide | omega)) (pa_cons (pv 0) (pa_cons (pe_callB (call_len_seqK (K := K) (by rfl)) (by rfl) B.len PySem.boot_len (pa_cons (pv 9) pa_nil)) pa_nil))) (fun _ _ => rfl)))
    (pss_one (ps_set (i := 7) sc__law_spoilt.nd rfl (Or.inl rfl) (pe_ix ix_str pe_str (pe_c G__law_draw (hr.mono (by first | decide | omega)) (pa_cons (pv 0) (pa_cons pe_int pa_nil))) (fun _ _ => rfl)))))
    pss_nil)
    (pss_one (ps_ret (pe_op op_add_str (pe_op op_add_str (pe_slice sl_str (pv 2) po_none (po_some (pv 4))) (pv 7)) (pe_slice sl_str (pv 2) (po_some (pe_op op_add (pv 4) pe_int)) po_none))))))))))))))))), ?_⟩
    walk_at "go"
    refine use_draw (n := n + 5) hS (by decide) (by decide) fun way H1 w0 w1 hS1 k1 => ?_
    walk_at "go"
    refine ⟨S T, rfl, zT, ?_⟩
    rw [lT]
    walk_at "go"
    refine use_draw (n := n + 4) hS1 (by omega) (by omega) fun at0 H2 a0 a1 hS2 k2 => ?_
    walk_at "go"
    refine ⟨S T, rfl, zT, ?_⟩
    rw [lT]
    walk_at "go"
    refine use_draw (n := n + 3) hS2 (by decide) (by decide) fun d3 H3 d30 d31 hS3 k3 => ?_
    walk_at "go"
    refine ⟨_, _, rfl, ?_⟩
    obtain ⟨to, hto⟩ : ∃ to : Int, to = (if at0 + 1 + d3 < (T.length : Int) then at0 + 1 + d3 else (T.length : Int)) := ⟨_, rfl⟩
    rw [← hto]
    walk_at "go"
    have l1 : (Str.ofString "[]() 01234*5-rowanylgit").length = 23 := by decide
    have l2 : (Str.ofString "#A~\n").length = 4 := by decide
    refine ⟨_, _, rfl, rfl, by rw [l1, S_len, PySem.sizeLine_eq]; omega, ?_⟩
    walk_at "go"
    refine ⟨_, _, rfl, rfl, by rw [app_len, l1, l2, S_len, PySem.sizeLine_eq]; omega, ?_⟩
    walk_at "go"
    obtain ⟨sg, hsg⟩ : ∃ sg : Str, sg = Str.ofString "[]() 01234*5-rowanylgit" ++ S al ++ Str.ofString "#A~\n" := ⟨_, rfl⟩
    have lsg : sg.length = 23 + al.length + 4 := by rw [hsg, app_len, app_len, l1, l2, S_len]
    rw [← hsg]
    refine ⟨sg, rfl, by rw [lsg, PySem.sizeLine_eq]; omega, ?_⟩
    walk_at "go"
    refine use_draw (n := n + 2) hS3 (by omega) (by omega) fun d4 H4 d40 d41 hS4 k4 => ?_
    obtain ⟨c, hc⟩ := sign_at d40 d41
    refine ⟨sg, d4, c, rfl, rfl, by rw [lsg, PySem.sizeLine_eq]; omega, hc, ?_⟩
    walk_at "go"
    have k14 : Kp a H H4 := k1.trans (k2.trans (k3.trans k4))
    have hS4' : Src a n H4 := hS4.mono (by omega)
    have cl : ∀ lo hi, (cutS (S T) lo hi).length ≤ T.length := fun lo hi => by have := cut_len (S T) lo hi; omega
    have lc1 : (⟨#[c]⟩ : Str).length = 1 := rfl
    refine ite2 (fun _ => ?_) (fun _ => ?_)
    · walk_at "go"
      have q0 := cl none (some at0)
      have q1 := cl (some (at0 + 1)) none
      refine rd_sls zT ?_
      walk_at "go"
      refine rd_sls zT ?_
      walk_at "go"
      refine ⟨_, _, rfl, rfl, by rw [PySem.sizeLine_eq]; omega, ?_⟩
      walk_at "go"
      exact fin _ _ (by rw [app_len]; omega) hS4' k14
    walk_at "go"
    refine ite2 (fun _ => ?_) (fun _ => ?_)
    · walk_at "go"
      have q0 := cl none (some at0)
      have q1 := cl (some at0) (some (at0 + 1))
      have q2 := cl (some at0) none
      refine rd_sls zT ?_
      walk_at "go"
      refine rd_sls zT ?_
      walk_at "go"
      refine ⟨_, _, rfl, rfl, by rw [PySem.sizeLine_eq]; omega, ?_⟩
      walk_at "go"
      refine rd_sls zT ?_
      walk_at "go"
      refine ⟨_, _, rfl, rfl, by rw [app_len]; rw [PySem.sizeLine_eq]; omega, ?_⟩
      walk_at "go"
      exact fin _ _ (by rw [app_len, app_len]; omega) hS4' k14
    walk_at "go"
    refine ite2 (fun _ => ?_) (fun _ => ?_)
    · walk_at "go"
      have q0 := cl none (some at0)
      have q1 := cl (some to) none
      refine rd_sls zT ?_
      walk_at "go"
      refine rd_sls zT ?_
      walk_at "go"
      refine ⟨_, _, rfl, rfl, by rw [PySem.sizeLine_eq]; omega, ?_⟩
      walk_at "go"
      exact fin _ _ (by rw [app_len]; omega) hS4' k14
    walk_at "go"
    refine ite2 (fun _ => ?_) (fun _ => ?_)
    · walk_at "go"
      have q0 := cl none (some at0)
      have q1 := cl (some at0) (some to)
      have q2 := cl (some at0) none
      refine rd_sls zT ?_
      walk_at "go"
      refine rd_sls zT ?_
      walk_at "go"
      refine ⟨_, _, rfl, rfl, by rw [PySem.sizeLine_eq]; omega, ?_⟩
      walk_at "go"
      refine rd_sls zT ?_
      walk_at "go"
      refine ⟨_, _, rfl, rfl, by rw [app_len]; rw [PySem.sizeLine_eq]; omega, ?_⟩
      walk_at "go"
      exact fin _ _ (by rw [app_len, app_len]; omega) hS4' k14
    walk_at "go"
    refine ite2 (fun _ => ?_) (fun _ => ?_)
    · walk_at "go"
      refine ⟨_, _, rfl, rfl, by rw [lT, PySem.sizeLine_eq]; show T.length + 1 ≤ _; omega, ?_⟩
      obtain ⟨U, hU⟩ : ∃ U : Str, U = S T ++ Str.ofString " " := ⟨_, rfl⟩
      have lU : U.length = T.length + 1 := by rw [hU, app_len, lT]; rfl
      have zU : U.length ≤ sizeLine := by rw [lU, PySem.sizeLine_eq]; omega
      rw [← hU]
      have cU : ∀ lo hi, (cutS U lo hi).length ≤ T.length + 1 := fun lo hi => by have := cut_len U lo hi; omega
      have q1 := cU none (some at0)
      have q2 := cU (some (at0 + 2)) none
      have last : ∀ pr : Str, pr.length ≤ 2 → tRet (tOp (fun x y H Q => ∃ i j, x = V.str i ∧ y = V.str j ∧ i.length + j.length ≤ sizeLine ∧ Q (V.str (i ++ j)) H) (tOp (fun x y H Q => ∃ i j, x = V.str i ∧ y = V.str j ∧ i.length + j.length ≤ sizeLine ∧ Q (V.str (i ++ j)) H) (tSl rSlS (tVar 2) tNoPart (tPart (tVar 4))) (tVar 8)) (tSl rSlS (tVar 2) (tPart (tOp (rI0 fun i j => V.int (i + j)) (tVar 4) (tC (V.int 2)))) tNoPart))
          { nx := fun _ H' => Q V.non H', rt := Q } [some (.ref a), some (.str (S al)), some (.str U), some (.int way), some (.int at0), some (.int to), some (.str sg), some (.str ⟨#[c]⟩), some (.str pr), none, none] H4 := by
        intro pr hpr
        walk_at "go"
        refine rd_sls zU ?_
        walk_at "go"
        refine ⟨_, _, rfl, rfl, by rw [PySem.sizeLine_eq]; omega, ?_⟩
        walk_at "go"
        refine rd_sls zU ?_
        walk_at "go"
        refine ⟨_, _, rfl, rfl, by rw [app_len, PySem.sizeLine_eq]; omega, ?_⟩
        walk_at "go"
        exact fin _ _ (by rw [app_len, app_len]; omega) hS4' k14
      walk_at "go"
      refine ⟨U, rfl, zU, ?_⟩
      rw [lU]
      walk_at "go"
      refine ite2 (fun z => ?_) (fun z => ?_)
      · have z : at0 + 1 < ((T.length + 1 : Nat) : Int) := of_decide_eq_true z
        obtain ⟨c5, hc5⟩ := sign_at (z := U) (i := at0 + 1) (by omega) (by rw [lU]; exact z)
        obtain ⟨c6, hc6⟩ := sign_at (z := U) (i := at0) (by omega) (by rw [lU]; omega)
        walk_at "go"
        refine ⟨U, _, c5, rfl, rfl, zU, hc5, ?_⟩
        walk_at "go"
        refine ⟨U, _, c6, rfl, rfl, zU, hc6, ?_⟩
        walk_at "go"
        refine ⟨_, _, rfl, rfl, by show 1 + 1 ≤ sizeLine; decide, ?_⟩
        with_reducible refine rd_gname ?_
        exact last _ (by rw [app_len]; exact Nat.le_refl _)
      · walk_at "go"
        have l0 : (Str.ofString "").length = 0 := by decide
        refine rd_sls zU ?_
        walk_at "go"
        refine ⟨_, _, rfl, rfl, by rw [l0, PySem.sizeLine_eq]; omega, ?_⟩
        walk_at "go"
        refine rd_sls zU ?_
        walk_at "go"
        refine ⟨_, _, rfl, rfl, by rw [app_len, l0, PySem.sizeLine_eq]; omega, ?_⟩
        walk_at "go"
        exact fin _ _ (by rw [app_len, app_len, l0]; omega) hS4' k14
    walk_at "go"
    refine ite2 (fun _ => ?_) (fun _ => ?_)
    · walk_at "go"
      have q0 := cl none (some at0)
      have q1 := cl (some at0) none
      refine rd_sls zT ?_
      walk_at "go"
      refine ⟨_, _, rfl, rfl, by rw [lc1, PySem.sizeLine_eq]; omega, ?_⟩
      walk_at "go"
      refine rd_sls zT ?_
      walk_at "go"
      refine ⟨_, _, rfl, rfl, by rw [app_len, lc1, PySem.sizeLine_eq]; omega, ?_⟩
      walk_at "go"
      exact fin _ _ (by rw [app_len, app_len, lc1]; omega) hS4' k14
    walk_at "go"
    refine ⟨S T, rfl, zT, ?_⟩
    rw [lT]
    walk_at "go"
    refine rd_rng1j (by omega) (by omega) ?_
    rw [Int.toNat_natCast]
    intro D hD
    have Da : D ≠ a := hS4.ne hD
    refine lc_range (lo := 0) (n := T.length) (fun i H' => ∃ ns : List Int, H' D = some (.lst (ns.map V.int)) ∧ ns.length ≤ i ∧ Same H4 H') ⟨[], upd_same, Nat.zero_le _, Same.lay hD⟩ ?_ ?_
    · rintro i H' hi ⟨ns, eD, ln, sm⟩
      obtain ⟨c5, hc5⟩ := sign_at (z := S T) (i := 0 + (i : Int)) (by omega) (by rw [lT]; omega)
      walk_at "go"
      refine ⟨rfl, ?_⟩
      walk_at "go"
      refine ⟨S T, _, c5, rfl, rfl, zT, hc5, ?_⟩
      walk_at "go"
      refine ⟨c5, _, rfl, rfl, ?_⟩
      walk_at "go"
      refine ite2 (fun _ => ?_) (fun _ => ?_)
      · walk_at "go"
        refine ⟨_, eD, by rw [List.length_map, PySem.sizeLine_eq]; omega, ns ++ [0 + (i : Int)], ?_, by rw [List.length_append]; show ns.length + 1 ≤ i + 1; omega, Same.lay2 sm hD⟩
        rw [upd_same, List.map_append]; rfl
      · exact ⟨ns, eD, by omega, sm⟩
    · rintro H5 ⟨ns, eD, ln, s5⟩
      have hS5 := hS4.same s5
      have k15 : Kp a H H5 := k14.trans (Kp.of s5)
      have hS5' : Src a n H5 := hS5.mono (by omega)
      walk_at "go"
      refine ite2 (fun _ => ?_) (fun _ => ?_)
      · walk_at "go"
        refine ⟨by show 0 ≤ sizeLine; decide, rd_newK hS5 fun L H6 La hL eL hS6 k6 => ?_⟩
        have eD6 := k6.at Da eD
        refine ⟨_, _, dpInts eD6, dpInts (ns := []) eL, shaped_ints _, shaped_ints [], ?_⟩
        rw [eqvInts]
        walk_at "go"
        refine ite2 (fun z => ?_) (fun z => ?_)
        · have z : ns ≠ [] := by
            intro q
            rw [q] at z; simp at z
          have l1' := List.length_pos_iff.mpr z
          walk_at "go"
          refine rd_len (.inl (SqL.of eD6)) ?_
          rw [List.length_map]
          walk_at "go"
          refine use_draw (n := n + 1) hS6 (by omega) (by omega) fun x H7 x0 x1 hS7 k7 => ?_
          obtain ⟨y, hy, hym⟩ := at_mem (xs := ns.map V.int) x0 (by rw [List.length_map]; exact x1)
          obtain ⟨z2, hz2, rfl⟩ := List.mem_map.mp hym
          refine rd_ixl (SqL.of (k7.at Da eD6)) hy ?_
          walk_at "go"
          refine use_draw (n := n) hS7 (by decide) (by decide) fun x2 H8 x20 x21 hS8 k8 => ?_
          obtain ⟨c7, hc7⟩ := sign_at (z := Str.ofString "01234*5") x20 (by show x2 < 7; exact x21)
          refine ⟨_, _, c7, rfl, rfl, by show 7 ≤ sizeLine; decide, hc7, ?_⟩
          walk_at "go"
          have q1 := cl none (some z2)
          have q2 := cl (some (z2 + 1)) none
          have lch : (⟨#[c7]⟩ : Str).length = 1 := rfl
          refine rd_sls zT ?_
          walk_at "go"
          refine ⟨_, _, rfl, rfl, by rw [lch, PySem.sizeLine_eq]; omega, ?_⟩
          walk_at "go"
          refine rd_sls zT ?_
          walk_at "go"
          refine ⟨_, _, rfl, rfl, by rw [app_len, lch, PySem.sizeLine_eq]; omega, ?_⟩
          walk_at "go"
          exact fin _ _ (by rw [app_len, app_len, lch]; omega) hS8 (k15.trans (k6.trans (k7.trans k8)))
        · walk_at "go"
          have q1 := cl none (some at0)
          have q2 := cl (some (at0 + 1)) none
          have lch : (⟨#[c]⟩ : Str).length = 1 := rfl
          refine rd_sls zT ?_
          walk_at "go"
          refine ⟨_, _, rfl, rfl, by rw [lch, PySem.sizeLine_eq]; omega, ?_⟩
          walk_at "go"
          refine rd_sls zT ?_
          walk_at "go"
          refine ⟨_, _, rfl, rfl, by rw [app_len, lch, PySem.sizeLine_eq]; omega, ?_⟩
          walk_at "go"
          exact fin _ _ (by rw [app_len, app_len, lch]; omega) (hS6.mono (by omega)) (k15.trans k6)
      · walk_at "go"
        have q1 := cl none (some at0)
        have q2 := cl (some (at0 + 1)) none
        have lch : (⟨#[c]⟩ : Str).length = 1 := rfl
        refine rd_sls zT ?_
        walk_at "go"
        refine ⟨_, _, rfl, rfl, by rw [lch, PySem.sizeLine_eq]; omega, ?_⟩
        walk_at "go"
        refine rd_sls zT ?_
        walk_at "go"
        refine ⟨_, _, rfl, rfl, by rw [app_len, lch, PySem.sizeLine_eq]; omega, ?_⟩
        walk_at "go"
        exact fin _ _ (by rw [app_len, app_len, lch]; omega) hS5' k15
end

end Cs
namespace Cs
open PySem L2
open PyProof.Rows (envOfC)
/-! the law's own notation -/
section
variable {P : Program} {w : World} {K : PySem.W.Frag} {mg : Str → Option Value} {base : Heap}
theorem ok_written (B : Blt mg) (F : At K mg "_law_written" s__law_written ["_law_expression"]) : ∀ n : Nat, Cal P w K mg base (n + 2) "_law_written" ["_law_expression"] (sp_fmt n) := by
  intro n
  induction n with
  | zero =>
    refine F.ok (k := 1) sc__law_written (fun vs H Q E h => ?_) (fun f cdv A outer s H vs Q E hr h => ?_)
    · obtain ⟨al, v, d, rfl, _⟩ := h
      rfl
    · obtain ⟨al, v, d, rfl, _, hF, hD, _⟩ := h
      obtain ⟨w', ps, rfl, _⟩ := mF_form hF
      rw [mD_eq] at hD
      omega
  | succ n G__law_written =>
    refine F.ok (k := n + 2) sc__law_written (fun vs H Q E h => ?_) (fun f cdv A outer s H vs Q E hr h => ?_)
    · obtain ⟨al, v, d, rfl, _⟩ := h
      rfl
    · obtain ⟨al, v, d, rfl, hd, hF, hD, hT, k⟩ := h
      have hlen := fmt_le hF hT
      obtain ⟨w', ps, rfl, hW, hP⟩ := mF_form hF
      obtain ⟨_, _, e0, hw, h1, h2, h3⟩ := mWF_form hW
      injection e0 with e0
      injection e0 with e1 e2
      injection e1 with e1
      subst e1 e2
      obtain ⟨p, xs0, rfl, ep, hx⟩ := Tp.tupI hd
      cases hx with
      | @cons v0 xs _ _ h0 hx =>
      cases h0
      rw [fmt_eq] at k hlen
      refine ⟨_, (pss_cons (ps_par (i := 1) (j := 2) (by rfl) sc__law_written.nd rfl rfl (by decide) rfl rfl (pa_cons (pe_ix (ix_tupK (K := K) (by rfl)) (pv 0) pe_int (fun _ _ => rfl)) (pa_cons (pe_slice (sl_tupAK (K := K) (by rfl)) (pv 0) (po_some pe_int) po_none) pa_nil)) (by rfl))
    (pss_cons (ps_if (pt_cmpR op_eq (pv 1) pe_str (nomark _))
    (pss_one (ps_ret (pe_op op_add_str (pe_op op_add_str pe_str (pe_ix (ix_tupK (K := K) (by rfl)) (pv 2) pe_int (fun _ _ => rfl))) pe_str)))
    pss_nil)
    (pss_cons (ps_if (pt_cmpR op_eq (pv 1) pe_str (nomark _))
    (pss_cons (ps_set (i := 3) sc__law_written.nd rfl (Or.inl rfl) (pe_ifExp (pt_cmpR op_isN (pe_ix (ix_tupK (K := K) (by rfl)) (pv 2) pe_int (fun _ _ => rfl)) pe_non (nomark _)) pe_str (pe_callTy call_str_int (by rfl) B.str (by decide +kernel) (pa_cons (pe_ix (ix_tupK (K := K) (by rfl)) (pv 2) pe_int (fun _ _ => rfl)) pa_nil))))
    (pss_one (ps_ret (pe_op op_add_str (pe_op op_add_str (pe_op op_add_str (pe_op op_add_str (pe_op op_add_str (pe_op op_add_str pe_str (pe_c G__law_written (hr.mono (by first | decide | omega)) (pa_cons (pe_ix (ix_tupK (K := K) (by rfl)) (pv 2) pe_int (fun _ _ => rfl)) pa_nil))) pe_str) (pe_callTy call_str_int (by rfl) B.str (by decide +kernel) (pa_cons (pe_ix (ix_tupK (K := K) (by rfl)) (pv 2) pe_int (fun _ _ => rfl)) pa_nil))) pe_str) (pv 3)) pe_str))))
    pss_nil)
    (pss_one (ps_ret (pe_op op_add_str (pe_op op_add_str pe_str (pe_joinK (K := K) (by rfl) pe_str (pe_op op_cat (pe_lst (pa_cons (pv 1) pa_nil)) (pe_lc (own := [("_law_part", 4)]) rfl sc__law_written.nd (pi_tupK (K := K) (by rfl) (pv 2)) (blkOk_by (N := ["_law_expression", "_law_word", "_law_parts", "_law_high", "_law_part"]) (sc := defScope s__law_written) (by decide +kernel)) (fun _ _ _ _ _ => (pg_name (i := 4) sc__law_written.nd rfl (Or.inl rfl))) (fun _ _ _ _ _ => pts_nil) (fun _ _ _ _ _ => (pe_c G__law_written (hr.mono (by first | decide | omega)) (pa_cons (pv 4) pa_nil))))))) pe_str)))))), ?_⟩
      walk_at "go"
      refine rd_ixt (SqT.of ep) (at_of (j := 0) rfl rfl) ?_
      walk_at "go"
      refine rd_sla (SqT.of ep) (fun z => ?_) (fun _ => ?_)
      · exfalso
        have z1 := z.1
        have e : HT.sIx (V.str w' :: xs).length 0 (some 1) = 1 := by
          show HT.sIx (V.str w' :: xs).length 0 (some ((1 : Nat) : Int)) = 1
          rw [HT.sIx_nat, List.length_cons]; omega
        omega
      rw [cut1]
      refine rd_new fun G H1 hG eG s1 => ?_
      walk_at "go"
      rw [dec_S]
      refine ite2 (fun z1 => ?_) (fun z1 => ?_)
      · have z1 : w' = kS "set" := of_decide_eq_true z1
        subst z1
        obtain ⟨cs, rfl, hc⟩ := mOne_form (h1 rfl)
        unfold fmtF at k hlen
        rw [if_pos rfl] at k hlen
        cases hx with
        | @cons v1 _ _ _ a1 hx1 =>
        cases a1
        have e1 : setC [PyData.str (S cs)] = cs := rfl
        rw [e1] at k hlen
        walk_at "go"
        refine rd_ixt (SqT.of eG) (at_of (j := 0) rfl rfl) ?_
        walk_at "go"
        rw [brk_S]
        have lc : (91 :: (cs ++ [93])).length = cs.length + 2 := by simp
        rw [lc] at hlen
        refine ⟨_, _, rfl, rfl, by rw [S_len, S_len, PySem.sizeLine_eq]; show 1 + cs.length ≤ _; omega, ?_⟩
        rw [S_app]
        walk_at "go"
        rw [bc_S]
        refine ⟨_, _, rfl, rfl, by rw [S_len, S_len, PySem.sizeLine_eq, List.length_append]; show 1 + cs.length + 1 ≤ _; omega, ?_⟩
        rw [S_app]
        have e2 : [91] ++ cs ++ [93] = 91 :: (cs ++ [93]) := by simp
        rw [e2]
        exact k H1 s1
      · have z1 : ¬ w' = kS "set" := fun q => z1 (decide_eq_true q)
        unfold fmtF at k hlen
        rw [if_neg z1] at k hlen
        walk_at "go"
        rw [dec_S]
        refine ite2 (fun z2 => ?_) (fun z2 => ?_)
        · have z2 : w' = kS "again" := of_decide_eq_true z2
          subst z2
          rw [if_pos rfl] at k hlen
          obtain ⟨pp, l, hi, rfl, l0, l4, hh⟩ := mThree_form (h3 rfl)
          have er : rel (kS "again") [pp, .int l, hi] = [pp] := by unfold rel; rw [if_neg z1, if_pos rfl]; rfl
          rw [er] at k hlen hP
          cases hx with
          | @cons v1 _ _ _ a1 hx =>
          cases hx with
          | @cons v2 _ _ _ a2 hx =>
          cases hx with
          | @cons v3 _ _ _ a3 hx =>
          cases hx
          cases a2
          have hm : pp ∈ rel (kS "again") [pp, .int l, hi] := by rw [er]; simp
          have hlp : (fmt pp).length ≤ 79999 := by
            rw [List.length_append, List.length_append] at hlen
            simp at hlen; omega
          walk_at "go"
          refine rd_ixt (SqT.of eG) (at_of (j := 2) rfl rfl) ?_
          walk_at "go"
          rcases hh with rfl | ⟨m, rfl, m0, m4⟩
          · cases a3
            refine ⟨rfl, ?_⟩
            walk_at "go"
            refine iteT ?_
            walk_at "go"
            rw [st_S]
            walk_at "go"
            refine rd_ixt (SqT.of eG) (at_of (j := 0) rfl rfl) ?_
            walk_at "go"
            refine use_fmt (a1.ts (TS.same s1)) (hP pp (by simp)) (by have := mD_part hm; omega) (mT_rel (al := al) hm hT) fun H2 s2 => ?_
            walk_at "go"
            rw [ags_S]
            refine ⟨_, _, rfl, rfl, ?_, ?_⟩
            · rw [S_len, S_len, PySem.sizeLine_eq]
              simp; omega
            rw [S_app]
            walk_at "go"
            rw [spc_S]
            refine ⟨_, _, rfl, rfl, ?_, ?_⟩
            · rw [S_len, S_len, PySem.sizeLine_eq]
              simp; omega
            rw [S_app]
            walk_at "go"
            refine rd_ixt (SqT.of (s2 _ _ eG)) (at_of (j := 1) rfl rfl) ?_
            walk_at "go"
            refine ⟨_, rfl, log_num l0 l4, ?_⟩
            rw [str_num l0 l4]
            walk_at "go"
            refine ⟨_, _, rfl, rfl, ?_, ?_⟩
            · rw [S_len, S_len, PySem.sizeLine_eq]
              simp; omega
            rw [S_app]
            walk_at "go"
            refine ⟨_, _, rfl, rfl, ?_, ?_⟩
            · rw [S_len, S_len, PySem.sizeLine_eq]
              simp; omega
            rw [S_app]
            walk_at "go"
            refine ⟨_, _, rfl, rfl, ?_, ?_⟩
            · rw [S_len, S_len, PySem.sizeLine_eq]
              simp; omega
            rw [S_app]
            walk_at "go"
            rw [par_S]
            refine ⟨_, _, rfl, rfl, ?_, ?_⟩
            · rw [S_len, S_len, PySem.sizeLine_eq]
              simp; omega
            rw [S_app]
            have e5 : [40, 97, 103, 97, 105, 110, 32] ++ fmt pp ++ [32] ++ [48 + l.toNat] ++ [32] ++ [42] ++ [41] = [40, 97, 103, 97, 105, 110, 32] ++ (([pp].map fmt).flatten ++ agC [pp, .int l, .none]) := by simp [agC, numC, hiC]
            rw [e5]
            exact k H2 (L2.Same.trans s1 s2)
          · cases a3
            refine ⟨rfl, ?_⟩
            walk_at "go"
            refine iteF ?_
            walk_at "go"
            refine rd_ixt (SqT.of eG) (at_of (j := 2) rfl rfl) ?_
            walk_at "go"
            refine ⟨_, rfl, log_num (by omega) m4, ?_⟩
            rw [str_num (by omega) m4]
            walk_at "go"
            refine rd_ixt (SqT.of eG) (at_of (j := 0) rfl rfl) ?_
            walk_at "go"
            refine use_fmt (a1.ts (TS.same s1)) (hP pp (by simp)) (by have := mD_part hm; omega) (mT_rel (al := al) hm hT) fun H2 s2 => ?_
            walk_at "go"
            rw [ags_S]
            refine ⟨_, _, rfl, rfl, ?_, ?_⟩
            · rw [S_len, S_len, PySem.sizeLine_eq]
              simp; omega
            rw [S_app]
            walk_at "go"
            rw [spc_S]
            refine ⟨_, _, rfl, rfl, ?_, ?_⟩
            · rw [S_len, S_len, PySem.sizeLine_eq]
              simp; omega
            rw [S_app]
            walk_at "go"
            refine rd_ixt (SqT.of (s2 _ _ eG)) (at_of (j := 1) rfl rfl) ?_
            walk_at "go"
            refine ⟨_, rfl, log_num l0 l4, ?_⟩
            rw [str_num l0 l4]
            walk_at "go"
            refine ⟨_, _, rfl, rfl, ?_, ?_⟩
            · rw [S_len, S_len, PySem.sizeLine_eq]
              simp; omega
            rw [S_app]
            walk_at "go"
            refine ⟨_, _, rfl, rfl, ?_, ?_⟩
            · rw [S_len, S_len, PySem.sizeLine_eq]
              simp; omega
            rw [S_app]
            walk_at "go"
            refine ⟨_, _, rfl, rfl, ?_, ?_⟩
            · rw [S_len, S_len, PySem.sizeLine_eq]
              simp; omega
            rw [S_app]
            walk_at "go"
            rw [par_S]
            refine ⟨_, _, rfl, rfl, ?_, ?_⟩
            · rw [S_len, S_len, PySem.sizeLine_eq]
              simp; omega
            rw [S_app]
            have e5 : [40, 97, 103, 97, 105, 110, 32] ++ fmt pp ++ [32] ++ [48 + l.toNat] ++ [32] ++ [48 + m.toNat] ++ [41] = [40, 97, 103, 97, 105, 110, 32] ++ (([pp].map fmt).flatten ++ agC [pp, .int l, .int m]) := by simp [agC, numC, hiC]
            rw [e5]
            exact k H2 (L2.Same.trans s1 s2)
        · have z2 : ¬ w' = kS "again" := fun q => z2 (decide_eq_true q)
          rw [if_neg z2] at k hlen
          have er : rel w' ps = ps := by unfold rel; rw [if_neg z1, if_neg z2]
          rw [er] at k hlen hP
          have lall : (40 :: (w'.cps.toList ++ (partsC (ps.map fmt) ++ [41]))).length = w'.cps.toList.length + (partsC (ps.map fmt)).length + 2 := by simp; omega
          rw [lall] at hlen
          have hpg := parts_ge (ps.map fmt)
          have lps : ps.length ≤ 80000 := by
            rw [List.length_map] at hpg; omega
          have ewS : V.str w' = V.str (S w'.cps.toList) := by rw [S_cps]
          walk_at "go"
          refine ⟨by show 1 ≤ sizeLine; decide, rd_new fun L H2 hL eL s2 => ?_⟩
          rw [ewS] at eL
          walk_at "go"
          have lx : xs.length = ps.length := hx.length
          refine ⟨G, rfl, ⟨_, SqT.of (s2 _ _ eG)⟩, ?_⟩
          intro D hD
          have hx2 := hx.ts (TS.same (L2.Same.trans s1 s2))
          refine lc_tup (xs := xs) (fun i H' => H' D = some (.lst (sV ((ps.take i).map fmt))) ∧ Same H2 H') ⟨upd_same, Same.lay hD⟩ (fun i H' _ h => Same.seqT h.2 (SqT.of (s2 _ _ eG))) ?_ ?_
          · rintro i y H' hi ⟨eD, sm⟩
            obtain ⟨dp, hdp, hy⟩ := hx2.get hi
            have hm0 : dp ∈ ps := List.mem_of_getElem? hdp
            have hm : dp ∈ rel w' ps := by rw [er]; exact hm0
            walk_at "go"
            refine ⟨rfl, ?_⟩
            walk_at "go"
            refine use_fmt (hy.ts (TS.same sm)) (hP dp hm0) (by have := mD_part hm; omega) (mT_rel (al := al) hm hT) fun H3 s3 => ?_
            refine ⟨_, s3 _ _ eD, by rw [List.length_map, List.length_map, List.length_take, PySem.sizeLine_eq]; omega, ?_, Same.lay2 (L2.Same.trans sm s3) hD⟩
            rw [upd_same, map_snoc _ hdp, sV, sV, List.map_append]; rfl
          · rintro H3 ⟨eD, s3⟩
            rw [lx, List.take_length] at eD
            walk_at "go"
            refine rd_catL (s3 _ _ eL) eD (by rw [List.length_map, List.length_map, PySem.sizeLine_eq]; show 1 + ps.length ≤ _; omega) (rd_new fun LL H4 hL2 eL2 s4 => ?_)
            walk_at "go"
            refine ⟨_, LL, (w'.cps.toList :: ps.map fmt).map S, rfl, rfl, .inl (SqL.of (by rw [eL2]; simp)), ?_, ?_⟩
            · rw [sum_lenS]
              have e1 : (Str.ofString " ").length = 1 := by decide
              rw [e1]
              simp only [List.map_cons, List.sum_cons, List.length_cons, List.length_append, List.length_map, List.length_nil] at hpg ⊢
              omega
            walk_at "go"
            rw [spc_S, join_sp, po_S]
            refine ⟨_, _, rfl, rfl, by rw [S_len, S_len, PySem.sizeLine_eq, List.length_append]; show 1 + (w'.cps.toList.length + _) ≤ _; omega, ?_⟩
            rw [S_app]
            walk_at "go"
            rw [par_S]
            refine ⟨_, _, rfl, rfl, by rw [S_len, S_len, PySem.sizeLine_eq, List.length_append, List.length_append]; show 1 + (w'.cps.toList.length + _) + 1 ≤ _; omega, ?_⟩
            rw [S_app]
            have e5 : [40] ++ (w'.cps.toList ++ partsC (ps.map fmt)) ++ [41] = 40 :: (w'.cps.toList ++ (partsC (ps.map fmt) ++ [41])) := by simp
            rw [e5]
            exact k H4 (L2.Same.trans s1 (L2.Same.trans s2 (L2.Same.trans s3 s4)))
end

end Cs
namespace Cs
open PySem L2
open PyProof.Rows (envOfC)
/-! what is bounded has few parts -/
theorem Bd.parts {n : Nat} {w : Str} {ps : List PyData} (h : Bd (n + 1) (.tuple (.str w :: ps))) : (rel w ps).length ≤ 60 ∧ ∀ p ∈ rel w ps, Bd n p := by
  obtain ⟨hl, ha⟩ : (PyData.str w :: ps).length ≤ 60 ∧ ∀ e ∈ PyData.str w :: ps, Bd n e := h
  rw [List.length_cons] at hl
  have sub : (rel w ps).Sublist ps := by
    unfold rel
    split
    · exact List.nil_sublist _
    · split
      · exact List.take_sublist _ _
      · exact List.Sublist.refl _
  exact ⟨by have := sub.length_le; omega, fun p hp => ha p (List.mem_cons_of_mem _ (sub.subset hp))⟩
theorem Bd.mD : ∀ {n : Nat} {d : PyData}, Bd n d → Cs.mD d ≤ n + 1 := by
  intro n
  induction n with
  | zero =>
    intro d h
    by_cases hx : ∃ w ps, d = .tuple (.str w :: ps)
    · obtain ⟨w, ps, rfl⟩ := hx
      exact h.elim
    · exact Nat.le_of_eq (foldD_no _ _ d fun w ps e => hx ⟨w, ps, e⟩)
  | succ n ih =>
    intro d h
    by_cases hx : ∃ w ps, d = .tuple (.str w :: ps)
    · obtain ⟨w, ps, rfl⟩ := hx
      rw [mD_eq]
      have : ((rel w ps).map Cs.mD).foldr max 0 ≤ n + 1 := foldr_max_le fun x hx => by
        obtain ⟨p, hp, rfl⟩ := List.mem_map.mp hx
        exact ih ((Bd.parts h).2 p hp)
      omega
    · exact Nat.le_trans (Nat.le_of_eq (foldD_no _ _ d fun w ps e => hx ⟨w, ps, e⟩)) (by omega)
theorem Bd.mN : ∀ {n : Nat} {d : PyData}, Bd n d → Cs.mN d ≤ 60 := by
  intro n
  induction n with
  | zero =>
    intro d h
    by_cases hx : ∃ w ps, d = .tuple (.str w :: ps)
    · obtain ⟨w, ps, rfl⟩ := hx
      exact h.elim
    · exact Nat.le_trans (Nat.le_of_eq (foldD_no _ _ d fun w ps e => hx ⟨w, ps, e⟩)) (by decide)
  | succ n ih =>
    intro d h
    by_cases hx : ∃ w ps, d = .tuple (.str w :: ps)
    · obtain ⟨w, ps, rfl⟩ := hx
      rw [mN_eq]
      have hl : (PyData.str w :: ps).length ≤ 60 := h.1
      rw [List.length_cons] at hl
      refine Nat.max_le.mpr ⟨by omega, foldr_max_le fun x hx => ?_⟩
      obtain ⟨p, hp, rfl⟩ := List.mem_map.mp hx
      exact ih ((Bd.parts h).2 p hp)
    · exact Nat.le_trans (Nat.le_of_eq (foldD_no _ _ d fun w ps e => hx ⟨w, ps, e⟩)) (by decide)

end Cs
namespace Cs
open PySem L2
open PyProof.Rows (envOfC)
/-! data of texts, ints, None and tuples alone: equal as Python has it is equal -/
def Nb : Nat → PyData → Prop
  | 0, d => match d with
    | .none => True
    | .int _ => True
    | .str x => PyData.strOk x = true
    | _ => False
  | n + 1, d => match d with
    | .none => True
    | .int _ => True
    | .str x => PyData.strOk x = true
    | .tuple ds => ∀ e ∈ ds, Nb n e
    | _ => False
theorem Nb.mono : ∀ {n m : Nat} {d : PyData}, n ≤ m → Nb n d → Nb m d := by
  intro n
  induction n with
  | zero =>
    intro m d _ h
    cases d with
    | tuple _ => exact h.elim
    | _ => cases m <;> exact h
  | succ n ih =>
    intro m d hm h
    obtain ⟨k, rfl⟩ : ∃ k, m = k + 1 := ⟨m - 1, by omega⟩
    cases d with
    | tuple ds => exact fun e he => ih (by omega) (h e he)
    | _ => exact h
theorem Nb.tup {n : Nat} {ds : List PyData} (h : Nb n (.tuple ds)) : ∃ m, n = m + 1 ∧ ∀ e ∈ ds, Nb m e := by
  cases n with
  | zero => exact h.elim
  | succ m => exact ⟨m, rfl, h⟩
theorem eqvAll_iff {n m : Nat} (ih : ∀ {d e : PyData}, Nb n d → Nb m e → (d.eqv e = true ↔ d = e)) : ∀ {xs ys : List PyData}, (∀ d ∈ xs, Nb n d) → (∀ e ∈ ys, Nb m e) → (PyData.eqvAll xs ys = true ↔ xs = ys)
  | [], [], _, _ => by simp [PyData.eqvAll]
  | [], _ :: _, _, _ => by simp [PyData.eqvAll]
  | _ :: _, [], _, _ => by simp [PyData.eqvAll]
  | x :: xs, y :: ys, hx, hy => by
    rw [PyData.eqvAll, Bool.and_eq_true, ih (hx x (by simp)) (hy y (by simp)), eqvAll_iff ih (fun d hd => hx d (by simp [hd])) (fun e he => hy e (by simp [he]))]
    simp
theorem eqv_iff : ∀ {n m : Nat} {d e : PyData}, Nb n d → Nb m e → (d.eqv e = true ↔ d = e) := by
  intro n
  induction n with
  | zero =>
    intro m d e hd he
    cases d with
    | none => cases m <;> cases e <;> first | exact he.elim | simp [PyData.eqv]
    | int _ => cases m <;> cases e <;> first | exact he.elim | simp [PyData.eqv]
    | str _ => cases m <;> cases e <;> first | exact he.elim | simp [PyData.eqv]
    | _ => exact hd.elim
  | succ n ih =>
    intro m d e hd he
    cases d with
    | none => cases m <;> cases e <;> first | exact he.elim | simp [PyData.eqv]
    | int _ => cases m <;> cases e <;> first | exact he.elim | simp [PyData.eqv]
    | str _ => cases m <;> cases e <;> first | exact he.elim | simp [PyData.eqv]
    | tuple xs =>
      cases e with
      | tuple ys =>
        obtain ⟨m', rfl, hy⟩ := Nb.tup he
        rw [PyData.eqv, eqvAll_iff (fun a b => ih a b) hd hy]
        simp
      | _ => cases m <;> first | exact he.elim | simp [PyData.eqv]
    | _ => exact hd.elim
theorem Nb.can : ∀ {n : Nat} {d : PyData}, Nb n d → d.canLay0 = true ∧ d.depth ≤ n := by
  intro n
  induction n with
  | zero =>
    intro d h
    cases d with
    | none => exact ⟨rfl, by simp [PyData.depth]⟩
    | int _ => exact ⟨rfl, by simp [PyData.depth]⟩
    | str _ => exact ⟨h, by simp [PyData.depth]⟩
    | _ => exact h.elim
  | succ n ih =>
    intro d h
    cases d with
    | none => exact ⟨rfl, by simp [PyData.depth]⟩
    | int _ => exact ⟨rfl, by simp [PyData.depth]⟩
    | str _ => exact ⟨h, by simp [PyData.depth]⟩
    | tuple ds =>
      have key : ∀ l : List PyData, (∀ e ∈ l, Nb n e) → PyData.canLayAll0 l = true ∧ PyData.depthAll l ≤ n := by
        intro l
        induction l with
        | nil => exact fun _ => ⟨rfl, by simp [PyData.depthAll]⟩
        | cons d l il =>
          intro hl
          obtain ⟨a, b⟩ := ih (hl d (by simp))
          obtain ⟨a', b'⟩ := il fun e he => hl e (by simp [he])
          refine ⟨by rw [PyData.canLayAll0, a, a']; rfl, ?_⟩
          rw [PyData.depthAll]
          exact Nat.max_le.mpr ⟨b, b'⟩
      obtain ⟨a, b⟩ := key ds h
      refine ⟨by rw [PyData.canLay0]; exact a, by rw [PyData.depth]; omega⟩
    | _ => exact h.elim
theorem Nb.shaped {n : Nat} {d : PyData} (h : Nb n d) (hn : n ≤ 64) : SeqAt.shaped d = true := by
  obtain ⟨a, b⟩ := h.can
  unfold SeqAt.shaped
  rw [a]
  simp; omega
theorem mF_nb {al : List Nat} (hA : Alp al) : ∀ d, mF al d = true → Nb (mD d) d := by
  refine by_parts (fun w ps ih => ?_) (fun d h => ?_)
  · intro hF
    rw [mF_eq, Bool.and_eq_true, List.all_map, List.all_eq_true] at hF
    obtain ⟨hW, hP⟩ := hF
    obtain ⟨_, _, e0, hw, h1, h2, h3⟩ := mWF_form hW
    injection e0 with e0
    injection e0 with e1 e2
    injection e1 with e1
    subst e1 e2
    have okw : PyData.strOk w = true := by rcases hw with rfl | rfl | rfl | rfl | rfl | rfl <;> decide +kernel
    have hD : ∃ m, mD (.tuple (.str w :: ps)) = m + 1 ∧ ∀ p ∈ rel w ps, Nb m p := by
      rw [mD_eq]
      refine ⟨((rel w ps).map mD).foldr max 0, by omega, fun p hp => ?_⟩
      exact (ih p hp (hP p hp)).mono (le_foldr_max (List.mem_map_of_mem (f := mD) hp))
    obtain ⟨m, em, hm⟩ := hD
    rw [em]
    have okS : ∀ {x : Str}, PyData.strOk x = true → Nb m (.str x) := fun h => by cases m <;> exact h
    have okI : ∀ (i : Int), Nb m (.int i) := fun _ => by cases m <;> trivial
    have okN : Nb m .none := by cases m <;> trivial
    intro e he
    rcases List.mem_cons.mp he with rfl | he
    · exact okS okw
    by_cases z1 : w = kS "set"
    · obtain ⟨cs, rfl, hc⟩ := mOne_form (h1 z1)
      rw [List.mem_singleton.mp he]
      refine okS ?_
      unfold PyData.strOk
      rw [Array.all_eq_true]
      intro i hi
      have hi' : i < cs.length := by simpa [S] using hi
      have hmem : cs[i] ∈ al := hc.subset (List.getElem_mem hi')
      have hb : ∀ c ∈ [97, 98, 99, 100, 101, 102, 103, 104, 105, 106, 107, 108, 109, 110, 111, 112, 113, 114, 115, 116, 117, 118, 119, 120, 121, 122, 48, 49, 50, 51, 52, 53, 54, 55, 56, 57, 32, 45, 46, 95], c < 1114112 := by decide
      have := hb _ (hA.asc _ hmem)
      simpa [S] using this
    by_cases z2 : w = kS "again"
    · obtain ⟨pp, l, hi, rfl, l0, l4, hh⟩ := mThree_form (h3 z2)
      have er : rel w [pp, .int l, hi] = [pp] := by unfold rel; rw [if_neg z1, if_pos z2]; rfl
      simp only [List.mem_cons, List.not_mem_nil, or_false] at he
      rcases he with rfl | rfl | rfl
      · exact hm _ (by rw [er]; simp)
      · exact okI _
      · rcases hh with rfl | ⟨k, rfl, _, _⟩
        · exact okN
        · exact okI _
    · have er : rel w ps = ps := by unfold rel; rw [if_neg z1, if_neg z2]
      exact hm e (by rw [er]; exact he)
  · intro hF
    have e : mF al d = false := foldD_no _ _ d h
    rw [e] at hF; cases hF

end Cs
namespace Cs
open PySem L2
open PyProof.Rows (envOfC)
def sp_plain : Sp := fun vs H Q _ => ∃ (a : Addr) (al : List Nat) (room : Int) (n : Nat), vs = [.ref a, .str (S al), .int room] ∧ Alp al ∧ 1 ≤ room ∧ room ≤ 10 ∧ Src a (n + 200) H ∧
  ∀ (v : V) (d : PyData) (H' : Hp), PlD al room d → Tp H' v d → Src a n H' → Kp a H H' → Q v H'
theorem use_plain {a : Addr} {al : List Nat} {room : Int} {n : Nat} {H : Hp} {Q : VK} {E : XK} (hA : Alp al) (r1 : 1 ≤ room) (r10 : room ≤ 10) (hS : Src a (n + 200) H)
    (k : ∀ (v : V) (d : PyData) (H' : Hp), PlD al room d → Tp H' v d → Src a n H' → Kp a H H' → Q v H') : sp_plain [.ref a, .str (S al), .int room] H Q E := ⟨a, al, room, n, rfl, hA, r1, r10, hS, k⟩
section
variable {P : Program} {w : World} {K : PySem.W.Frag} {mg : Str → Option Value} {base : Heap}
theorem ok_plain (B : Blt mg) (G__law_draw : Cal P w K mg base 1 "_law_draw" ["_law_source_here", "_law_many"] sp_draw) (G__law_set : Cal P w K mg base 2 "_law_set" ["_law_source_here", "_law_alphabet_here"] sp_set)
    (G__law_row : Cal P w K mg base 3 "_law_row" ["_law_source_here", "_law_alphabet_here", "_law_many"] sp_row)
    (F : At K mg "_law_plain" s__law_plain ["_law_source_here", "_law_alphabet_here", "_law_room"]) : Cal P w K mg base 4 "_law_plain" ["_law_source_here", "_law_alphabet_here", "_law_room"] sp_plain := by
  refine F.ok sc__law_plain (fun vs H Q E h => ?_) (fun f cdv A outer s H vs Q E hr h => ?_)
  · obtain ⟨a, al, room, n, rfl, _⟩ := h
    rfl
  · obtain ⟨a, al, room, n, rfl, hA, r1, r10, hS, k⟩ := h
    refine ⟨_, (pss_cons (ps_set (i := 3) sc__law_plain.nd rfl (Or.inl rfl) (pe_c G__law_draw (hr.mono (by first | decide | omega)) (pa_cons (pv 0) (pa_cons pe_int pa_nil))))
    (pss_cons (ps_if (PW.pt (pw_or (pt_cmpR op_lt (pv 2) pe_int (nomark _)) (pw_or1 (pt_cmpR op_eq (pv 3) pe_int (nomark _)))))
    (pss_one (ps_ret (pe_c G__law_set (hr.mono (by first | decide | omega)) (pa_cons (pv 0) (pa_cons (pv 1) pa_nil)))))
    pss_nil)
    (pss_cons (ps_set (i := 4) sc__law_plain.nd rfl (Or.inl rfl) (pe_op op_add pe_int (pe_c G__law_draw (hr.mono (by first | decide | omega)) (pa_cons (pv 0) (pa_cons (pe_op op_sub (pv 2) pe_int) pa_nil)))))
    (pss_cons (ps_if (pt_cmpR op_eq (pv 3) pe_int (nomark _))
    (pss_one (ps_ret (pe_tup (pa_cons pe_str (pa_cons (pe_c G__law_row (hr.mono (by first | decide | omega)) (pa_cons (pv 0) (pa_cons (pv 1) (pa_cons (pv 4) pa_nil)))) (pa_cons (pe_c G__law_row (hr.mono (by first | decide | omega)) (pa_cons (pv 0) (pa_cons (pv 1) (pa_cons (pe_op op_sub (pv 2) (pv 4)) pa_nil)))) pa_nil))))))
    pss_nil)
    (pss_cons (ps_if (pt_cmpR op_eq (pv 3) pe_int (nomark _))
    (pss_one (ps_ret (pe_op (op_catTK (K := K) (by rfl)) (pe_c G__law_row (hr.mono (by first | decide | omega)) (pa_cons (pv 0) (pa_cons (pv 1) (pa_cons (pv 4) pa_nil)))) (pe_tup (pa_cons (pe_tup (pa_cons pe_str (pa_cons (pe_c G__law_set (hr.mono (by first | decide | omega)) (pa_cons (pv 0) (pa_cons (pv 1) pa_nil))) (pa_cons pe_int (pa_cons pe_non pa_nil))))) pa_nil)))))
    pss_nil)
    (pss_cons (ps_if (pt_cmpR op_eq (pv 3) pe_int (nomark _))
    (pss_one (ps_ret (pe_op (op_catTK (K := K) (by rfl)) (pe_tup (pa_cons pe_str (pa_cons (pe_tup (pa_cons pe_str (pa_cons (pe_c G__law_set (hr.mono (by first | decide | omega)) (pa_cons (pv 0) (pa_cons (pv 1) pa_nil))) (pa_cons pe_int (pa_cons pe_non pa_nil))))) pa_nil))) (pe_slice (sl_tupAK (K := K) (by rfl)) (pe_c G__law_row (hr.mono (by first | decide | omega)) (pa_cons (pv 0) (pa_cons (pv 1) (pa_cons (pv 4) pa_nil)))) (po_some pe_int) po_none))))
    pss_nil)
    (pss_cons (ps_set (i := 5) sc__law_plain.nd rfl (Or.inl rfl) (pe_op op_add pe_int (pe_c G__law_draw (hr.mono (by first | decide | omega)) (pa_cons (pv 0) (pa_cons (pe_callB (call_min2 rfl) (by rfl) B.min (by decide +kernel) (pa_cons pe_int (pa_cons (pe_op op_sub (pv 2) (pv 4)) pa_nil))) pa_nil)))))
    (pss_cons (ps_if (pt_cmpR op_eq (pv 3) pe_int (nomark _))
    (pss_cons (ps_set (i := 6) sc__law_plain.nd rfl (Or.inl rfl) (pe_c G__law_row (hr.mono (by first | decide | omega)) (pa_cons (pv 0) (pa_cons (pv 1) (pa_cons (pe_op op_fdiv (pe_op op_sub (pv 2) (pv 4)) (pv 5)) pa_nil)))))
    (pss_one (ps_ret (pe_op (op_catTK (K := K) (by rfl)) (pe_c G__law_row (hr.mono (by first | decide | omega)) (pa_cons (pv 0) (pa_cons (pv 1) (pa_cons (pv 4) pa_nil)))) (pe_tup (pa_cons (pe_tup (pa_cons pe_str (pa_cons (pv 6) (pa_cons pe_int (pa_cons (pv 5) pa_nil))))) pa_nil))))))
    pss_nil)
    (pss_cons (ps_if (PW.pt (pw_or (pt_cmpR op_eq (pv 3) pe_int (nomark _)) (pw_or1 (pt_cmpR op_eq (pv 3) pe_int (nomark _)))))
    (pss_cons (ps_set (i := 7) sc__law_plain.nd rfl (Or.inl rfl) (pe_op op_add pe_int (pe_c G__law_draw (hr.mono (by first | decide | omega)) (pa_cons (pv 0) (pa_cons (pv 5) pa_nil)))))
    (pss_cons (ps_set (i := 8) sc__law_plain.nd rfl (Or.inl rfl) (pe_ix (ix_listK (K := K) (by rfl)) (pe_lst (pa_cons (pv 5) (pa_cons pe_non pa_nil))) (pe_op op_mul (pe_c G__law_draw (hr.mono (by first | decide | omega)) (pa_cons (pv 0) (pa_cons pe_int pa_nil))) (pe_callTy call_int1 (by rfl) B.int (by decide +kernel) (pa_cons (pe_cmpR op_lt (pv 7) (pv 5) (nomark _)) pa_nil))) (fun _ _ => rfl)))
    (pss_one (ps_ret (pe_tup (pa_cons pe_str (pa_cons (pe_c G__law_row (hr.mono (by first | decide | omega)) (pa_cons (pv 0) (pa_cons (pv 1) (pa_cons (pe_op op_fdiv (pv 2) (pv 5)) pa_nil)))) (pa_cons (pv 7) (pa_cons (pv 8) pa_nil)))))))))
    pss_nil)
    (pss_one (ps_ret (pe_c G__law_row (hr.mono (by first | decide | omega)) (pa_cons (pv 0) (pa_cons (pv 1) (pa_cons (pe_op op_add pe_int (pe_c G__law_draw (hr.mono (by first | decide | omega)) (pa_cons (pv 0) (pa_cons (pv 2) pa_nil)))) pa_nil))))))))))))))), ?_⟩
    walk_at "go"
    refine use_draw (n := n + 199) hS (by decide) (by decide) fun way H1 w0 w1 hS1 k1 => ?_
    walk_at "go"
    have fin : ∀ (v : V) (d : PyData) (H' : Hp), PlD al room d → Tp H' v d → Src a n H' → Kp a H1 H' → Q v H' := fun v d H' h1 h2 h3 h4 => k v d H' h1 h2 h3 (k1.trans h4)
    have aset : sp_set [.ref a, .str (S al)] H1 Q E0 := use_set (n := n) hA (hS1.mono (by omega)) fun p cs H2 hc hp hS2 k2 => fin _ _ H2 (.set hc) hp hS2 k2
    refine ite2 (fun hroom => ?_) (fun hroom => ?_)
    · walk_at "go"
      exact aset
    walk_at "go"
    refine ite2 (fun _ => ?_) (fun _ => ?_)
    · walk_at "go"
      exact aset
    have r2 : 2 ≤ room := by simpa using hroom
    walk_at "go"
    refine use_draw (n := n + 198) hS1 (by omega) (by omega) fun s0 H2 s1 s2 hS2 k2 => ?_
    obtain ⟨size, hsize⟩ : ∃ size : Int, size = 1 + s0 := ⟨_, rfl⟩
    walk_at "go"
    rw [← hsize]
    refine ite2 (fun _ => ?_) (fun _ => ?_)
    · -- an any of two rows
      walk_at "go"
      refine use_row (n := n + 100) hA (by omega) (by omega) (hS2.mono (by omega)) fun p1 c1 H3 l1 sb1 hr1 hS3 k3 => ?_
      walk_at "go"
      refine use_row (n := n) hA (by omega) (by omega) (hS3.mono (by omega)) fun p2 c2 H4 l2 sb2 hr2 hS4 k4 => ?_
      walk_at "go"
      refine ⟨by show 3 ≤ sizeLine; decide, rd_newK hS4 fun p H5 pa hp eP hS5 k5 => ?_⟩
      walk_at "go"
      have t4 := TS.kp hS3 k4
      have t5 := TS.kp hS4 k5
      exact fin (.ref p) _ H5 (.any (size := size) (by omega) (by omega) l1 l2 sb1 sb2) (.tup eP (.cons (.str _) (.cons ((hr1.ts t4).ts t5) (.cons (hr2.ts t5) .nil)))) hS5 (k2.trans (k3.trans (k4.trans k5)))
    walk_at "go"
    refine ite2 (fun _ => ?_) (fun _ => ?_)
    · -- a row with a star behind it
      walk_at "go"
      refine use_row (n := n + 100) hA (by omega) (by omega) (hS2.mono (by omega)) fun p1 c1 H3 l1 sb1 hr1 hS3 k3 => ?_
      walk_at "go"
      refine use_set (n := n) hA (hS3.mono (by omega)) fun p2 cs H4 hc hp2 hS4 k4 => ?_
      walk_at "go"
      refine ⟨by show 4 ≤ sizeLine; decide, rd_newK hS4 fun q H5 qa hq eQ hS5 k5 => ?_⟩
      walk_at "go"
      refine ⟨by show 1 ≤ sizeLine; decide, rd_newK hS5 fun g H6 ga hg eG hS6 k6 => ?_⟩
      walk_at "go"
      have t4 := TS.kp hS3 k4
      have t5 := TS.kp hS4 k5
      have t6 := TS.kp hS5 k6
      obtain ⟨_, xs, e, eR, hxs⟩ := Tp.tupI hr1
      cases e
      have lx := hxs.length
      rw [List.length_cons, List.length_map] at lx
      refine rd_catT (SqT.of (t6 _ _ (t5 _ _ (t4 _ _ eR)))) (SqT.of eG) (by intro z; rw [z] at lx; simp at lx) (by rw [lx, PySem.sizeLine_eq]; show _ + 1 ≤ _; omega) (fun z => by cases z) (fun _ => rd_newK hS6 fun p H7 pa hp eP hS7 k7 => ?_)
      walk_at "go"
      have t7 := TS.kp hS6 k7
      have hstar : Tp H5 (.ref q) (dStar cs) := .tup eQ (.cons (.str _) (.cons (hp2.ts t5) (.cons (.int 0) (.cons .non .nil))))
      refine fin (.ref p) _ H7 (.tail (size := size) (by omega) (by omega) l1 sb1 hc) (.tup eP ?_) hS7 (k2.trans (k3.trans (k4.trans (k5.trans (k6.trans k7)))))
      exact (hxs.ts (t4.trans (t5.trans (t6.trans t7)))).app (.cons (hstar.ts (t6.trans t7)) .nil)
    walk_at "go"
    refine ite2 (fun _ => ?_) (fun _ => ?_)
    · -- a star ahead of a row
      walk_at "go"
      refine use_set (n := n + 100) hA (hS2.mono (by omega)) fun p2 cs H4 hc hp2 hS4 k4 => ?_
      walk_at "go"
      refine ⟨by show 4 ≤ sizeLine; decide, rd_newK hS4 fun q H5 qa hq eQ hS5 k5 => ?_⟩
      walk_at "go"
      refine ⟨by show 2 ≤ sizeLine; decide, rd_newK hS5 fun g H6 ga hg eG hS6 k6 => ?_⟩
      walk_at "go"
      refine use_row (n := n) hA (by omega) (by omega) (hS6.mono (by omega)) fun p1 c1 H7 l1 sb1 hr1 hS7 k7 => ?_
      walk_at "go"
      have t5 := TS.kp hS4 k5
      have t6 := TS.kp hS5 k6
      have t7 := TS.kp hS6 k7
      obtain ⟨_, xs, e, eR, hxs⟩ := Tp.tupI hr1
      cases e
      cases hxs with
      | @cons v0 xs' _ _ _ hxs =>
        have lx := hxs.length
        rw [List.length_map] at lx
        refine rd_sla (SqT.of eR) (fun z => ?_) (fun _ => ?_)
        · exfalso
          have z1 := z.1
          have e : HT.sIx (v0 :: xs').length 0 (some 1) = 1 := by
            show HT.sIx (v0 :: xs').length 0 (some ((1 : Nat) : Int)) = 1
            rw [HT.sIx_nat, List.length_cons]; omega
          omega
        rw [cut1]
        refine rd_newK hS7 fun g2 H8 ga2 hg2 eG2 hS8 k8 => ?_
        have t8 := TS.kp hS7 k8
        refine rd_catT (SqT.of (t8 _ _ (t7 _ _ eG))) (SqT.of eG2) (by simp) (by rw [lx, PySem.sizeLine_eq]; show 2 + _ ≤ _; omega) (fun z => by rw [z] at lx; simp at lx; omega) (fun _ => rd_newK hS8 fun p H9 pa hp eP hS9 k9 => ?_)
        walk_at "go"
        have t9 := TS.kp hS8 k9
        have hstar : Tp H5 (.ref q) (dStar cs) := .tup eQ (.cons (.str _) (.cons (hp2.ts t5) (.cons (.int 0) (.cons .non .nil))))
        refine fin (.ref p) _ H9 (.head (size := size) (by omega) (by omega) l1 sb1 hc) (.tup eP ?_) hS9 (k2.trans (k4.trans (k5.trans (k6.trans (k7.trans (k8.trans k9))))))
        exact .cons (.str _) (.cons (hstar.ts (t6.trans (t7.trans (t8.trans t9)))) (hxs.ts (t8.trans t9)))
    walk_at "go"
    refine ⟨_, _, rfl, ?_⟩
    obtain ⟨mm, hmm⟩ : ∃ mm : Int, mm = (if room - size < 4 then room - size else 4) := ⟨_, rfl⟩
    walk_at "go"
    rw [← hmm]
    have m1 : 1 ≤ mm ∧ mm ≤ 4 ∧ mm ≤ room - size := by rw [hmm]; split <;> omega
    refine use_draw (n := n + 197) hS2 (by omega) (by omega) fun c0 H3 c1 c2 hS3 k3 => ?_
    obtain ⟨many, hmany⟩ : ∃ many : Int, many = 1 + c0 := ⟨_, rfl⟩
    walk_at "go"
    rw [← hmany]
    have k23 := k2.trans k3
    refine ite2 (fun _ => ?_) (fun _ => ?_)
    · -- a row with at most many of another behind it
      walk_at "go"
      refine rd_i (C := CDiv) (b := many) ⟨by omega, by omega⟩ ?_
      walk_at "go"
      have q0 : 0 ≤ (room - size) / many := Int.ediv_nonneg (by omega) (by omega)
      have q1 : (room - size) / many ≤ 9 := Int.le_trans (Int.ediv_le_self _ (by omega)) (by omega)
      refine use_row (n := n + 120) hA q0 (by omega) (hS3.mono (by omega)) fun p2 d2 H4 l2 sb2 hr2 hS4 k4 => ?_
      walk_at "go"
      refine use_row (n := n + 20) hA (by omega) (by omega) (hS4.mono (by omega)) fun p1 d1 H5 l1 sb1 hr1 hS5 k5 => ?_
      walk_at "go"
      refine ⟨by show 4 ≤ sizeLine; decide, rd_newK hS5 fun q H6 qa hq eQ hS6 k6 => ?_⟩
      walk_at "go"
      refine ⟨by show 1 ≤ sizeLine; decide, rd_newK hS6 fun g H7 ga hg eG hS7 k7 => ?_⟩
      walk_at "go"
      have t5 := TS.kp hS4 k5
      have t6 := TS.kp hS5 k6
      have t7 := TS.kp hS6 k7
      obtain ⟨_, xs, e, eR, hxs⟩ := Tp.tupI hr1
      cases e
      have lx := hxs.length
      rw [List.length_cons, List.length_map] at lx
      refine rd_catT (SqT.of (t7 _ _ (t6 _ _ eR))) (SqT.of eG) (by intro z; rw [z] at lx; simp at lx) (by rw [lx, PySem.sizeLine_eq]; show _ + 1 ≤ _; omega) (fun z => by cases z) (fun _ => rd_newK hS7 fun p H8 pa hp eP hS8 k8 => ?_)
      walk_at "go"
      have t8 := TS.kp hS7 k8
      have hag : Tp H6 (.ref q) (dAgain (dRow d2) 0 (.int many)) := .tup eQ (.cons (.str _) (.cons (hr2.ts (t5.trans t6)) (.cons (.int 0) (.cons (.int many) .nil))))
      refine fin (.ref p) _ H8 (.some (size := size) (many := many) (by omega) (by omega) (by omega) (by omega) (by omega) l1 l2 sb1 sb2) (.tup eP ?_) (hS8.mono (by omega)) (k23.trans (k4.trans (k5.trans (k6.trans (k7.trans k8)))))
      exact (hxs.ts (t6.trans (t7.trans t8))).app (.cons (hag.ts (t7.trans t8)) .nil)
    walk_at "go"
    refine ite2 (fun _ => ?_) (fun _ => ?_)
    rotate_left
    walk_at "go"
    refine ite2 (fun _ => ?_) (fun _ => ?_)
    rotate_left
    · -- a row
      walk_at "go"
      refine use_draw (n := n + 196) hS3 (by omega) (by omega) fun z0 H4 z1 z2 hS4 k4 => ?_
      walk_at "go"
      refine use_row (n := n) hA (by omega) (by omega) (hS4.mono (by omega)) fun p css H5 hl hsub hr hS5 k5 => ?_
      exact fin (.ref p) _ H5 (.row (by omega) (by omega) hl hsub) hr hS5 (k23.trans (k4.trans k5))
    all_goals
      walk_at "go"
      refine use_draw (n := n + 196) hS3 (by omega) (by omega) fun lo0 H4 lo1 lo2 hS4 k4 => ?_
      obtain ⟨lo, hlo⟩ : ∃ lo : Int, lo = 1 + lo0 := ⟨_, rfl⟩
      walk_at "go"
      rw [← hlo]
      refine ⟨by show 2 ≤ sizeLine; decide, rd_newK hS4 fun g H5 ga hg eG hS5 k5 => ?_⟩
      walk_at "go"
      refine use_draw (n := n + 195) hS5 (by decide) (by decide) fun b H6 b0 b1 hS6 k6 => ?_
      walk_at "go"
      refine .inr ⟨_, rfl, ?_⟩
      walk_at "go"
      refine rd_i (C := CMul) (a := b) (.inl ⟨by omega, by omega⟩) ?_
      obtain ⟨v, hi, hv, hiv, hhi⟩ : ∃ (v : V) (hi : PyData), atI [V.int many, .non] (b * (if decide (lo < many) = true then 1 else 0)) = some v ∧ (∀ H, Tp H v hi) ∧ (hi = .int many ∨ (hi = .none ∧ lo < many)) := by
        rcases (by omega : b = 0 ∨ b = 1) with rfl | rfl
        · exact ⟨_, .int many, by rw [Int.zero_mul]; rfl, fun _ => .int _, .inl rfl⟩
        · by_cases hlt : lo < many
          · exact ⟨_, .none, by rw [decide_eq_true hlt]; rfl, fun _ => .non, .inr ⟨rfl, hlt⟩⟩
          · exact ⟨_, .int many, by rw [decide_eq_false hlt]; rfl, fun _ => .int _, .inl rfl⟩
      refine rd_ixl (SqL.of (k6.at ga eG)) hv ?_
      walk_at "go"
      refine rd_i (C := CDiv) (b := many) ⟨by omega, by omega⟩ ?_
      walk_at "go"
      have q0 : 0 ≤ room / many := Int.ediv_nonneg (by omega) (by omega)
      have q1 : room / many ≤ 10 := Int.le_trans (Int.ediv_le_self _ (by omega)) (by omega)
      refine use_row (n := n + 20) hA q0 (by omega) (hS6.mono (by omega)) fun p1 d1 H7 l1 sb1 hr1 hS7 k7 => ?_
      walk_at "go"
      refine ⟨by show 4 ≤ sizeLine; decide, rd_newK hS7 fun q H8 qa hq eQ hS8 k8 => ?_⟩
      walk_at "go"
      have t8 := TS.kp hS7 k8
      exact fin (.ref q) _ H8 (.rep (many := many) (lo := lo) (by omega) (by omega) (by omega) (by omega) (by omega) hhi l1 sb1) (.tup eQ (.cons (.str _) (.cons (hr1.ts t8) (.cons (.int _) (.cons (hiv _) .nil))))) (hS8.mono (by omega)) (k23.trans (k4.trans (k5.trans (k6.trans (k7.trans k8)))))
end

end Cs
namespace Cs
open PySem L2
open PyProof.Rows (envOfC)
def sp_pattern_ : Sp := fun vs H Q _ => ∃ (a : Addr) (al : List Nat) (room : Int) (n : Nat), vs = [.ref a, .str (S al), .int room] ∧ Alp al ∧ 1 ≤ room ∧ room ≤ 10 ∧ Src a (n + 500) H ∧
  ∀ (v : V) (d : PyData) (H' : Hp), PtD al room d → Tp H' v d → Src a n H' → Kp a H H' → Q v H'
theorem use_pattern_ {a : Addr} {al : List Nat} {room : Int} {n : Nat} {H : Hp} {Q : VK} {E : XK} (hA : Alp al) (r1 : 1 ≤ room) (r10 : room ≤ 10) (hS : Src a (n + 500) H)
    (k : ∀ (v : V) (d : PyData) (H' : Hp), PtD al room d → Tp H' v d → Src a n H' → Kp a H H' → Q v H') : sp_pattern_ [.ref a, .str (S al), .int room] H Q E := ⟨a, al, room, n, rfl, hA, r1, r10, hS, k⟩
section
variable {P : Program} {w : World} {K : PySem.W.Frag} {mg : Str → Option Value} {base : Heap}
theorem ok_pattern_ (G__law_draw : Cal P w K mg base 1 "_law_draw" ["_law_source_here", "_law_many"] sp_draw)
    (G__law_plain : Cal P w K mg base 4 "_law_plain" ["_law_source_here", "_law_alphabet_here", "_law_room"] sp_plain)
    (F : At K mg "_law_pattern" s__law_pattern ["_law_source_here", "_law_alphabet_here", "_law_room"]) : Cal P w K mg base 5 "_law_pattern" ["_law_source_here", "_law_alphabet_here", "_law_room"] sp_pattern_ := by
  refine F.ok sc__law_pattern (fun vs H Q E h => ?_) (fun f cdv A outer s H vs Q E hr h => ?_)
  · obtain ⟨a, al, room, n, rfl, _⟩ := h
    rfl
  · obtain ⟨a, al, room, n, rfl, hA, r1, r10, hS, k⟩ := h
    refine ⟨_, (pss_cons (ps_if (PW.pt (pw_or (pt_cmpR op_lt (pv 2) pe_int (nomark _)) (pw_or1 (pt_cmpR op_gt (pe_c G__law_draw (hr.mono (by first | decide | omega)) (pa_cons (pv 0) (pa_cons pe_int pa_nil))) pe_int (nomark _)))))
    (pss_one (ps_ret (pe_c G__law_plain (hr.mono (by first | decide | omega)) (pa_cons (pv 0) (pa_cons (pv 1) (pa_cons (pv 2) pa_nil))))))
    pss_nil)
    (pss_cons (ps_set (i := 3) sc__law_pattern.nd rfl (Or.inl rfl) (pe_op op_add pe_int (pe_c G__law_draw (hr.mono (by first | decide | omega)) (pa_cons (pv 0) (pa_cons (pe_op op_sub (pv 2) pe_int) pa_nil)))))
    (pss_cons (ps_set (i := 4) sc__law_pattern.nd rfl (Or.inl rfl) (pe_tup (pa_cons pe_str (pa_cons (pe_c G__law_plain (hr.mono (by first | decide | omega)) (pa_cons (pv 0) (pa_cons (pv 1) (pa_cons (pe_op op_sub (pv 2) (pv 3)) pa_nil)))) pa_nil))))
    (pss_one (ps_ret (pe_tup (pa_cons pe_str (pa_cons (pe_c G__law_plain (hr.mono (by first | decide | omega)) (pa_cons (pv 0) (pa_cons (pv 1) (pa_cons (pv 3) pa_nil)))) (pa_cons (pv 4) pa_nil))))))))), ?_⟩
    walk_at "go"
    refine ite2 (fun hroom => ?_) (fun hroom => ?_)
    · walk_at "go"
      exact use_plain (n := n) hA r1 r10 (hS.mono (by omega)) fun v d H' h1 h2 h3 h4 => k v d H' (.plain h1) h2 h3 h4
    have r2 : 2 ≤ room := by simpa using hroom
    walk_at "go"
    refine use_draw (n := n + 499) hS (by decide) (by decide) fun c H1 c0 c1 hS1 k1 => ?_
    walk_at "go"
    refine ite2 (fun _ => ?_) (fun _ => ?_)
    · walk_at "go"
      exact use_plain (n := n) hA r1 r10 (hS1.mono (by omega)) fun v d H' h1 h2 h3 h4 => k v d H' (.plain h1) h2 h3 (k1.trans h4)
    walk_at "go"
    refine use_draw (n := n + 498) hS1 (by omega) (by omega) fun s0 H2 s1 s2 hS2 k2 => ?_
    obtain ⟨size, hsize⟩ : ∃ size : Int, size = 1 + s0 := ⟨_, rfl⟩
    walk_at "go"
    rw [← hsize]
    refine use_plain (n := n + 250) hA (by omega) (by omega) (hS2.mono (by omega)) fun v2 d2 H3 p2 h2 hS3 k3 => ?_
    walk_at "go"
    refine ⟨by show 2 ≤ sizeLine; decide, rd_newK hS3 fun q H4 qa hq eQ hS4 k4 => ?_⟩
    walk_at "go"
    refine use_plain (n := n) hA (by omega) (by omega) (hS4.mono (by omega)) fun v1 d1 H5 p1 h1 hS5 k5 => ?_
    walk_at "go"
    refine ⟨by show 3 ≤ sizeLine; decide, rd_newK hS5 fun p H6 pa hp eP hS6 k6 => ?_⟩
    walk_at "go"
    have t4 := TS.kp hS3 k4
    have t5 := TS.kp hS4 k5
    have t6 := TS.kp hS5 k6
    have hq' : Tp H4 (.ref q) (.tuple [.str (kS "not"), d2]) := .tup eQ (.cons (.str _) (.cons (h2.ts t4) .nil))
    exact k (.ref p) _ H6 (.all (size := size) (by omega) (by omega) p1 p2) (.tup eP (.cons (.str _) (.cons (h1.ts t6) (.cons (hq'.ts (t5.trans t6)) .nil)))) hS6 (k1.trans (k2.trans (k3.trans (k4.trans (k5.trans k6)))))
end

end Cs
namespace Cs
open PySem L2
open PyProof.Rows (envOfC)
def sp_nested (b : Nat) : Sp := fun vs H Q _ => ∃ (a : Addr) (al : List Nat) (m n : Nat), vs = [.ref a, .str (S al), .int m] ∧ m < b ∧ Alp al ∧ Src a (n + bN m) H ∧
  ∀ (v : V) (d : PyData) (H' : Hp), NsD al m d → Tp H' v d → Src a n H' → Kp a H H' → Q v H'
theorem use_nested {a : Addr} {al : List Nat} {b m n : Nat} {H : Hp} {Q : VK} {E : XK} {x : Int} (e : x = (m : Int)) (hb : m < b) (hA : Alp al) (hS : Src a (n + bN m) H)
    (k : ∀ (v : V) (d : PyData) (H' : Hp), NsD al m d → Tp H' v d → Src a n H' → Kp a H H' → Q v H') : sp_nested b [.ref a, .str (S al), .int x] H Q E := ⟨a, al, m, n, by rw [e], hb, hA, hS, k⟩
section
variable {P : Program} {w : World} {K : PySem.W.Frag} {mg : Str → Option Value} {base : Heap}
theorem ok_nested (B : Blt mg) (G__law_draw : Cal P w K mg base 1 "_law_draw" ["_law_source_here", "_law_many"] sp_draw) (G__law_set : Cal P w K mg base 2 "_law_set" ["_law_source_here", "_law_alphabet_here"] sp_set)
    (F : At K mg "_law_nested" s__law_nested ["_law_source_here", "_law_alphabet_here", "_law_depth"]) : ∀ b : Nat, Cal P w K mg base (b + 3) "_law_nested" ["_law_source_here", "_law_alphabet_here", "_law_depth"] (sp_nested b) := by
  intro b
  induction b with
  | zero => exact F.ok (k := 2) sc__law_nested (fun vs H Q E h => by obtain ⟨a, al, m, n, rfl, _⟩ := h; rfl) (fun f cdv A outer s H vs Q E hr h => by obtain ⟨_, _, m, _, _, hb, _⟩ := h; omega)
  | succ b ih =>
    have G__law_nested := ih
    refine F.ok (k := b + 3) sc__law_nested (fun vs H Q E h => ?_) (fun f cdv A outer s H vs Q E hr h => ?_)
    · obtain ⟨a, al, m, n, rfl, _⟩ := h
      rfl
    · obtain ⟨a, al, m, n, rfl, hb, hA, hS, k⟩ := h
      refine ⟨_, (pss_cons (ps_set (i := 3) sc__law_nested.nd rfl (Or.inl rfl) (pe_c G__law_draw (hr.mono (by first | decide | omega)) (pa_cons (pv 0) (pa_cons pe_int pa_nil))))
    (pss_cons (ps_if (PW.pt (pw_or (pt_cmpR op_eq (pv 2) pe_int (nomark _)) (pw_or1 (pt_cmpR op_eq (pv 3) pe_int (nomark _)))))
    (pss_one (ps_ret (pe_c G__law_set (hr.mono (by first | decide | omega)) (pa_cons (pv 0) (pa_cons (pv 1) pa_nil)))))
    pss_nil)
    (pss_cons (ps_if (pt_cmpR op_eq (pv 3) pe_int (nomark _))
    (pss_cons (ps_set (i := 4) sc__law_nested.nd rfl (Or.inl rfl) (pe_c G__law_draw (hr.mono (by first | decide | omega)) (pa_cons (pv 0) (pa_cons pe_int pa_nil))))
    (pss_cons (ps_set (i := 5) sc__law_nested.nd rfl (Or.inl rfl) (pe_ix (ix_listK (K := K) (by rfl)) (pe_lst (pa_cons pe_non (pa_cons (pe_op op_add (pv 4) (pe_c G__law_draw (hr.mono (by first | decide | omega)) (pa_cons (pv 0) (pa_cons (pe_op op_sub pe_int (pv 4)) pa_nil)))) pa_nil))) (pe_c G__law_draw (hr.mono (by first | decide | omega)) (pa_cons (pv 0) (pa_cons pe_int pa_nil))) (fun _ _ => rfl)))
    (pss_one (ps_ret (pe_tup (pa_cons pe_str (pa_cons (pe_c G__law_nested (hr.mono (by first | decide | omega)) (pa_cons (pv 0) (pa_cons (pv 1) (pa_cons (pe_op op_sub (pv 2) pe_int) pa_nil)))) (pa_cons (pv 4) (pa_cons (pv 5) pa_nil)))))))))
    pss_nil)
    (pss_cons (ps_if (pt_cmpR op_eq (pv 3) pe_int (nomark _))
    (pss_one (ps_ret (pe_tup (pa_cons pe_str (pa_cons (pe_c G__law_nested (hr.mono (by first | decide | omega)) (pa_cons (pv 0) (pa_cons (pv 1) (pa_cons (pe_op op_sub (pv 2) pe_int) pa_nil)))) pa_nil)))))
    pss_nil)
    (pss_cons (ps_setLc (i := 6) (own := [("_law_k", 7)]) rfl sc__law_nested.nd rfl rfl (sw_true rfl rfl rfl (by decide +kernel)) (pi_range1 (by rfl) B.range (pa_cons (pe_c G__law_draw (hr.mono (by first | decide | omega)) (pa_cons (pv 0) (pa_cons pe_int pa_nil))) pa_nil)) (blkOk_by (N := ["_law_source_here", "_law_alphabet_here", "_law_depth", "_law_way", "_law_low", "_law_high", "_law_parts", "_law_k"]) (sc := defScope s__law_nested) (by decide +kernel)) (fun _ _ _ _ _ => (pg_name (i := 7) sc__law_nested.nd rfl (Or.inl rfl))) (fun _ _ _ _ _ => pts_nil) (fun _ _ _ _ _ => (pe_c G__law_nested (hr.mono (by first | decide | omega)) (pa_cons (pv 0) (pa_cons (pv 1) (pa_cons (pe_op op_sub (pv 2) pe_int) pa_nil))))))
    (pss_one (ps_ret (pe_op (op_catTK (K := K) (by rfl)) (pe_tup (pa_cons (pe_ix (ix_listK (K := K) (by rfl)) (pe_lst (pa_cons pe_str (pa_cons pe_str (pa_cons pe_str pa_nil)))) (pe_op op_mod (pv 3) pe_int) (fun _ _ => rfl)) pa_nil)) (pe_callTy (call_tuple_ofK (K := K) (by rfl)) (by rfl) B.tuple (by decide +kernel) (pa_cons (pv 6) pa_nil)))))))))), ?_⟩
      have hlo := bN_lo m
      have e1 : n + bN m = n + (bN m - 1) + 1 := by omega
      rw [e1] at hS
      walk_at "go"
      refine use_draw hS (by decide) (by decide) fun way H1 w0 w1 hS1 k1 => ?_
      have aset : sp_set [.ref a, .str (S al)] H1 Q E0 := use_set (n := n) hA (hS1.mono (by omega)) fun p cs H2 hc hp hS2 k2 => k _ _ H2 (.set hc) hp hS2 (k1.trans k2)
      walk_at "go"
      refine ite2 (fun _ => ?_) (fun hm => ?_)
      · walk_at "go"
        exact aset
      walk_at "go"
      refine ite2 (fun _ => ?_) (fun hw => ?_)
      · walk_at "go"
        exact aset
      have hm' : (m : Int) ≠ 0 := by
        intro z
        apply hm
        rw [z]; rfl
      have hw' : way ≠ 0 := by
        intro z
        apply hw
        rw [z]; rfl
      obtain ⟨m, rfl⟩ : ∃ j, m = j + 1 := ⟨m - 1, by omega⟩
      have eb : bN (m + 1) = 4 * bN m := rfl
      have hlo := bN_lo m
      have ed : ((m + 1 : Nat) : Int) - 1 = (m : Int) := by omega
      walk_at "go"
      refine ite2 (fun _ => ?_) (fun hw1 => ?_)
      · -- an again
        walk_at "go"
        refine use_draw (n := n + (bN (m + 1) - 2)) (hS1.mono (by omega)) (by decide) (by decide) fun lo H2 lo0 lo1 hS2 k2 => ?_
        walk_at "go"
        refine use_draw (n := n + (bN (m + 1) - 3)) (hS2.mono (by omega)) (by omega) (by omega) fun c H3 c0 c1 hS3 k3 => ?_
        walk_at "go"
        refine ⟨by show 2 ≤ sizeLine; decide, rd_newK hS3 fun g H4 ga hg eG hS4 k4 => ?_⟩
        walk_at "go"
        refine use_draw (n := n + (bN (m + 1) - 4)) (hS4.mono (by omega)) (by decide) (by decide) fun e H5 e0 e1 hS5 k5 => ?_
        obtain ⟨v, hi, fac, hv, hiv, hag⟩ : ∃ (v : V) (hi : PyData) (f : Int), atI [V.non, .int (lo + c)] e = some v ∧ (∀ H, Tp H v hi) ∧ AgOk lo hi f := by
          rcases (by omega : e = 0 ∨ e = 1) with rfl | rfl
          · exact ⟨_, .none, _, rfl, fun _ => .non, lo0, by omega, .inl ⟨rfl, rfl⟩⟩
          · exact ⟨_, .int (lo + c), _, rfl, fun _ => .int _, lo0, by omega, .inr ⟨_, rfl, by omega, by omega, rfl⟩⟩
        refine rd_ixl (SqL.of (k5.at ga eG)) hv ?_
        walk_at "go"
        refine use_nested (m := m) (n := n) ed (by omega) hA (hS5.mono (by omega)) fun x d H6 hd hx hS6 k6 => ?_
        walk_at "go"
        refine ⟨by show 4 ≤ sizeLine; decide, rd_newK hS6 fun q H7 qa hq eQ hS7 k7 => ?_⟩
        walk_at "go"
        exact k (.ref q) _ H7 (.again hd hag) (.tup eQ (.cons (.str _) (.cons (hx.ts (TS.kp hS6 k7)) (.cons (.int _) (.cons (hiv _) .nil))))) hS7 (k1.trans (k2.trans (k3.trans (k4.trans (k5.trans (k6.trans k7))))))
      walk_at "go"
      refine ite2 (fun _ => ?_) (fun hw2 => ?_)
      · -- a not
        walk_at "go"
        refine use_nested (m := m) (n := n) ed (by omega) hA (hS1.mono (by omega)) fun x d H6 hd hx hS6 k6 => ?_
        walk_at "go"
        refine ⟨by show 2 ≤ sizeLine; decide, rd_newK hS6 fun q H7 qa hq eQ hS7 k7 => ?_⟩
        walk_at "go"
        exact k (.ref q) _ H7 (.not hd) (.tup eQ (.cons (.str _) (.cons (hx.ts (TS.kp hS6 k7)) .nil))) hS7 (k1.trans (k6.trans k7))
      walk_at "go"
      refine use_draw (n := n + (bN (m + 1) - 2)) (hS1.mono (by omega)) (by decide) (by decide) fun many H2 m0 m1 hS2 k2 => ?_
      walk_at "go"
      refine rd_rng1j (by omega) (by omega) ?_
      intro D hD
      have Da : D ≠ a := hS2.ne hD
      have k12 := k1.trans k2
      have hD0 : H D = none := k12.none Da hD
      refine lc_range (lo := 0) (n := many.toNat) (fun i H' => ∃ (vs : List V) (ds : List PyData), H' D = some (.lst vs) ∧ TpAll H' vs ds ∧ ds.length = i ∧ (∀ d ∈ ds, NsD al m d) ∧ Src a (n + bN m * (3 - i)) H' ∧ Kp a H H') ?_ ?_ ?_
      · refine ⟨[], [], upd_same, .nil, rfl, by simp, (hS2.lay Da).mono ?_, k12.lay hD0⟩
        show n + bN m * 3 ≤ _
        omega
      · rintro i H' hi ⟨vs, ds, eD, hv, hl, hds, hS', kp⟩
        walk_at "go"
        refine ⟨rfl, ?_⟩
        walk_at "go"
        have e7 : n + bN m * (3 - i) = n + bN m * (3 - (i + 1)) + bN m := by
          have : 3 - i = 3 - (i + 1) + 1 := by omega
          rw [this, Nat.mul_succ]; omega
        rw [e7] at hS'
        refine use_nested (m := m) ed (by omega) hA hS' fun x d H2 hd hx hS2 k2 => ?_
        have lv : vs.length = i := by rw [hv.length, hl]
        have eD2 := k2.at Da eD
        have t2 : TS H2 (upd H2 D (.lst (vs ++ [x]))) := TS.set eD2
        refine ⟨vs, eD2, by rw [lv, PySem.sizeLine_eq]; omega, vs ++ [x], ds ++ [d], upd_same, ((hv.ts (TS.kp hS' k2)).app (.cons hx .nil)).ts t2, by rw [List.length_append, hl]; rfl, ?_, hS2.lay Da, (kp.trans k2).lay hD0⟩
        intro c hc
        rcases List.mem_append.mp hc with hc | hc
        · exact hds c hc
        · rw [List.mem_singleton.mp hc]; exact hd
      · rintro H4 ⟨vs, ds, eD, hv, hl, hds, hS4, kp⟩
        have lv : vs.length = many.toNat := by rw [hv.length, hl]
        walk_at "go"
        refine ⟨by show 3 ≤ sizeLine; decide, rd_newK hS4 fun g H5 ga hg eG hS5 k5 => ?_⟩
        walk_at "go"
        refine rd_i (show (0 : Int) < 3 by decide) ?_
        obtain ⟨u, hu, huw⟩ : ∃ u : Str, atI [V.str (kS "row"), .str (kS "any"), .str (kS "all")] (way % 3) = some (.str u) ∧ (u = kS "row" ∨ u = kS "any" ∨ u = kS "all") := by
          rcases (by omega : way % 3 = 0 ∨ way % 3 = 1 ∨ way % 3 = 2) with e | e | e <;> rw [e]
          · exact ⟨_, rfl, .inl rfl⟩
          · exact ⟨_, rfl, .inr (.inl rfl)⟩
          · exact ⟨_, rfl, .inr (.inr rfl)⟩
        walk_at "go"
        refine rd_ixl (SqL.of eG) hu ?_
        walk_at "go"
        refine ⟨by show 1 ≤ sizeLine; decide, rd_newK hS5 fun h H6 ha hh eH hS6 k6 => ?_⟩
        walk_at "go"
        refine rd_tupl (SqL.of (k6.at Da (k5.at Da eD))) (rd_newK hS6 fun q H7 qa hq eQ hS7 k7 => ?_)
        have t5 := TS.kp hS4 k5
        have t6 := TS.kp hS5 k6
        have t7 := TS.kp hS6 k7
        refine rd_catT (SqT.of (t7 _ _ eH)) (SqT.of eQ) (by simp) (by rw [lv, PySem.sizeLine_eq]; show 1 + _ ≤ _; omega) (fun z => ?_) (fun _ => rd_newK hS7 fun r H8 ra hr8 eR hS8 k8 => ?_)
        · walk_at "go"
          subst z
          have e0 : ds = [] := List.length_eq_zero_iff.mp hv.length.symm
          subst e0
          exact k (.ref h) _ H7 (.many (ds := []) huw (by simp) (by simp)) (.tup (t7 _ _ eH) (.cons (.str _) .nil)) (hS7.mono (by omega)) (kp.trans (k5.trans (k6.trans k7)))
        · walk_at "go"
          have t8 := TS.kp hS7 k8
          exact k (.ref r) _ H8 (.many huw (by omega) hds) (.tup eR (.cons (.str _) (hv.ts (t5.trans (t6.trans (t7.trans t8)))))) (hS8.mono (by omega)) (kp.trans (k5.trans (k6.trans (k7.trans k8))))
end

end Cs
namespace Cs
open PySem L2
open PyProof.Rows (envOfC)
/-! the source of draws for one turn: a new list -/
def sp_source (K : PySem.W.Frag) : Sp := fun vs H Q _ => ∃ (a : Addr) (ns : List Int) (k : Int), vs = [.ref a, .int k] ∧ SqL K H a (ns.map V.int) ∧ 0 ≤ k ∧ k < 1000 ∧ ∀ (p : Addr) (H' : Hp), H p = none → Same H H' → Src p (2 ^ 39) H' → Q (.ref p) H'
theorem at_int {ns : List Int} {k : Int} (h0 : 0 ≤ k) (h1 : 0 < ns.length) : ∃ c : Int, atI (ns.map V.int) (k % (((ns.map V.int).length : Nat) : Int)) = some (.int c) := by
  have hl : (ns.map V.int).length = ns.length := List.length_map ..
  have p0 : 0 ≤ k % ((ns.length : Nat) : Int) := Int.emod_nonneg _ (by omega)
  have p1 : k % ((ns.length : Nat) : Int) < ns.length := Int.emod_lt_of_pos _ (by omega)
  obtain ⟨j, hj⟩ : ∃ j : Nat, k % ((ns.length : Nat) : Int) = (j : Int) := ⟨(k % ((ns.length : Nat) : Int)).toNat, by omega⟩
  have hj2 : j < ns.length := by omega
  refine ⟨ns[j], ?_⟩
  rw [hl, hj]
  exact atI_nat (by rw [List.getElem?_map, List.getElem?_eq_getElem hj2]; rfl)
section
variable {P : Program} {w : World} {K : PySem.W.Frag} {mg : Str → Option Value} {base : Heap}
theorem ok_source (B : Blt mg) (F : At K mg "_law_source" s__law_source ["_law_script", "_law_k"]) : Cal P w K mg base 1 "_law_source" ["_law_script", "_law_k"] (sp_source K) := by
  refine F.ok sc__law_source (fun vs H Q E h => ?_) (fun f cdv A outer s H vs Q E hr h => ?_)
  · obtain ⟨a, ns, k, rfl, _⟩ := h
    rfl
  · obtain ⟨a, ns, k, rfl, hS, k0, k1, kk⟩ := h
    refine ⟨_, (pss_cons (ps_set (i := 2) sc__law_source.nd rfl (Or.inl rfl) pe_int)
    (pss_cons (ps_set (i := 3) sc__law_source.nd rfl (Or.inl rfl) pe_int)
    (pss_cons (ps_if (pt_cmpR op_gt (pe_callB (call_len_seqK (K := K) (by rfl)) (by rfl) B.len PySem.boot_len (pa_cons (pv 0) pa_nil)) pe_int (nomark _))
    (pss_one (ps_set (i := 2) sc__law_source.nd rfl (Or.inl rfl) (pe_ix (ix_listK (K := K) (by rfl)) (pv 0) (pe_op op_mod (pv 1) (pe_callB (call_len_seqK (K := K) (by rfl)) (by rfl) B.len PySem.boot_len (pa_cons (pv 0) pa_nil))) (fun _ _ => rfl))))
    pss_nil)
    (pss_cons (ps_if (PW.pt (pw_and (pt_cmpR op_lt (pv 1) (pe_callB (call_len_seqK (K := K) (by rfl)) (by rfl) B.len PySem.boot_len (pa_cons (pv 0) pa_nil)) (nomark _)) (pw_and1 (pt_cmpR op_ge (pv 2) (pe_op op_pow pe_int pe_int) (nomark _)))))
    (pss_one (ps_set (i := 3) sc__law_source.nd rfl (Or.inl rfl) (pv 2)))
    pss_nil)
    (pss_one (ps_ret (pe_lst (pa_cons (pv 3) (pa_cons (pe_op op_add (pe_op op_add (pe_op op_mod (pv 2) pe_int) (pe_op op_mul pe_int (pv 1))) pe_int) (pa_cons pe_int pa_nil)))))))))), ?_⟩
    have fin : ∀ d c : Int, (c % 2147483647 + 7919000 * k + 104729) < 2 ^ 40 ∧ ∀ p, H p = none → Q (.ref p) (upd H p (.lst [.int d, .int (c % 2147483647 + 7919000 * k + 104729), .int 0])) := fun d c => by
      have h0 : 0 ≤ c % 2147483647 := Int.emod_nonneg _ (by decide)
      have h1 : c % 2147483647 < 2147483647 := Int.emod_lt_of_pos _ (by decide)
      refine ⟨by omega, fun p hp => kk p _ hp (fun b o e => by rw [upd_ne (ne_of_none e hp)]; exact e) ⟨d, _, 0, upd_same, by omega, by omega, by omega, by omega⟩⟩
    walk_at "go"
    refine rd_len (.inl hS) ?_
    walk_at "go"
    refine ite2 (fun hd => ?_) (fun hd => ?_)
    · walk_at "go"
      refine rd_len (.inl hS) ?_
      have hl : 0 < ns.length := by
        have := of_decide_eq_true hd
        rw [List.length_map] at this
        omega
      refine rd_i (by show (0 : Int) < _; rw [List.length_map]; omega) ?_
      obtain ⟨c, hc⟩ := at_int k0 hl
      refine rd_ixl hS hc ?_
      walk_at "go"
      refine rd_len (.inl hS) ?_
      walk_at "go"
      refine ite2 (fun hd2 => ?_) (fun hd2 => ?_)
      · walk_at "go"
        refine rd_i ⟨by decide, by decide, by decide⟩ ?_
        walk_at "go"
        refine ite2 (fun hd3 => ?_) (fun hd3 => ?_)
        · walk_at "go"
          refine rd_i (by decide) ?_
          walk_at "go"
          refine rd_i (.inl (by decide)) ?_
          walk_at "go"
          exact ⟨by show 3 ≤ sizeLine; decide, (fin _ _).2⟩
        · walk_at "go"
          refine rd_i (by decide) ?_
          walk_at "go"
          refine rd_i (.inl (by decide)) ?_
          walk_at "go"
          exact ⟨by show 3 ≤ sizeLine; decide, (fin _ _).2⟩
      · walk_at "go"
        refine rd_i (by decide) ?_
        walk_at "go"
        refine rd_i (.inl (by decide)) ?_
        walk_at "go"
        exact ⟨by show 3 ≤ sizeLine; decide, (fin _ _).2⟩
    · walk_at "go"
      refine rd_len (.inl hS) ?_
      walk_at "go"
      refine ite2 (fun hd2 => ?_) (fun hd2 => ?_)
      · exfalso
        have := of_decide_eq_true hd2
        have hd : ¬ ((0 : Int) < ((ns.map V.int).length : Nat)) := fun z => hd (decide_eq_true z)
        omega
      · walk_at "go"
        refine rd_i (by decide) ?_
        walk_at "go"
        refine rd_i (.inl (by decide)) ?_
        walk_at "go"
        exact ⟨by show 3 ≤ sizeLine; decide, (fin _ _).2⟩
end

end Cs
namespace Cs
open PySem L2
open PyProof.Rows (envOfC)
/-! an alphabet of m distinct characters -/
def allSigns : List Nat := [97, 98, 99, 100, 101, 102, 103, 104, 105, 106, 107, 108, 109, 110, 111, 112, 113, 114, 115, 116, 117, 118, 119, 120, 121, 122, 48, 49, 50, 51, 52, 53, 54, 55, 56, 57, 32, 45, 46, 95]
theorem allSigns_eq : Str.ofString "abcdefghijklmnopqrstuvwxyz0123456789 -." ++ Str.ofString "_" = S allSigns := by decide +kernel
theorem allSigns_nd : allSigns.Nodup := by decide +kernel
def sp_alphabet : Sp := fun vs H Q _ => ∃ (a : Addr) (m : Int) (n : Nat), vs = [.ref a, .int m] ∧ Src a (n + 6) H ∧ 1 ≤ m ∧ m ≤ 6 ∧ ∀ (al : List Nat) (H' : Hp), Alp al → (al.length : Int) = m → Src a n H' → Kp a H H' → Q (.str (S al)) H'
theorem use_alphabet {a : Addr} {m : Int} {n : Nat} {H : Hp} {Q : VK} {E : XK} (h : Src a (n + 6) H) (h0 : 1 ≤ m) (h1 : m ≤ 6) (k : ∀ (al : List Nat) (H' : Hp), Alp al → (al.length : Int) = m → Src a n H' → Kp a H H' → Q (.str (S al)) H') : sp_alphabet [.ref a, .int m] H Q E :=
  ⟨a, m, n, rfl, h, h0, h1, k⟩
theorem perm_erase {α : Type} : ∀ {l : List α} {j : Nat} {x : α}, l[j]? = some x → l.Perm (x :: l.eraseIdx j)
  | [], _, _, h => by simp at h
  | a :: l, 0, x, h => by
    have e : a = x := by simpa using h
    subst e
    exact List.Perm.refl _
  | a :: l, j + 1, x, h => by
    have ih := perm_erase (l := l) (j := j) (x := x) (by simpa using h)
    exact (List.Perm.cons a ih).trans (List.Perm.swap x a _)
theorem perm_pop {α : Type} {l : List α} {m : List α} {j : Nat} {x : α} (h : l[j]? = some x) : (m ++ l).Perm ((m ++ [x]) ++ l.eraseIdx j) := by
  rw [List.append_assoc]
  exact List.Perm.append_left m (perm_erase h)
section
variable {P : Program} {w : World} {K : PySem.W.Frag} {mg : Str → Option Value} {base : Heap}
theorem ok_alphabet (B : Blt mg) (G__law_draw : Cal P w K mg base 1 "_law_draw" ["_law_source_here", "_law_many"] sp_draw) (F : At K mg "_law_alphabet" s__law_alphabet ["_law_source_here", "_law_many"]) : Cal P w K mg base 2 "_law_alphabet" ["_law_source_here", "_law_many"] sp_alphabet := by
  refine F.ok sc__law_alphabet (fun vs H Q E h => ?_) (fun f cdv A outer s H vs Q E hr h => ?_)
  · obtain ⟨a, m, n, rfl, _⟩ := h
    rfl
  · obtain ⟨a, m, n, rfl, hS, m0, m1, k⟩ := h
    refine ⟨_, (pss_cons (ps_set (i := 2) sc__law_alphabet.nd rfl (Or.inr rfl) (pe_callTy (call_list_str rfl) (by rfl) B.list (by decide +kernel) (pa_cons (pe_op op_add_str pe_str pe_str) pa_nil)))
    (pss_one (ps_ret (pe_joinK (K := K) (by rfl) pe_str (pe_lc (own := [("_law_k", 3)]) rfl sc__law_alphabet.nd (pi_range1 (by rfl) B.range (pa_cons (pv 1) pa_nil)) (blkOk_by (N := ["_law_source_here", "_law_many", "_law_left", "_law_k"]) (sc := defScope s__law_alphabet) (by decide +kernel)) (fun _ _ _ _ _ => (pg_name (i := 3) sc__law_alphabet.nd rfl (Or.inl rfl))) (fun _ _ _ _ _ => pts_nil) (fun _ _ _ _ _ => (pe_bmK (K := K) (by rfl) PySem.F.plainAttrs_list PySem.F.slot_list_pop PySem.F.type_list_pop mt_popAt (pv 2) (pa_cons (pe_c G__law_draw (hr.mono (by first | decide | omega)) (pa_cons (pv 0) (pa_cons (pe_callB (call_len_seqK (K := K) (by rfl)) (by rfl) B.len PySem.boot_len (pa_cons (pv 2) pa_nil)) pa_nil))) pa_nil)))))))), ?_⟩
    walk_at "go"
    refine ⟨_, _, rfl, rfl, by decide +kernel, ?_⟩
    rw [allSigns_eq]
    refine ⟨_, rfl, by decide +kernel, fun L hL => ?_⟩
    walk_at "go"
    refine rd_rng1j (by omega) (by omega) ?_
    intro D hD
    have La : L ≠ a := hS.ne hL
    have DL : D ≠ L := fun z => by rw [z, upd_same] at hD; cases hD
    have hD0 : H D = none := by rw [upd_ne DL] at hD; exact hD
    have Da : D ≠ a := hS.ne hD0
    refine lc_range (lo := 0) (n := m.toNat) (fun i H' => ∃ left made : List Nat, H' L = some (.lst (left.map fun c => V.str (S [c]))) ∧ H' D = some (.lst (made.map fun c => V.str (S [c]))) ∧ (made ++ left).Perm allSigns ∧ made.length = i ∧ i ≤ 6 ∧ Src a (n + (6 - i)) H' ∧ Kp a H H') ?_ ?_ ?_
    · refine ⟨allSigns, [], ?_, upd_same, by simp, rfl, by omega, (hS.lay La).lay Da, (Kp.refl.lay hL).lay hD0⟩
      rw [upd_ne DL.symm, upd_same, signs_S, List.map_map]; rfl
    · rintro i H' hi ⟨left, made, eL, eD, hp, hl, i6, hS', kp⟩
      have hlen : made.length + left.length = 40 := by
        have := hp.length_eq
        rw [List.length_append] at this
        exact this
      walk_at "go"
      refine ⟨rfl, ?_⟩
      walk_at "go"
      refine ⟨.inl ⟨rfl, _, SqL.of eL⟩, ?_⟩
      walk_at "go"
      refine rd_len (.inl (SqL.of eL)) ?_
      walk_at "go"
      have e6 : n + (6 - i) = n + (6 - (i + 1)) + 1 := by omega
      rw [e6] at hS'
      refine use_draw hS' (by rw [List.length_map]; omega) (by rw [List.length_map]; omega) fun d H2 d0 d1 hS2 k2 => ?_
      walk_at "go"
      rw [List.length_map] at d1
      obtain ⟨j, hj⟩ : ∃ j : Nat, d = (j : Int) := ⟨d.toNat, by omega⟩
      subst hj
      have hj2 : j < left.length := by omega
      refine ⟨L, _, _, j, V.str (S [left[j]]), rfl, rfl, k2.at La eL, by omega, by omega, ?_, by rw [List.getElem?_map, List.getElem?_eq_getElem hj2]; rfl, ?_⟩
      · rw [List.length_map]; exact seqIx hj2
      · refine ⟨_, by rw [upd_ne DL]; exact k2.at Da eD, by rw [List.length_map]; show _ < sizeLine; rw [PySem.sizeLine_eq]; omega, left.eraseIdx j, made ++ [left[j]], ?_, ?_, ?_, ?_, by omega, (hS2.lay La).lay Da, ?_⟩
        · rw [upd_ne DL.symm, upd_same]
          congr 2
          exact map_erase _ _ _
        · rw [upd_same, List.map_append]; rfl
        · exact (perm_pop (List.getElem?_eq_getElem hj2)).symm.trans hp
        · rw [List.length_append, hl]; rfl
        · exact ((kp.trans k2).lay hL).lay hD0
    · rintro H' ⟨left, made, eL, eD, hp, hl, i6, hS', kp⟩
      refine ⟨_, D, made.map fun c => S [c], rfl, rfl, .inl (SqL.of (by rw [eD, List.map_map]; rfl)), ?_, ?_⟩
      · rw [sum_signs, List.length_map]
        show made.length + made.length * 0 ≤ _
        omega
      · walk_at "go"
        show Q (.str (Txt.join (Str.ofString "") (made.map fun c => S [c]))) H'
        rw [empty_S, join_signs]
        have nd : (made ++ left).Nodup := (hp.nodup_iff).mpr allSigns_nd
        refine k made H' ⟨(List.nodup_append.mp nd).1, by omega, by omega, fun c hc => ?_⟩ (by omega) (hS'.mono (by omega)) kp
        exact hp.subset (List.mem_append_left _ hc)
end

end Cs
namespace Cs
open PySem L2
open PyProof.Rows (envOfC)
theorem Same.ofKp2 {p : Addr} {H0 H1 H2 : Hp} (n : H0 p = none) (s : Same H0 H1) (k : Kp p H1 H2) : Same H0 H2 := fun b o e => k.at (ne_of_none e n) (s _ _ e)
def bT : Nat → Nat
  | 0 => 1
  | m + 1 => 1 + 3 * bT m
theorem bT_pos : ∀ m, 1 ≤ bT m
  | 0 => Nat.le_refl _
  | m + 1 => by show 1 ≤ 1 + 3 * bT m; omega
theorem NsD.mT {al : List Nat} (hA : Alp al) : ∀ {m : Nat} {d : PyData}, NsD al m d → Cs.mT d ≤ bT m := by
  intro m
  induction m with
  | zero =>
    intro d h
    cases h with
    | set h => rw [(ex_set hA h).T]; exact bT_pos _
  | succ m ih =>
    intro d h
    have e1 : bT (m + 1) = 1 + 3 * bT m := rfl
    have p1 := bT_pos m
    cases h with
    | set h => rw [(ex_set hA h).T]; exact bT_pos _
    | again h hg =>
      have n1 : kS "again" ≠ kS "set" := by decide +kernel
      have := ih h
      unfold dAgain
      rw [mT_eq]
      have e0 : ∀ (p lo hi : PyData), rel (kS "again") [p, lo, hi] = [p] := fun p lo hi => by unfold rel; rw [if_neg n1, if_pos rfl]; rfl
      rw [e0]; simp; omega
    | not h =>
      have n1 : kS "not" ≠ kS "set" := by decide +kernel
      have n3 : kS "not" ≠ kS "again" := by decide +kernel
      have := ih h
      rw [mT_eq]
      have e0 : ∀ p : PyData, rel (kS "not") [p] = [p] := fun p => by unfold rel; rw [if_neg n1, if_neg n3]
      rw [e0]; simp; omega
    | @many _ ds w hw hl h =>
      have n1 : w ≠ kS "set" := by rcases hw with rfl | rfl | rfl <;> decide +kernel
      have n2 : w ≠ kS "again" := by rcases hw with rfl | rfl | rfl <;> decide +kernel
      rw [mT_eq]
      have e0 : rel w ds = ds := by unfold rel; rw [if_neg n1, if_neg n2]
      rw [e0]
      have : ∀ l : List PyData, (∀ d ∈ l, NsD al m d) → (l.map Cs.mT).sum ≤ l.length * bT m := by
        intro l
        induction l with
        | nil => intro _; simp
        | cons d l il =>
          intro hh
          have a := ih (hh d (by simp))
          have b := il fun x hx => hh x (by simp [hx])
          rw [List.map_cons, List.sum_cons, List.length_cons, Nat.add_mul, Nat.one_mul]; omega
      have a := this ds h
      have b : ds.length * bT m ≤ 3 * bT m := Nat.mul_le_mul_right _ hl
      omega
theorem wrap_ok {al : List Nat} {w : Str} {d : PyData} (hw : w = kS "not" ∨ w = kS "any" ∨ w = kS "all" ∨ w = kS "row") (hF : mF al d = true) : mF al (.tuple [.str w, d]) = true ∧ mT (.tuple [.str w, d]) = 1 + mT d ∧ mD (.tuple [.str w, d]) = 1 + mD d := by
  have n1 : w ≠ kS "set" := by rcases hw with rfl | rfl | rfl | rfl <;> decide +kernel
  have n2 : w ≠ kS "again" := by rcases hw with rfl | rfl | rfl | rfl <;> decide +kernel
  have e0 : rel w [d] = [d] := by unfold rel; rw [if_neg n1, if_neg n2]
  refine ⟨?_, by rw [mT_eq, e0]; simp, by rw [mD_eq, e0]; simp⟩
  rw [mF_eq, e0, mWF_eq, if_neg n1]
  by_cases z : w = kS "not"
  · rw [if_pos z]; simp [hF]
  · rw [if_neg z, if_neg n2]
    rcases hw with y | y | y | y
    · exact absurd y z
    · rw [y]; simp [hF]
    · rw [y]; simp [hF]
    · rw [y]; simp [hF]
def bL : Nat → Nat
  | 0 => 2600
  | j + 1 => 3 * bL j + 10
def oD : Option PyData → PyData
  | none => .none
  | some d => d
theorem oV.dp {K : PySem.W.Frag} {H : Hp} {v : V} : ∀ {o : Option PyData}, oV H v o → Dp K H v (oD o)
  | none, h => by
    have h : v = .non := h
    subst h; exact .non
  | some d, h => Tp.dp h
theorem fin_nb {al T : List Nat} (hA : Alp al) : Nb 21 (.tuple [oD (finR al T).1, .int ((finR al T).2 : Nat)]) := by
  have ho : Nb 20 (oD (finR al T).1) := by
    unfold finR
    cases hr : rdE al T 80 0 with
    | mk o e =>
      cases o with
      | none => exact trivial
      | some d =>
        show Nb 20 (oD (if e < T.length ∨ mPat al d = false then ((none : Option PyData), e) else (some d, e)).1)
        by_cases z : e < T.length ∨ mPat al d = false
        · rw [if_pos z]; exact trivial
        · rw [if_neg z]
          have hp : mPat al d = true := by
            cases y : mPat al d with
            | true => rfl
            | false => exact absurd (.inr y) z
          obtain ⟨hF, _, hT, _⟩ := mPat_iff.mp hp
          exact (mF_nb hA d hF).mono (Nat.le_trans (mD_le_mT d) hT)
  intro x hx
  simp only [List.mem_cons, List.not_mem_nil, or_false] at hx
  rcases hx with rfl | rfl
  · exact ho
  · exact trivial
section
variable {P : Program} {w : World} {K : PySem.W.Frag} {mg : Str → Option Value} {base : Heap}
theorem ok_law (B : Blt mg) (G__law_source : Cal P w K mg base 1 "_law_source" ["_law_script", "_law_k"] (sp_source K)) (G__law_alphabet : Cal P w K mg base 2 "_law_alphabet" ["_law_source_here", "_law_many"] sp_alphabet)
    (G__law_draw : Cal P w K mg base 1 "_law_draw" ["_law_source_here", "_law_many"] sp_draw) (G__law_pattern : Cal P w K mg base 5 "_law_pattern" ["_law_source_here", "_law_alphabet_here", "_law_room"] sp_pattern_)
    (G__law_nested : Cal P w K mg base 7 "_law_nested" ["_law_source_here", "_law_alphabet_here", "_law_depth"] (sp_nested 4)) (G__law_written : Cal P w K mg base 190 "_law_written" ["_law_expression"] (sp_fmt 70)) (G__law_spoilt : Cal P w K mg base 2 "_law_spoilt" ["_law_source_here", "_law_alphabet_here", "_law_text"] sp_spoilt)
    (G__law_told : Cal P w K mg base 25 "_law_told" ["_law_alphabet_here", "_law_text"] sp_told) (G__law_read_pattern : Cal P w K mg base 190 "_law_read_pattern" ["_law_alphabet_here", "_law_text"] sp_rpat)
    {f : Addr} {fd : FuncData} (F : Fun K "law" "law" s_law f fd) : FnOk P w K mg base CX0 200 f fd ["_law_script"] (spLaw K) := by
  refine F.ok (k := 199) sc_law (fun vs H Q E h => ?_) (fun cdv A outer s H vs Q E hr h => ?_)
  · obtain ⟨a, ns, rfl, _⟩ := h
    rfl
  · obtain ⟨a, ns, rfl, hS, hlen, k⟩ := h
    refine ⟨_, (pss_cons (ps_for PassesOwn.never rfl (pi_range1 (by rfl) B.range (pa_cons pe_int pa_nil)) (pg_name (i := 1) sc_law.nd rfl (Or.inl rfl))
    (pss_cons (ps_set (i := 2) sc_law.nd rfl (Or.inl rfl) (pe_c G__law_source (hr.mono (by first | decide | omega)) (pa_cons (pv 0) (pa_cons (pv 1) pa_nil))))
    (pss_cons (ps_set (i := 3) sc_law.nd rfl (Or.inl rfl) (pe_c G__law_alphabet (hr.mono (by first | decide | omega)) (pa_cons (pv 2) (pa_cons (pe_op op_add pe_int (pe_c G__law_draw (hr.mono (by first | decide | omega)) (pa_cons (pv 2) (pa_cons pe_int pa_nil)))) pa_nil))))
    (pss_cons (ps_set (i := 4) sc_law.nd rfl (Or.inl rfl) (pe_c G__law_written (hr.mono (by first | decide | omega)) (pa_cons (pe_c G__law_pattern (hr.mono (by first | decide | omega)) (pa_cons (pv 2) (pa_cons (pv 3) (pa_cons (pe_op op_add pe_int (pe_c G__law_draw (hr.mono (by first | decide | omega)) (pa_cons (pv 2) (pa_cons pe_int pa_nil)))) pa_nil)))) pa_nil)))
    (pss_cons (ps_if (pt_cmpR op_eq (pe_c G__law_draw (hr.mono (by first | decide | omega)) (pa_cons (pv 2) (pa_cons pe_int pa_nil))) pe_int (nomark _))
    (pss_cons (ps_set (i := 5) sc_law.nd rfl (Or.inl rfl) (pe_c G__law_nested (hr.mono (by first | decide | omega)) (pa_cons (pv 2) (pa_cons (pv 3) (pa_cons (pe_op op_add pe_int (pe_c G__law_draw (hr.mono (by first | decide | omega)) (pa_cons (pv 2) (pa_cons pe_int pa_nil)))) pa_nil)))))
    (pss_cons (ps_for PassesOwn.never rfl (pi_range1 (by rfl) B.range (pa_cons (pe_ix (ix_listK (K := K) (by rfl)) (pe_lst (pa_cons pe_int (pa_cons pe_int (pa_cons pe_int (pa_cons pe_int pa_nil))))) (pe_c G__law_draw (hr.mono (by first | decide | omega)) (pa_cons (pv 2) (pa_cons pe_int pa_nil))) (fun _ _ => rfl)) pa_nil)) (pg_name (i := 6) sc_law.nd rfl (Or.inl rfl))
    (pss_one (ps_set (i := 5) sc_law.nd rfl (Or.inl rfl) (pe_tup (pa_cons (pe_ix (ix_listK (K := K) (by rfl)) (pe_lst (pa_cons pe_str (pa_cons pe_str (pa_cons pe_str (pa_cons pe_str pa_nil))))) (pe_c G__law_draw (hr.mono (by first | decide | omega)) (pa_cons (pv 2) (pa_cons pe_int pa_nil))) (fun _ _ => rfl)) (pa_cons (pv 5) pa_nil))))))
    (pss_one (ps_set (i := 4) sc_law.nd rfl (Or.inl rfl) (pe_c G__law_written (hr.mono (by first | decide | omega)) (pa_cons (pv 5) pa_nil))))))
    pss_nil)
    (pss_cons (ps_for PassesOwn.never rfl (pi_range1 (by rfl) B.range (pa_cons (pe_c G__law_draw (hr.mono (by first | decide | omega)) (pa_cons (pv 2) (pa_cons pe_int pa_nil))) pa_nil)) (pg_name (i := 6) sc_law.nd rfl (Or.inl rfl))
    (pss_one (ps_set (i := 4) sc_law.nd rfl (Or.inl rfl) (pe_c G__law_spoilt (hr.mono (by first | decide | omega)) (pa_cons (pv 2) (pa_cons (pv 3) (pa_cons (pv 4) pa_nil)))))))
    (pss_one (ps_if (PW.pt (pw_and (pt_cmpR op_lt (pe_callB call_len_str (by rfl) B.len PySem.boot_len (pa_cons (pv 4) pa_nil)) pe_int (nomark _)) (pw_and1 (pt_cmpR (op_neDK (K := K) (by rfl) hr.units) (pe_c G__law_told (hr.mono (by first | decide | omega)) (pa_cons (pv 3) (pa_cons (pv 4) pa_nil))) (pe_c G__law_read_pattern (hr.mono (by first | decide | omega)) (pa_cons (pv 3) (pa_cons (pv 4) pa_nil))) (nomark _)))))
    (pss_one (ps_ret pe_bl))
    pss_nil))))))))
    (pss_one (ps_ret pe_bl))), ?_⟩
    walk_at "go"
    refine rd_rng1j (by decide) (by decide) ?_
    refine for_range (lo := 0) (n := 8) (fun i σ H' => ∃ x1 x2 x3 x4 x5 x6 : Option V, σ = [some (.ref a), x1, x2, x3, x4, x5, x6] ∧ Same H H') ?_ ?_ ?_
    · exact ⟨_, _, _, _, _, _, rfl, Same.refl _⟩
    · rintro i σ H0 hi ⟨x1, x2, x3, x4, x5, x6, rfl, sm0⟩
      walk_at "go"
      refine ⟨a, ns, _, rfl, L2.Same.seq sm0 hS, by omega, by omega, fun p H1 hp sm1 hS1 => ?_⟩
      walk_at "go"
      refine use_draw (n := 2 ^ 39 - 1) (hS1.mono (by decide)) (by decide) (by decide) fun m0 H2 m1 m2 hS2 k2 => ?_
      obtain ⟨m, hm⟩ : ∃ m : Int, m = 1 + m0 := ⟨_, rfl⟩
      walk_at "go"
      rw [← hm]
      refine use_alphabet (n := 6001) (hS2.mono (by decide)) (by omega) (by omega) fun al H3 hA hal hS3 k3 => ?_
      have hal6 := hA.hi
      have bd : ∀ x : PyData, mT x ≤ 100 → mT x * (al.length + 20) ≤ 80000 := fun x hx => by
        have := Nat.mul_le_mul hx (show al.length + 20 ≤ 26 by omega)
        omega
      have bl : ∀ x : PyData, mF al x = true → mT x ≤ 100 → (fmt x).length ≤ 2600 := fun x hF hx => by
        have a1 := fmt_len x hF
        have := Nat.mul_le_mul hx (show al.length + 20 ≤ 26 by omega)
        omega
      walk_at "go"
      refine use_draw (n := 6000) hS3 (by decide) (by decide) fun r0 H4 r1 r2 hS4 k4 => ?_
      obtain ⟨room, hroom⟩ : ∃ room : Int, room = 1 + r0 := ⟨_, rfl⟩
      walk_at "go"
      rw [← hroom]
      refine use_pattern_ (n := 5000) hA (by omega) (by omega) (hS4.mono (by decide)) fun v d H5 hd hv hS5 k5 => ?_
      obtain ⟨hF, _, hT, _⟩ := mPat_iff.mp (hd.pat hA (by omega) (by omega))
      walk_at "go"
      refine use_fmt hv hF (Nat.le_trans (mD_le_mT d) (by omega)) (bd d (by omega)) fun H6 s6 => ?_
      have k16 : Kp p H1 H6 := (k2.trans (k3.trans (k4.trans k5))).trans (Kp.of s6)
      have hS6 := hS5.same s6
      have lT0 := bl d hF (by omega)
      with_reducible refine rd_gname ?_
      try dsimp only
      refine rd_cutV (fun σ' H' => ∃ (T : List Nat) (y5 y6 : Option V), σ' = [some (.ref a), some (.int (0 + (i : Int))), some (.ref p), some (.str (S al)), some (.str (S T)), y5, y6] ∧ T.length ≤ 2600 ∧ Src p 1000 H' ∧ Kp p H1 H') (fun nx fin => ?_) ?_
      · walk_at "go"
        refine use_draw (n := 4999) hS6 (by decide) (by decide) fun c H7 c0 c1 hS7 k7 => ?_
        walk_at "go"
        refine ite2 (fun _ => ?_) (fun _ => ?_)
        · walk_at "go"
          refine use_draw (n := 4998) hS7 (by decide) (by decide) fun dz H8 dz0 dz1 hS8 k8 => ?_
          obtain ⟨dep, rfl⟩ : ∃ dep : Nat, dz = (dep : Int) := ⟨dz.toNat, by omega⟩
          walk_at "go"
          have hb : bN (dep + 1) ≤ 1280 := by
            rcases (by omega : dep = 0 ∨ dep = 1 ∨ dep = 2) with rfl | rfl | rfl <;> decide
          have hbT : bT (dep + 1) ≤ 40 := by
            rcases (by omega : dep = 0 ∨ dep = 1 ∨ dep = 2) with rfl | rfl | rfl <;> decide
          refine use_nested (m := dep + 1) (n := 3000) (by omega) (by omega) hA (hS8.mono (by omega)) fun u dn H9 hdn hu hS9 k9 => ?_
          obtain ⟨t, w', r, pp, ex⟩ := hdn.ex hA
          have bn60 : Bd (dep + 1 + 1) dn := (hdn.bd hA).mono (by decide) (Nat.le_refl _)
          have nT := NsD.mT hA hdn
          have nD := bn60.mD
          walk_at "go"
          refine ⟨by show 4 ≤ sizeLine; decide, rd_newK hS9 fun g H10 ga hg eg hS10 k10 => ?_⟩
          walk_at "go"
          refine use_draw (n := 2999) hS10 (by decide) (by decide) fun c3 H11 c30 c31 hS11 k11 => ?_
          obtain ⟨y, hy, hym⟩ := at_mem (xs := [V.int 0, .int 0, .int 5, .int 60]) c30 c31
          refine rd_ixl (SqL.of (k11.at ga eg)) hy ?_
          obtain ⟨mm, rfl, mm0, mm1⟩ : ∃ mm : Int, y = .int mm ∧ 0 ≤ mm ∧ mm ≤ 60 := by
            simp only [List.mem_cons, List.not_mem_nil, or_false] at hym
            rcases hym with rfl | rfl | rfl | rfl <;> exact ⟨_, rfl, by decide, by decide⟩
          walk_at "go"
          refine rd_rng1j (by omega) (by omega) ?_
          have k111 := k16.trans (k7.trans (k8.trans (k9.trans (k10.trans k11))))
          have t911 := (TS.kp hS9 k10).trans (TS.kp hS10 k11)
          refine for_range (lo := 0) (n := mm.toNat) (fun j σ' H' => ∃ (u : V) (e : PyData) (y6 : Option V), σ' = [some (.ref a), some (.int (0 + (i : Int))), some (.ref p), some (.str (S al)), some (.str (S (fmt d))), some u, y6] ∧ Tp H' u e ∧ mF al e = true ∧ mT e ≤ 40 + j ∧ mD e ≤ 5 + j ∧ Src p (1000 + (60 - j)) H' ∧ Kp p H1 H') ?_ ?_ ?_
          · exact ⟨u, dn, _, rfl, hu.ts t911, ex.F, by omega, by omega, hS11.mono (by omega), k111⟩
          · rintro j σ' H12 hj ⟨u, e, y6, rfl, hu2, heF, heT, heD, hS12, k12⟩
            walk_at "go"
            refine ⟨by show 4 ≤ sizeLine; decide, rd_newK hS12 fun g H13 ga hg eg hS13 k13 => ?_⟩
            walk_at "go"
            refine use_draw (n := 1000 + (60 - (j + 1))) (hS13.mono (by omega)) (by decide) (by decide) fun c4 H14 c40 c41 hS14 k14 => ?_
            obtain ⟨y, hy, hym⟩ := at_mem (xs := [V.str (kS "not"), .str (kS "any"), .str (kS "all"), .str (kS "row")]) c40 c41
            refine rd_ixl (SqL.of (k14.at ga eg)) hy ?_
            obtain ⟨ww, rfl, hww⟩ : ∃ ww : Str, y = .str ww ∧ (ww = kS "not" ∨ ww = kS "any" ∨ ww = kS "all" ∨ ww = kS "row") := by
              simp only [List.mem_cons, List.not_mem_nil, or_false] at hym
              rcases hym with rfl | rfl | rfl | rfl
              · exact ⟨_, rfl, .inl rfl⟩
              · exact ⟨_, rfl, .inr (.inl rfl)⟩
              · exact ⟨_, rfl, .inr (.inr (.inl rfl))⟩
              · exact ⟨_, rfl, .inr (.inr (.inr rfl))⟩
            walk_at "go"
            refine ⟨by show 2 ≤ sizeLine; decide, rd_newK hS14 fun q H15 qa hq eq hS15 k15 => ?_⟩
            walk_at "go"
            obtain ⟨e1, e2, e3⟩ := wrap_ok hww heF
            have t1215 := (TS.kp hS12 k13).trans ((TS.kp hS13 k14).trans (TS.kp hS14 k15))
            exact ⟨.ref q, .tuple [.str ww, e], _, rfl, .tup eq (.cons (.str _) (.cons (hu2.ts t1215) .nil)), e1, by omega, by omega, hS15, k12.trans (k13.trans (k14.trans k15))⟩
          · rintro σ' H12 ⟨u, e, y6, rfl, hu2, heF, heT, heD, hS12, k12⟩
            walk_at "go"
            refine use_fmt hu2 heF (by omega) (bd e (by omega)) fun H13 s13 => ?_
            walk_at "go"
            exact fin _ _ ⟨fmt e, _, _, rfl, bl e heF (by omega), (hS12.mono (by omega)).same s13, k12.trans (Kp.of s13)⟩
        · walk_at "go"
          exact fin _ _ ⟨fmt d, _, _, rfl, lT0, hS7.mono (by omega), k16.trans k7⟩
      rintro σ7 H7 ⟨T0, y5, y6, rfl, lT, hS7, k7⟩
      try dsimp only
      refine rd_cutV (fun σ' H' => ∃ (T : List Nat) (y6 : Option V), σ' = [some (.ref a), some (.int (0 + (i : Int))), some (.ref p), some (.str (S al)), some (.str (S T)), y5, y6] ∧ T.length ≤ 80000 ∧ Kp p H1 H') (fun nx fin => ?_) ?_
      · walk_at "go"
        refine use_draw (n := 999) hS7 (by decide) (by decide) fun c H8 c0 c1 hS8 k8 => ?_
        walk_at "go"
        refine rd_rng1j (by omega) (by omega) ?_
        refine for_range (lo := 0) (n := c.toNat) (fun j σ' H' => ∃ (T : List Nat) (y6 : Option V), σ' = [some (.ref a), some (.int (0 + (i : Int))), some (.ref p), some (.str (S al)), some (.str (S T)), y5, y6] ∧ T.length ≤ bL j ∧ j ≤ 2 ∧ Src p (100 + 6 * (2 - j)) H' ∧ Kp p H1 H') ?_ ?_ ?_
        · exact ⟨T0, _, rfl, lT, by omega, hS8.mono (by omega), k7.trans k8⟩
        · rintro j σ' H9 hj ⟨T, y6, rfl, hTl, hj2, hS9, k9⟩
          have hbl : bL j ≤ 23440 := by
            rcases (by omega : j = 0 ∨ j = 1 ∨ j = 2) with rfl | rfl | rfl <;> decide
          have hj1 : j ≤ 1 := by omega
          walk_at "go"
          have e9 : 100 + 6 * (2 - j) = 100 + 6 * (2 - (j + 1)) + 6 := by omega
          rw [e9] at hS9
          refine use_spoilt hal6 (by omega) hS9 fun U H10 hU hS10 k10 => ?_
          walk_at "go"
          exact ⟨U, _, rfl, by show U.length ≤ 3 * bL j + 10; omega, by omega, hS10, k9.trans k10⟩
        · rintro σ' H9 ⟨T, y6, rfl, hTl, hj2, hS9, k9⟩
          have hbl : bL c.toNat ≤ 23440 := by
            rcases (by omega : c.toNat = 0 ∨ c.toNat = 1 ∨ c.toNat = 2) with z | z | z <;> rw [z] <;> decide
          exact fin _ _ ⟨T, _, rfl, by omega, k9⟩
      rintro σ8 H8 ⟨T, y6, rfl, hTl, k8⟩
      have smX : ∀ {H' : Hp}, Same H8 H' → Same H H' := fun s => L2.Same.trans sm0 (L2.Same.trans (Same.ofKp2 hp sm1 k8) s)
      walk_at "go"
      refine ⟨S T, rfl, by rw [S_len, PySem.sizeLine_eq]; omega, ?_⟩
      rw [S_len]
      walk_at "go"
      refine ite2 (fun z => ?_) (fun z => ?_)
      · have z : T.length < 400 := by have := of_decide_eq_true z; omega
        walk_at "go"
        refine ⟨al, T, rfl, hA, z, fun t1 v1 H9 s9 et1 hv1 => ?_⟩
        walk_at "go"
        refine ⟨al, T, rfl, hA, z, fun t2 v2 H10 s10 et2 hv2 => ?_⟩
        have nb := fin_nb (al := al) (T := T) hA
        have sh := nb.shaped (by decide)
        have d1 : Dp K H10 (.ref t1) (.tuple [oD (finR al T).1, .int ((finR al T).2 : Nat)]) := Dp.mono s10 (.tup (SqT.of et1) (.cons hv1.dp (.cons (.int _) .nil)))
        have d2 : Dp K H10 (.ref t2) (.tuple [oD (finR al T).1, .int ((finR al T).2 : Nat)]) := .tup (SqT.of et2) (.cons hv2.dp (.cons (.int _) .nil))
        refine ⟨_, _, d1, d2, sh, sh, ?_⟩
        rw [(eqv_iff nb nb).mpr rfl]
        walk_at "go"
        refine iteF ?_
        walk_at "go"
        exact ⟨_, _, _, _, _, _, rfl, smX (L2.Same.trans s9 s10)⟩
      · refine iteF ?_
        walk_at "go"
        exact ⟨_, _, _, _, _, _, rfl, smX (Same.refl _)⟩
    · rintro σ H' ⟨x1, x2, x3, x4, x5, x6, rfl, sm⟩
      walk_at "go"
      exact k H'
end

end Cs
namespace Cs
open PySem L2
open PyProof.Rows (envOfC)
/-! the caught error of notations, its root -/
theorem kit_of {K : PySem.W.Frag} {a b : Addr} {c : Bool} (hd : PySem.W.hasDictIn K b = true) (ty : PySem.W.typeIn K (.ref b) = some (.type "type")) (s : PySem.W.subIn K (.ref a) (.ref b) = some c) (h : c = false → a ≠ b) : PySem.W.kitOne K (.ref a) (.ref b) = some c := by
  unfold PySem.W.kitOne
  by_cases e : a = b
  · subst e
    have hc : c = true := by
      cases c
      · exact absurd rfl (h rfl)
      · rfl
    subst hc
    rw [if_pos (by simp)]
  · rw [if_neg (by simpa using e)]
    show (if ((PySem.W.clsIn K b).isSome && PySem.W.typeIn K (.ref b) == some (.type "type")) = true then PySem.W.subIn K (.ref a) (.ref b) else Option.none) = some c
    rw [cls_some hd, ty, if_pos (by simp), s]
theorem inotx_mk {K : PySem.W.Frag} {h : Heap} {mg : Str → Option Value} {CN root : Addr} (X : K.In h) (G : h.Ns mainGlobals mg) (aI : PySem.W.nsIn K mainGlobals "InvalidNotation" = some (some (.ref CN))) (aR : PySem.W.nsIn K mainGlobals "CutError" = some (some (.ref root))) (BV : mg "ValueError" = none)
    (e : eB K CN = true) (tI : PySem.W.typeIn K (.ref CN) = some (.type "type")) (no : PySem.W.findIn K (.ref CN) "index" = some none) (sI : PySem.W.subIn K (.ref CN) (.ref CN) = some true)
    (hr : PySem.W.hasDictIn K root = true) (tr : PySem.W.typeIn K (.ref root) = some (.type "type")) (sR : PySem.W.subIn K (.ref CN) (.ref root) = some true) (sV : PySem.W.subIn K (.ref CN) (.type "ValueError") = some true) : INotX K mg CN root where
  gI := PySem.W.mg_of X G aI
  c_CutError := ⟨_, PySem.W.mg_of X G aR, rfl⟩
  BV := BV
  exm := PySem.W.exm_ref (eB_ok e).1.hs (eB_ok e).1.hd tI sI
  ex := (eB_ok e).1
  xf := (eB_ok e).2.1
  no := no
  kR := kit_of hr tr sR (fun q => nomatch q)
  kV := by
    unfold PySem.W.kitOne
    rw [if_neg (by simp)]
    show (if PySem.W.kitMeta "ValueError" = true then PySem.W.subIn K (.ref CN) (.type "ValueError") else Option.none) = some true
    rw [if_pos (by decide +kernel), sV]
theorem inotx_all {P : Program} {w : World} {K : PySem.W.Frag} {mg : Str → Option Value} {base : Heap} {CN root : Addr} (t : INotX K mg CN root) (N : NewAt P w K mg base "InvalidNotation" CN ["index"]) : ∃ CN root, INotX K mg CN root ∧ NewAt P w K mg base "InvalidNotation" CN ["index"] := ⟨_, _, t, N⟩

end Cs

open PySem PySem.W PyProof.Rows in
set_option maxRecDepth 100000 in
set_option maxHeartbeats 0 in
theorem PySem.Challenge.cw_cutscribe_k81_notations_spoilt_holds : PySem.Challenge.rw_cutscribe_k81_notations_spoilt.Holds := by
  w_on; o_law; k_head; (case hw => w_witness2)
  k_fill
  refine Cs.walk_c (st := Cs.s_law) (l := PySem.Challenge.rw_cutscribe_k81_notations_spoilt) rfl rfl rfl (fun w h Y => PySem.W.kIn_of Y) ?F
  case F =>
    intro w mg h KX G
    have B : Cs.Blt mg := by
      refine' Cs.blt_mk KX G ?z0 ?z1 ?z2 ?z3 ?z4 ?z5 ?z6 ?z7 ?z8 ?z9 ?z10 ?z11 ?z12 ?z13 ?z14 ?z15 ?z16
      (case z0 => k_is)
      (case z1 => k_is)
      (case z2 => k_is)
      (case z3 => k_is)
      (case z4 => k_is)
      (case z5 => k_is)
      (case z6 => k_is)
      (case z7 => k_is)
      (case z8 => k_is)
      (case z9 => k_is)
      (case z10 => k_is)
      (case z11 => k_is)
      (case z12 => k_is)
      (case z13 => k_is)
      (case z14 => k_is)
      (case z15 => k_is)
      (case z16 => k_is)
    have A_is_pattern : Cs.At (L2.KOf KX) mg "is_pattern" Cs.s_is_pattern ["alphabet", "value"] := by
      refine' Cs.at_mk KX G ?a ?l ?c ?k ?b
      (case a => k_is)
      (case l => k_is)
      (case c => k_is)
      (case k => k_is)
      (case b => exact fun _ _ _ _ _ _ us hl => match us, hl with | [_, _], _ => rfl)
    have A__is_small_expression : Cs.At (L2.KOf KX) mg "_is_small_expression" Cs.s__is_small_expression ["alphabet", "value"] := by
      refine' Cs.at_mk KX G ?a ?l ?c ?k ?b
      (case a => k_is)
      (case l => k_is)
      (case c => k_is)
      (case k => k_is)
      (case b => exact fun _ _ _ _ _ _ us hl => match us, hl with | [_, _], _ => rfl)
    have A__is_well_formed : Cs.At (L2.KOf KX) mg "_is_well_formed" Cs.s__is_well_formed ["alphabet", "value"] := by
      refine' Cs.at_mk KX G ?a ?l ?c ?k ?b
      (case a => k_is)
      (case l => k_is)
      (case c => k_is)
      (case k => k_is)
      (case b => exact fun _ _ _ _ _ _ us hl => match us, hl with | [_, _], _ => rfl)
    have A__is_selection : Cs.At (L2.KOf KX) mg "_is_selection" Cs.s__is_selection ["alphabet", "value"] := by
      refine' Cs.at_mk KX G ?a ?l ?c ?k ?b
      (case a => k_is)
      (case l => k_is)
      (case c => k_is)
      (case k => k_is)
      (case b => exact fun _ _ _ _ _ _ us hl => match us, hl with | [_, _], _ => rfl)
    have A__is_range : Cs.At (L2.KOf KX) mg "_is_range" Cs.s__is_range ["low", "high"] := by
      refine' Cs.at_mk KX G ?a ?l ?c ?k ?b
      (case a => k_is)
      (case l => k_is)
      (case c => k_is)
      (case k => k_is)
      (case b => exact fun _ _ _ _ _ _ us hl => match us, hl with | [_, _], _ => rfl)
    have A__is_integer_within : Cs.At (L2.KOf KX) mg "_is_integer_within" Cs.s__is_integer_within ["value", "least", "most"] := by
      refine' Cs.at_mk KX G ?a ?l ?c ?k ?b
      (case a => k_is)
      (case l => k_is)
      (case c => k_is)
      (case k => k_is)
      (case b => exact fun _ _ _ _ _ _ us hl => match us, hl with | [_, _, _], _ => rfl)
    have A__parts : Cs.At (L2.KOf KX) mg "_parts" Cs.s__parts ["expression"] := by
      refine' Cs.at_mk KX G ?a ?l ?c ?k ?b
      (case a => k_is)
      (case l => k_is)
      (case c => k_is)
      (case k => k_is)
      (case b => exact fun _ _ _ _ _ _ us hl => match us, hl with | [_], _ => rfl)
    have A__width : Cs.At (L2.KOf KX) mg "_width" Cs.s__width ["expression"] := by
      refine' Cs.at_mk KX G ?a ?l ?c ?k ?b
      (case a => k_is)
      (case l => k_is)
      (case c => k_is)
      (case k => k_is)
      (case b => exact fun _ _ _ _ _ _ us hl => match us, hl with | [_], _ => rfl)
    have A_parse_pattern : Cs.At (L2.KOf KX) mg "parse_pattern" Cs.s_parse_pattern ["alphabet", "text"] := by
      refine' Cs.at_mk KX G ?a ?l ?c ?k ?b
      (case a => k_is)
      (case l => k_is)
      (case c => k_is)
      (case k => k_is)
      (case b => exact fun _ _ _ _ _ _ us hl => match us, hl with | [_, _], _ => rfl)
    have A__read_expression : Cs.At (L2.KOf KX) mg "_read_expression" Cs.s__read_expression ["alphabet", "text"] := by
      refine' Cs.at_mk KX G ?a ?l ?c ?k ?b
      (case a => k_is)
      (case l => k_is)
      (case c => k_is)
      (case k => k_is)
      (case b => exact fun _ _ _ _ _ _ us hl => match us, hl with | [_, _], _ => rfl)
    have A__expected : Cs.At (L2.KOf KX) mg "_expected" Cs.s__expected ["text", "at", "choices"] := by
      refine' Cs.at_mk KX G ?a ?l ?c ?k ?b
      (case a => k_is)
      (case l => k_is)
      (case c => k_is)
      (case k => k_is)
      (case b => exact fun _ _ _ _ _ _ us hl => match us, hl with | [_, _, _], _ => rfl)
    have A__shared : Cs.At (L2.KOf KX) mg "_shared" Cs.s__shared ["one", "other"] := by
      refine' Cs.at_mk KX G ?a ?l ?c ?k ?b
      (case a => k_is)
      (case l => k_is)
      (case c => k_is)
      (case k => k_is)
      (case b => exact fun _ _ _ _ _ _ us hl => match us, hl with | [_, _], _ => rfl)
    have A__read_set : Cs.At (L2.KOf KX) mg "_read_set" Cs.s__read_set ["alphabet", "text", "at"] := by
      refine' Cs.at_mk KX G ?a ?l ?c ?k ?b
      (case a => k_is)
      (case l => k_is)
      (case c => k_is)
      (case k => k_is)
      (case b => exact fun _ _ _ _ _ _ us hl => match us, hl with | [_, _, _], _ => rfl)
    have A__put_into_last : Cs.At (L2.KOf KX) mg "_put_into_last" Cs.s__put_into_last ["opened", "part", "text", "at"] := by
      refine' Cs.at_mk KX G ?a ?l ?c ?k ?b
      (case a => k_is)
      (case l => k_is)
      (case c => k_is)
      (case k => k_is)
      (case b => exact fun _ _ _ _ _ _ us hl => match us, hl with | [_, _, _, _], _ => rfl)
    have A__read_numbers : Cs.At (L2.KOf KX) mg "_read_numbers" Cs.s__read_numbers ["text", "at"] := by
      refine' Cs.at_mk KX G ?a ?l ?c ?k ?b
      (case a => k_is)
      (case l => k_is)
      (case c => k_is)
      (case k => k_is)
      (case b => exact fun _ _ _ _ _ _ us hl => match us, hl with | [_, _], _ => rfl)
    have A__law_source : Cs.At (L2.KOf KX) mg "_law_source" Cs.s__law_source ["_law_script", "_law_k"] := by
      refine' Cs.at_mk KX G ?a ?l ?c ?k ?b
      (case a => k_is)
      (case l => k_is)
      (case c => k_is)
      (case k => k_is)
      (case b => exact fun _ _ _ _ _ _ us hl => match us, hl with | [_, _], _ => rfl)
    have A__law_draw : Cs.At (L2.KOf KX) mg "_law_draw" Cs.s__law_draw ["_law_source_here", "_law_many"] := by
      refine' Cs.at_mk KX G ?a ?l ?c ?k ?b
      (case a => k_is)
      (case l => k_is)
      (case c => k_is)
      (case k => k_is)
      (case b => exact fun _ _ _ _ _ _ us hl => match us, hl with | [_, _], _ => rfl)
    have A__law_alphabet : Cs.At (L2.KOf KX) mg "_law_alphabet" Cs.s__law_alphabet ["_law_source_here", "_law_many"] := by
      refine' Cs.at_mk KX G ?a ?l ?c ?k ?b
      (case a => k_is)
      (case l => k_is)
      (case c => k_is)
      (case k => k_is)
      (case b => exact fun _ _ _ _ _ _ us hl => match us, hl with | [_, _], _ => rfl)
    have A__law_set : Cs.At (L2.KOf KX) mg "_law_set" Cs.s__law_set ["_law_source_here", "_law_alphabet_here"] := by
      refine' Cs.at_mk KX G ?a ?l ?c ?k ?b
      (case a => k_is)
      (case l => k_is)
      (case c => k_is)
      (case k => k_is)
      (case b => exact fun _ _ _ _ _ _ us hl => match us, hl with | [_, _], _ => rfl)
    have A__law_row : Cs.At (L2.KOf KX) mg "_law_row" Cs.s__law_row ["_law_source_here", "_law_alphabet_here", "_law_many"] := by
      refine' Cs.at_mk KX G ?a ?l ?c ?k ?b
      (case a => k_is)
      (case l => k_is)
      (case c => k_is)
      (case k => k_is)
      (case b => exact fun _ _ _ _ _ _ us hl => match us, hl with | [_, _, _], _ => rfl)
    have A__law_plain : Cs.At (L2.KOf KX) mg "_law_plain" Cs.s__law_plain ["_law_source_here", "_law_alphabet_here", "_law_room"] := by
      refine' Cs.at_mk KX G ?a ?l ?c ?k ?b
      (case a => k_is)
      (case l => k_is)
      (case c => k_is)
      (case k => k_is)
      (case b => exact fun _ _ _ _ _ _ us hl => match us, hl with | [_, _, _], _ => rfl)
    have A__law_pattern : Cs.At (L2.KOf KX) mg "_law_pattern" Cs.s__law_pattern ["_law_source_here", "_law_alphabet_here", "_law_room"] := by
      refine' Cs.at_mk KX G ?a ?l ?c ?k ?b
      (case a => k_is)
      (case l => k_is)
      (case c => k_is)
      (case k => k_is)
      (case b => exact fun _ _ _ _ _ _ us hl => match us, hl with | [_, _, _], _ => rfl)
    have A__law_nested : Cs.At (L2.KOf KX) mg "_law_nested" Cs.s__law_nested ["_law_source_here", "_law_alphabet_here", "_law_depth"] := by
      refine' Cs.at_mk KX G ?a ?l ?c ?k ?b
      (case a => k_is)
      (case l => k_is)
      (case c => k_is)
      (case k => k_is)
      (case b => exact fun _ _ _ _ _ _ us hl => match us, hl with | [_, _, _], _ => rfl)
    have A__law_measures : Cs.At (L2.KOf KX) mg "_law_measures" Cs.s__law_measures ["_law_value"] := by
      refine' Cs.at_mk KX G ?a ?l ?c ?k ?b
      (case a => k_is)
      (case l => k_is)
      (case c => k_is)
      (case k => k_is)
      (case b => exact fun _ _ _ _ _ _ us hl => match us, hl with | [_], _ => rfl)
    have A__law_is_pattern : Cs.At (L2.KOf KX) mg "_law_is_pattern" Cs.s__law_is_pattern ["_law_expression"] := by
      refine' Cs.at_mk KX G ?a ?l ?c ?k ?b
      (case a => k_is)
      (case l => k_is)
      (case c => k_is)
      (case k => k_is)
      (case b => exact fun _ _ _ _ _ _ us hl => match us, hl with | [_], _ => rfl)
    have A__law_written : Cs.At (L2.KOf KX) mg "_law_written" Cs.s__law_written ["_law_expression"] := by
      refine' Cs.at_mk KX G ?a ?l ?c ?k ?b
      (case a => k_is)
      (case l => k_is)
      (case c => k_is)
      (case k => k_is)
      (case b => exact fun _ _ _ _ _ _ us hl => match us, hl with | [_], _ => rfl)
    have A__law_read_word : Cs.At (L2.KOf KX) mg "_law_read_word" Cs.s__law_read_word ["_law_text", "_law_at"] := by
      refine' Cs.at_mk KX G ?a ?l ?c ?k ?b
      (case a => k_is)
      (case l => k_is)
      (case c => k_is)
      (case k => k_is)
      (case b => exact fun _ _ _ _ _ _ us hl => match us, hl with | [_, _], _ => rfl)
    have A__law_read_set : Cs.At (L2.KOf KX) mg "_law_read_set" Cs.s__law_read_set ["_law_alphabet_here", "_law_text", "_law_at"] := by
      refine' Cs.at_mk KX G ?a ?l ?c ?k ?b
      (case a => k_is)
      (case l => k_is)
      (case c => k_is)
      (case k => k_is)
      (case b => exact fun _ _ _ _ _ _ us hl => match us, hl with | [_, _, _], _ => rfl)
    have A__law_read_again : Cs.At (L2.KOf KX) mg "_law_read_again" Cs.s__law_read_again ["_law_alphabet_here", "_law_text", "_law_at"] := by
      refine' Cs.at_mk KX G ?a ?l ?c ?k ?b
      (case a => k_is)
      (case l => k_is)
      (case c => k_is)
      (case k => k_is)
      (case b => exact fun _ _ _ _ _ _ us hl => match us, hl with | [_, _, _], _ => rfl)
    have A__law_read_parts : Cs.At (L2.KOf KX) mg "_law_read_parts" Cs.s__law_read_parts ["_law_alphabet_here", "_law_text", "_law_at", "_law_word"] := by
      refine' Cs.at_mk KX G ?a ?l ?c ?k ?b
      (case a => k_is)
      (case l => k_is)
      (case c => k_is)
      (case k => k_is)
      (case b => exact fun _ _ _ _ _ _ us hl => match us, hl with | [_, _, _, _], _ => rfl)
    have A__law_read_expression : Cs.At (L2.KOf KX) mg "_law_read_expression" Cs.s__law_read_expression ["_law_alphabet_here", "_law_text", "_law_at"] := by
      refine' Cs.at_mk KX G ?a ?l ?c ?k ?b
      (case a => k_is)
      (case l => k_is)
      (case c => k_is)
      (case k => k_is)
      (case b => exact fun _ _ _ _ _ _ us hl => match us, hl with | [_, _, _], _ => rfl)
    have A__law_read_pattern : Cs.At (L2.KOf KX) mg "_law_read_pattern" Cs.s__law_read_pattern ["_law_alphabet_here", "_law_text"] := by
      refine' Cs.at_mk KX G ?a ?l ?c ?k ?b
      (case a => k_is)
      (case l => k_is)
      (case c => k_is)
      (case k => k_is)
      (case b => exact fun _ _ _ _ _ _ us hl => match us, hl with | [_, _], _ => rfl)
    have A__law_spoilt : Cs.At (L2.KOf KX) mg "_law_spoilt" Cs.s__law_spoilt ["_law_source_here", "_law_alphabet_here", "_law_text"] := by
      refine' Cs.at_mk KX G ?a ?l ?c ?k ?b
      (case a => k_is)
      (case l => k_is)
      (case c => k_is)
      (case k => k_is)
      (case b => exact fun _ _ _ _ _ _ us hl => match us, hl with | [_, _, _], _ => rfl)
    have A__law_told : Cs.At (L2.KOf KX) mg "_law_told" Cs.s__law_told ["_law_alphabet_here", "_law_text"] := by
      refine' Cs.at_mk KX G ?a ?l ?c ?k ?b
      (case a => k_is)
      (case l => k_is)
      (case c => k_is)
      (case k => k_is)
      (case b => exact fun _ _ _ _ _ _ us hl => match us, hl with | [_, _], _ => rfl)
    have C_MOST_TUPLES : ∃ u, mg "MOST_TUPLES" = some u ∧ L2.RelV (.int 20) u := by
      refine' Cs.const_mk KX G ?a ?r
      (case a => k_is)
      (case r => exact ⟨_, rfl⟩)
    have C_MOST_WIDTH : ∃ u, mg "MOST_WIDTH" = some u ∧ L2.RelV (.int 10) u := by
      refine' Cs.const_mk KX G ?a ?r
      (case a => k_is)
      (case r => exact ⟨_, rfl⟩)
    have C_MOST_REPEATS : ∃ u, mg "MOST_REPEATS" = some u ∧ L2.RelV (.int 4) u := by
      refine' Cs.const_mk KX G ?a ?r
      (case a => k_is)
      (case r => exact ⟨_, rfl⟩)
    refine' Cs.law_mk ?a ?l ?c ?k ?b ?G2
    (case a => k_is)
    (case l => k_is)
    (case c => k_is)
    (case k => k_is)
    (case b => exact fun _ _ _ _ _ _ _ => rfl)
    (case G2 =>
      intro base f fd F
      have T : Cs.PatK mg := ⟨C_MOST_TUPLES, C_MOST_WIDTH, C_MOST_REPEATS⟩
      have hN : ∃ p, Cs.NotK (L2.KOf KX) mg p := by
        refine' Cs.not_mk (Cs.tup_mk KX G ?aB ?lB ?zB ?vB)
        (case aB => ((try dsimp only [L2.KOf]); k_is))
        (case lB => ((try dsimp only [L2.KOf]); k_is))
        (case zB => decide +kernel)
        (case vB => exact .cons ⟨_, rfl⟩ (.cons ⟨_, rfl⟩ (.cons ⟨_, rfl⟩ (.cons ⟨_, rfl⟩ (.cons ⟨_, rfl⟩ (.cons ⟨_, rfl⟩ (.cons ⟨_, rfl⟩ (.cons ⟨_, rfl⟩ (.cons ⟨_, rfl⟩ .nil)))))))))
      have BV : mg "ValueError" = none := by
        refine' PySem.W.mg_none_of KX G ?a
        (case a => ((try dsimp only [L2.KOf]); k_is))
      have hI : ∃ CN root, Cs.INotX (L2.KOf KX) mg CN root ∧ Cs.NewAt PySem.Challenge.rw_cutscribe_k81_notations_spoilt.prog w (L2.KOf KX) mg base "InvalidNotation" CN ["index"] := by
        refine' Cs.inotx_all (Cs.inotx_mk KX G ?aI ?aR BV ?e ?tI ?no ?sI ?hr ?tr ?sR ?sV) ?newI
        (case aI => ((try dsimp only [L2.KOf]); k_is))
        (case aR => ((try dsimp only [L2.KOf]); k_is))
        (case e =>
          (try dsimp only [L2.KOf])
          refine Cs.eB_mk ?_ ?_ ?_ ?_ ?_ ?_ ?_ ?_ ?_
          all_goals k_is)
        (case tI => ((try dsimp only [L2.KOf]); k_is))
        (case no => ((try dsimp only [L2.KOf]); k_is))
        (case sI => ((try dsimp only [L2.KOf]); k_is))
        (case hr => ((try dsimp only [L2.KOf]); k_is))
        (case tr => ((try dsimp only [L2.KOf]); k_is))
        (case sR => ((try dsimp only [L2.KOf]); k_is))
        (case sV => ((try dsimp only [L2.KOf]); k_is))
        (case newI =>
          refine' Cs.new_mk (st := Cs.s_i_InvalidNotation) (qn := "InvalidNotation.__init__") (ps := ["self", "index"]) (PySem.W.mg_of KX G ?g) ?o ?r ?sa ?tC ?e ?iC ?tI ?l ?c ?k ?b ?ok
          (case g => ((try dsimp only [L2.KOf]); k_is))
          (case o => ((try dsimp only [L2.KOf]); k_is))
          (case r => decide +kernel)
          (case sa => ((try dsimp only [L2.KOf]); k_is))
          (case tC => ((try dsimp only [L2.KOf]); k_is))
          (case e =>
            (try dsimp only [L2.KOf])
            refine Cs.eB_mk ?_ ?_ ?_ ?_ ?_ ?_ ?_ ?_ ?_
            all_goals k_is)
          (case iC => ((try dsimp only [L2.KOf]); k_is))
          (case tI => ((try dsimp only [L2.KOf]); k_is))
          (case l => ((try dsimp only [L2.KOf]); k_is))
          (case c => ((try dsimp only [L2.KOf]); k_is))
          (case k => ((try dsimp only [L2.KOf]); k_is))
          (case b => exact fun _ _ _ _ _ _ us hl => match us, hl with | [_, _], _ => rfl)
          (case ok => exact fun hO _ _ F => Cs.ok_i_InvalidNotation hO (by ((try dsimp only [L2.KOf]); k_is)) F))
      obtain ⟨pB, TN⟩ := hN
      obtain ⟨CN, root, TI, NI⟩ := hI
      have Gd := Cs.ok_draw (P := PySem.Challenge.rw_cutscribe_k81_notations_spoilt.prog) (w := w) (base := base) A__law_draw
      have Gs := Cs.ok_source (P := PySem.Challenge.rw_cutscribe_k81_notations_spoilt.prog) (w := w) (base := base) B A__law_source
      have Ga := Cs.ok_alphabet B Gd A__law_alphabet
      have Gse := Cs.ok_set B Gd A__law_set
      have Gr := Cs.ok_row B Gse A__law_row
      have Gwi := Cs.ok_within (P := PySem.Challenge.rw_cutscribe_k81_notations_spoilt.prog) (w := w) (base := base) B A__is_integer_within
      have Gra := Cs.ok_range B T Gwi A__is_range
      have Gsel := Cs.ok_selection (P := PySem.Challenge.rw_cutscribe_k81_notations_spoilt.prog) (w := w) (base := base) B A__is_selection
      have Gwf := Cs.ok_wf B Gsel Gra A__is_well_formed
      have Gp := Cs.ok_parts (P := PySem.Challenge.rw_cutscribe_k81_notations_spoilt.prog) (w := w) (base := base) A__parts
      have Gw := Cs.ok_width B Gp A__width
      have Gsm := Cs.ok_small B T Gwf Gp A__is_small_expression
      have Gpat := Cs.ok_pattern B T Gsm Gw A_is_pattern
      have Gpl := Cs.ok_plain B Gd Gse Gr A__law_plain
      have Gpt := Cs.ok_pattern_ Gd Gpl A__law_pattern
      have Gne := Cs.ok_nested B Gd Gse A__law_nested 4
      have Gme := fun al : List Nat => Cs.ok_measures (P := PySem.Challenge.rw_cutscribe_k81_notations_spoilt.prog) (w := w) (base := base) B A__law_measures al 81
      have Gis := Cs.ok_ispat Gme A__law_is_pattern
      have Gwr := Cs.ok_written (P := PySem.Challenge.rw_cutscribe_k81_notations_spoilt.prog) (w := w) (base := base) B A__law_written 70
      have Gsp := Cs.ok_spoilt B Gd A__law_spoilt
      have Grs := Cs.ok_rs (P := PySem.Challenge.rw_cutscribe_k81_notations_spoilt.prog) (w := w) (base := base) B A__law_read_set
      have Grw := Cs.ok_rword (P := PySem.Challenge.rw_cutscribe_k81_notations_spoilt.prog) (w := w) (base := base) B A__law_read_word
      have Grx := Cs.rx_tower B Grs Grw A__law_read_again A__law_read_parts A__law_read_expression 80
      have Grp := Cs.ok_rpat B Grx (Gis.mono (by decide)) A__law_read_pattern
      have Gpa := Cs.parse_all B T TN NI A__shared A__expected A__read_set A__read_numbers A__put_into_last A__read_expression A_parse_pattern Gpat
      have Gto := Cs.ok_told B TI Gpa A__law_told
      exact (Cs.ok_law B Gs Ga Gd Gpt (Gne.mono (by decide)) (Gwr.mono (by decide)) Gsp Gto (Grp.mono (by decide)) F).mono (by decide))
#print axioms PySem.Challenge.cw_cutscribe_k81_notations_spoilt_holds
